import PyProof.Rows.All
import Wide.All
import OpenK.AllK
import Wide.FinOn
import PyProof.EqAt
import PyProof.EqKinds
import PyProof.TupleCall
import KE.BitLaws
import Open.SpecLaws
import KE.OsHead
import KE.OsGo
import PyProof.Rows.SortShellAny
import PyProof.ListRange
import KE.KEqDeep
import PySem.Challenge.RW_powerclasses_s01_answers
set_option Elab.async false
set_option linter.all false
set_option maxRecDepth 100000
/-! THE HAND LAYER, for ints, bools, texts, own classes, lists, tuples, dicts, comprehensions, walks over dicts, enumerate, zip, reversed, texts, calls, loops. Paste it whole ahead of your own text; what your proof does not reach may be deleted. -/
namespace L2
open PySem PySem.Spec PyProof.Rows

/-- a key: an int or a str -/
abbrev Key := Sum Int Str
def keyIs : Key → Value → Bool
  | .inl k, v => Value.isInt k v
  | .inr x, v => Value.isStrOf x v
def keyH (w : World) : Key → Int
  | .inl k => hashInt k
  | .inr x => hashStr w x
theorem keyIs_shape : ∀ {k : Key} {v : Value}, keyIs k v = true → (∃ i t, k = Sum.inl i ∧ v = Value.int i t) ∨ (∃ x t, k = Sum.inr x ∧ v = Value.str x t)
  | .inl i, v, h => by
    obtain ⟨t, e⟩ := Value.isInt_shape (k := i) (v := v) h
    exact .inl ⟨i, t, rfl, e⟩
  | .inr x, v, h => by
    obtain ⟨t, e⟩ := Value.isStrOf_shape (x := x) (v := v) h
    exact .inr ⟨x, t, rfl, e⟩
theorem key_ll (a b : Int) : decide ((Sum.inl a : Key) = Sum.inl b) = (a == b) := by
  by_cases e : a = b
  · subst e; simp
  · have h : ¬ (Sum.inl a : Key) = Sum.inl b := fun q => e (Sum.inl.inj q)
    rw [decide_eq_false h]
    exact (beq_eq_false_iff_ne.mpr e).symm
theorem key_rr (a b : Str) : decide ((Sum.inr a : Key) = Sum.inr b) = decide (a = b) := by
  by_cases e : a = b
  · subst e; simp
  · have h : ¬ (Sum.inr a : Key) = Sum.inr b := fun q => e (Sum.inr.inj q)
    rw [decide_eq_false h, decide_eq_false e]
theorem key_lr (a : Int) (b : Str) : decide ((Sum.inl a : Key) = Sum.inr b) = false := decide_eq_false (fun q => nomatch q)
theorem key_rl (a : Str) (b : Int) : decide ((Sum.inr a : Key) = Sum.inl b) = false := decide_eq_false (fun q => nomatch q)

def mixKind (prog : Program) (w : World) : PySem.KeyKind prog w Key where
  is := keyIs
  hash := keyH w
  inj := fun v a b ha hb => by
    rcases keyIs_shape ha with ⟨i, t, rfl, rfl⟩ | ⟨x, t, rfl, rfl⟩
    · rcases keyIs_shape hb with ⟨j, u, rfl, e⟩ | ⟨y, u, rfl, e⟩
      · injection e with e1 _; rw [e1]
      · exact nomatch e
    · rcases keyIs_shape hb with ⟨j, u, rfl, e⟩ | ⟨y, u, rfl, e⟩
      · exact nomatch e
      · injection e with e1 _; rw [e1]
  byValue := fun k v h => by
    rcases keyIs_shape h with ⟨i, t, rfl, rfl⟩ | ⟨x, t, rfl, rfl⟩ <;> rfl
  pyHash := fun hv h => by
    rcases keyIs_shape hv with ⟨i, t, rfl, rfl⟩ | ⟨x, t, rfl, rfl⟩
    · exact wpAny_pyHash_int h
    · exact wpAny_pyHash_str h
  eqBool := fun hu hv h => by
    rcases keyIs_shape hu with ⟨i, t, rfl, rfl⟩ | ⟨x, t, rfl, rfl⟩
    · rcases keyIs_shape hv with ⟨j, u, rfl, rfl⟩ | ⟨y, u, rfl, rfl⟩
      · rw [key_ll] at h; exact wpAny_eqBool_int h
      · rw [key_lr] at h; exact SeqAt.EqAt.int_str i t y u _ _ _ _ h
    · rcases keyIs_shape hv with ⟨j, u, rfl, rfl⟩ | ⟨y, u, rfl, rfl⟩
      · rw [key_rl] at h; exact SeqAt.EqAt.str_int x t j u _ _ _ _ h
      · rw [key_rr] at h; exact wpAny_eqBool_str h
  «strs» := fun k x t v h => by
    rcases keyIs_shape h with ⟨i, u, rfl, e⟩ | ⟨y, u, rfl, e⟩
    · exact nomatch e
    · injection e with e1 _
      subst e1
      cases v <;> rfl

end L2

namespace L2
open PySem PySem.Spec PyProof.Rows

/-- a value, without the heap -/
inductive V where
  | non | bl (b : Bool) | int (i : Int) | str (x : Str) | byt (b : Array UInt8) | flt (b : UInt64) | ref (a : Addr) | ty (n : String)
  deriving DecidableEq

def RelV : V → Value → Prop
  | .non, u => u = Value.none
  | .bl b, u => u = Value.bool b
  | .int i, u => ∃ t, u = Value.int i t
  | .str x, u => ∃ t, u = Value.str x t
  | .byt b, u => ∃ t, u = Value.bytes b t
  | .flt b, u => ∃ t, u = Value.float b t
  | .ref a, u => u = Value.ref a
  | .ty n, u => u = Value.type n

abbrev Vals : List V → List Value → Prop := Paired RelV
theorem Vals.length {xs : List V} {us : List Value} (r : Vals xs us) : xs.length = us.length := Paired.length r
theorem Vals.get : ∀ {xs : List V} {us : List Value} {i : Nat} {x : V}, Vals xs us → xs[i]? = some x → ∃ u, us[i]? = some u ∧ RelV x u
  | _, _, _, _, .nil, e => by simp at e
  | _, _, 0, _, .cons r _, e => by simp at e; subst e; exact ⟨_, rfl, r⟩
  | _, _, i + 1, x, .cons _ t, e => by
    obtain ⟨u, h1, h2⟩ := Vals.get (i := i) (x := x) t (by simpa using e)
    exact ⟨u, by simpa using h1, h2⟩
theorem Vals.set {x : V} {u : Value} (r : RelV x u) : ∀ {xs : List V} {us : List Value} (i : Nat), Vals xs us → Vals (xs.set i x) (us.set i u)
  | _, _, _, .nil => .nil
  | _, _, 0, .cons _ t => .cons r t
  | _, _, i + 1, .cons q t => .cons q (Vals.set r i t)
theorem Vals.append : ∀ {xs ys : List V} {us ws : List Value}, Vals xs us → Vals ys ws → Vals (xs ++ ys) (us ++ ws)
  | _, _, _, _, .nil, s => s
  | _, _, _, _, .cons r t, s => .cons r (Vals.append t s)
theorem Vals.take : ∀ {xs : List V} {us : List Value} (n : Nat), Vals xs us → Vals (xs.take n) (us.take n)
  | _, _, 0, _ => .nil
  | _, _, _ + 1, .nil => .nil
  | _, _, n + 1, .cons r t => .cons r (Vals.take n t)
theorem Vals.drop : ∀ {xs : List V} {us : List Value} (n : Nat), Vals xs us → Vals (xs.drop n) (us.drop n)
  | _, _, 0, r => r
  | _, _, _ + 1, .nil => .nil
  | _, _, n + 1, .cons _ t => Vals.drop n t
def RelO : Option V → Option Value → Prop
  | some v, some u => RelV v u
  | none, none => True
  | _, _ => False
def KV {κ : Type} : List (κ × V) → List (κ × Value) → Prop := Paired fun (p : κ × V) (q : κ × Value) => p.1 = q.1 ∧ RelV p.2 q.2

/-- a key of a dict (00_mix): an int or a text -/
def kV : Key → V
  | .inl i => .int i
  | .inr x => .str x

/-- what stands at a tracked address -/
inductive HO where
  /-- a list -/
  | lst (xs : List V)
  /-- a tuple (never changes) -/
  | tup (xs : List V)
  /-- a dict whose keys are ints and texts; one whose keys are tuples of ints and texts (the empty one is both) -/
  | dK (kvs : List (Key × V)) | dT (kvs : List (List Key × V))
  /-- a set of ints: its members, its size -/
  | set (S : Int → Bool) (n : Nat)
  /-- an instance of the class at C, its dict at dx, its attributes -/
  | ins (C dx : Addr) (fs : List (Str × V))
  /-- the dict of the instance at x -/
  | own (x : Addr)
  /-- the dict of an exception -/
  | xd (fs : List (Str × V))
  /-- a bound method, f of x -/
  | met (f x : Addr)
  /-- a range object lo, lo + 1, .. below hi -/
  | rng (lo hi : Int)
  /-- a thing that is known to the object (the script; a dict while a loop walks it): read, never written while it is so -/
  | frz (o : Obj) (u : HO)
  /-- a code object's table -/
  | tbl (ps : Array Value)
  /-- any other thing, by what is true of its one object (a def of one's own: SetO a S n := HO.ext fun h => ..) -/
  | ext (φ : Heap → Prop)

abbrev Hp := Addr → Option HO
def upd (H : Hp) (a : Addr) (o : HO) : Hp := fun b => if b = a then some o else H b
theorem upd_same {H : Hp} {a : Addr} {o : HO} : upd H a o a = some o := by unfold upd; rw [if_pos rfl]
theorem upd_ne {H : Hp} {a b : Addr} {o : HO} (h : b ≠ a) : upd H a o b = H b := by unfold upd; rw [if_neg h]
/-- two objects of different content stand apart -/
theorem ne_of {H : Hp} {a b : Addr} {o u : HO} (h : H a = some o) (h' : H b = some u) (d : o ≠ u) : a ≠ b := by
  intro e; subst e; rw [h] at h'; exact d (Option.some.inj h')
theorem ne_of_none {H : Hp} {a b : Addr} {o : HO} (h : H a = some o) (h' : H b = none) : a ≠ b := by
  intro e; subst e; rw [h] at h'; cases h'

section
variable (P : Program) (w : World)
def ObjOk (H : Hp) (h : Heap) (a : Addr) : HO → Prop
  | .lst xs => xs.length ≤ sizeLine ∧ ∃ (its : List Value) (n : Nat), Vals xs its ∧ h.get? a = some { cls := .type "list", data := .seq its.toArray n }
  | .tup xs => xs.length ≤ sizeLine ∧ ∃ its : List Value, Vals xs its ∧ IsTup h a its.toArray
  | .dK kvs => kvs.length ≤ sizeLine ∧ (a == sysModules) = false ∧ ∃ vs, KV kvs vs ∧ h.DictOf (mixKind P w) a vs
  | .dT kvs => kvs.length ≤ sizeLine ∧ (a == sysModules) = false ∧ ∃ xs : List (List Key × Addr × Value),
      Paired (fun (p : List Key × V) (q : List Key × Addr × Value) => p.1 = q.1 ∧ H q.2.1 = some (.tup (p.1.map kV)) ∧ RelV p.2 q.2.2) kvs xs ∧
      ∃ o es ep, h.get? a = some o ∧ o.ExactDict ∧ o.data = .dict es ep ∧ es.toList = xs.map (entryOfKey (tupleKind (mixKind P w))) ∧ (xs.map (·.1)).Nodup
  | .set S n => h.SetOf (intKind P w) a S n
  | .ins C dx fs => H dx = some (.own a) ∧ fs.length ≤ 1000 ∧ dx ≠ a ∧ h.get? a = some (PySem.W.instObj C dx) ∧
      ∃ mA, h.Ns1 dx mA ∧ (∀ f, RelO (fs.lookup f) (mA f)) ∧ PySem.Within mA (fs.map (·.1))
  | .own _ => ∃ o, h.get? a = some o
  | .xd fs => ∃ mA, h.Ns1 a mA ∧ ∀ f, RelO (fs.lookup f) (mA f)
  | .rng lo hi => ∃ t u v, h.get? a = some { cls := .type "range", data := .fields #[.int lo t, .int hi u, .int 1 v] }
  | .frz o u => h.get? a = some o ∧ ObjOk H h a u
  | .tbl ps => h.get? a = some { cls := .none, data := .fields ps }
  | .met f x => h.get? a = some (PySem.W.methodObj (.ref f) (.ref x))
  | .ext φ => φ h ∧ (∃ o, h.get? a = some o) ∧ ∀ h1 h2 : Heap, φ h1 → (∀ o, h1.get? a = some o → h2.get? a = some o) → φ h2
/-- the abstract heap is held -/
def HOk (H : Hp) (h : Heap) : Prop := ∀ a o, H a = some o → ObjOk P w H h a o
end

section
variable {P : Program} {w : World} {H H' : Hp} {h h' : Heap} {a : Addr} {o : HO}
theorem ObjOk.lt (x : ObjOk P w H h a o) : a < h.objs.size := by
  cases o with
  | lst xs => obtain ⟨_, _, _, _, e⟩ := x; exact Heap.lt_size e
  | tup xs => obtain ⟨_, _, _, p⟩ := x; exact p.lt
  | dK kvs => obtain ⟨_, _, _, _, o, _, _, e, _⟩ := x; exact Heap.lt_size e
  | dT kvs => obtain ⟨_, _, _, _, o, _, _, e, _⟩ := x; exact Heap.lt_size e
  | set S n => obtain ⟨o, _, _, _, e, _⟩ := x; exact Heap.lt_size e
  | ins C dx fs => obtain ⟨_, _, _, e, _⟩ := x; exact Heap.lt_size e
  | own y => obtain ⟨_, e⟩ := x; exact Heap.lt_size e
  | xd fs => obtain ⟨_, ⟨_, _, _, e, _⟩, _⟩ := x; exact Heap.lt_size e
  | rng lo hi => obtain ⟨_, _, _, e⟩ := x; exact Heap.lt_size e
  | frz ob u => obtain ⟨e, _⟩ := x; exact Heap.lt_size e
  | tbl ps => exact Heap.lt_size (show h.get? a = some _ from x)
  | met f y => exact Heap.lt_size (show h.get? a = some _ from x)
  | ext φ => obtain ⟨_, ⟨_, e⟩, _⟩ := x; exact Heap.lt_size e
theorem Paired.mapP {α β : Type} {F G : α → β → Prop} : ∀ {l₁ : List α} {l₂ : List β}, Paired F l₁ l₂ → (∀ a b, F a b → G a b) → Paired G l₁ l₂
  | _, _, .nil, _ => .nil
  | _, _, .cons r t, f => .cons (f _ _ r) (Paired.mapP t f)
/-- what an object's description leans on: its own object, its own dict, the tuples -/
theorem ObjOk.stay (x : ObjOk P w H h a o) (k : ∀ b u, (b = a ∨ H b = some (.own a)) → h.get? b = some u → h'.get? b = some u)
    (ho : ∀ b, H b = some (.own a) → H' b = some (.own a)) (ht : ∀ b xs, H b = some (.tup xs) → H' b = some (.tup xs)) : ObjOk P w H' h' a o := by
  induction o with
  | lst xs => obtain ⟨z, its, n, r, e⟩ := x; exact ⟨z, its, n, r, k _ _ (.inl rfl) e⟩
  | tup xs => obtain ⟨z, its, r, ob, e, c⟩ := x; exact ⟨z, its, r, ob, k _ _ (.inl rfl) e, c⟩
  | dK kvs => obtain ⟨z, y, vs, r, ob, es, ep, e, c⟩ := x; exact ⟨z, y, vs, r, ob, es, ep, k _ _ (.inl rfl) e, c⟩
  | dT kvs =>
    obtain ⟨z, y, xs, r, ob, es, ep, e, c⟩ := x
    exact ⟨z, y, xs, Paired.mapP r fun p q z => ⟨z.1, ht _ _ z.2.1, z.2.2⟩, ob, es, ep, k _ _ (.inl rfl) e, c⟩
  | set S n => obtain ⟨ob, es, ep, t, e, c⟩ := x; exact ⟨ob, es, ep, t, k _ _ (.inl rfl) e, c⟩
  | ins C dx fs =>
    obtain ⟨d, z, ne, e, mA, ⟨od, es, ep, e2, c⟩, r⟩ := x
    exact ⟨ho _ d, z, ne, k _ _ (.inl rfl) e, mA, ⟨od, es, ep, k _ _ (.inr d) e2, c⟩, r⟩
  | own y => obtain ⟨ob, e⟩ := x; exact ⟨ob, k _ _ (.inl rfl) e⟩
  | xd fs => obtain ⟨mA, ⟨od, es, ep, e, c⟩, r⟩ := x; exact ⟨mA, ⟨od, es, ep, k _ _ (.inl rfl) e, c⟩, r⟩
  | rng lo hi => obtain ⟨t, u, v, e⟩ := x; exact ⟨t, u, v, k _ _ (.inl rfl) e⟩
  | frz ob u ih => obtain ⟨e, q⟩ := x; exact ⟨k _ _ (.inl rfl) e, ih q⟩
  | tbl ps =>
    have e : h.get? a = some { cls := .none, data := .fields ps } := x
    show h'.get? a = some { cls := .none, data := .fields ps }
    exact k a _ (.inl rfl) e
  | met f y =>
    have e : h.get? a = some (PySem.W.methodObj (.ref f) (.ref y)) := x
    show h'.get? a = some (PySem.W.methodObj (.ref f) (.ref y))
    exact k a _ (.inl rfl) e
  | ext φ => obtain ⟨p, ⟨o, e⟩, st⟩ := x; exact ⟨st _ _ p fun o q => k _ _ (.inl rfl) q, ⟨o, k _ _ (.inl rfl) e⟩, st⟩
theorem HOk.lt (x : HOk P w H h) (e : H a = some o) : a < h.objs.size := (x a o e).lt
theorem HOk.fresh (x : HOk P w H h) (e : h.objs.size ≤ a) : H a = none := by
  cases q : H a with
  | none => rfl
  | some u => exact absurd (Nat.lt_of_lt_of_le (x.lt q) e) (Nat.lt_irrefl _)
/-- every object of the heap is kept -/
theorem HOk.kept (x : HOk P w H h) (k : ∀ b u, h.get? b = some u → h'.get? b = some u) : HOk P w H h' := fun a o e =>
  (x a o e).stay (fun b u _ q => k b u q) (fun _ q => q) fun _ _ q => q
/-- a new object is laid and tracked -/
theorem HOk.laid (x : HOk P w H h) (k : ∀ b u, h.get? b = some u → h'.get? b = some u) (hp : h.objs.size ≤ a) (new : ObjOk P w (upd H a o) h' a o) : HOk P w (upd H a o) h' := fun b u e => by
  have hn := x.fresh hp
  by_cases hb : b = a
  · subst hb; rw [upd_same] at e; cases e; exact new
  · rw [upd_ne hb] at e
    exact (x b u e).stay (fun c v _ q => k c v q) (fun c q => by rw [upd_ne (ne_of_none q hn)]; exact q) fun c xs q => by rw [upd_ne (ne_of_none q hn)]; exact q
end

/-- what may be read as u: it is u, or a known u -/
def Rd (H : Hp) (a : Addr) (u : HO) : Prop := H a = some u ∨ ∃ o, H a = some (.frz o u)
theorem Rd.ok {P : Program} {w : World} {H : Hp} {h : Heap} {a : Addr} {u : HO} (r : Rd H a u) (x : HOk P w H h) : ObjOk P w H h a u := by
  rcases r with r | ⟨o, r⟩
  · exact x a u r
  · obtain ⟨_, q⟩ := x a _ r
    exact q
/-- what may be written -/
def Mut : Option HO → Prop
  | some (.lst _) => True
  | some (.dK _) => True
  | some (.dT _) => True
  | some (.set _ _) => True
  | some (.ins _ _ _) => True
  | some (.ext _) => True
  | _ => False
section
variable {P : Program} {w : World} {H : Hp} {h h' : Heap} {x e : Addr} {o' : HO}
/-- the object at e is changed: x itself, or the dict of the instance x -/
theorem HOk.write (ok : HOk P w H h) (mu : Mut (H x)) (he : e = x ∨ H e = some (.own x)) (k : ∀ b u, b ≠ e → h.get? b = some u → h'.get? b = some u) (heo : ∃ u, h'.get? e = some u)
    (new : ObjOk P w (upd H x o') h' x o') : HOk P w (upd H x o') h' := fun b u q => by
  have nown : ∀ c y, H c = some (.own y) → c ≠ x := fun c y r z => by subst z; rw [r] at mu; exact mu
  have ntup : ∀ c xs, H c = some (.tup xs) → c ≠ x := fun c xs r z => by subst z; rw [r] at mu; exact mu
  by_cases hb : b = x
  · subst hb; rw [upd_same] at q; cases q; exact new
  · rw [upd_ne hb] at q
    by_cases hbe : b = e
    · have q' : H b = some (.own x) := by
        rcases he with z | z
        · exact absurd (hbe.trans z) hb
        · rw [hbe]; exact z
      rw [q] at q'; cases q'
      obtain ⟨v, hv⟩ := heo
      exact ⟨v, by rw [hbe]; exact hv⟩
    · refine (ok b u q).stay (fun c v hc r => k c v ?_ r) (fun c r => by rw [upd_ne (nown c b r)]; exact r) fun c xs r => by rw [upd_ne (ntup c xs r)]; exact r
      rcases hc with rfl | hc
      · exact hbe
      · rintro rfl
        rcases he with z | z
        · exact nown c b hc z
        · rw [hc] at z; cases z; exact hb rfl
end

/-! ### kept unless tracked; of the frames at fs (the callers') the slots may change (an exception that passes writes there); of the records at ex (iterators) nothing is said -/
structure Un (fs ex : List Addr) (H H' : Hp) (h h' : Heap) : Prop where
  keep : ∀ b o, h.get? b = some o → H b = none → b ∉ fs → b ∉ ex → h'.get? b = some o
  slot : ∀ b o, h.get? b = some o → H b = none → b ∈ fs → b ∉ ex → ∃ sl, h'.get? b = some { o with slots := sl }
  free : ∀ b o, h.get? b = some o → H b = none → b ∉ ex → H' b = none
  there : ∀ b o, h.get? b = some o → b ∉ ex → ∃ o', h'.get? b = some o'
  tups : ∀ b xs, H b = some (.tup xs) → H' b = some (.tup xs)
  frzs : ∀ b o u, H b = some (.frz o u) → H' b = some (.frz o u)
  tbls : ∀ b ps, H b = some (.tbl ps) → ∃ more, H' b = some (.tbl (ps ++ more))
section
variable {fs fs' ex ex' : List Addr} {H H1 H2 : Hp} {h h1 h2 h' : Heap} {a x e : Addr} {o : HO}
theorem Un.any (u : Un fs ex H H1 h h1) {b : Addr} {ob : Obj} (q : h.get? b = some ob) (n : H b = none) (hx : b ∉ ex) : ∃ sl, h1.get? b = some { ob with slots := sl } := by
  by_cases hb : b ∈ fs
  · exact u.slot b ob q n hb hx
  · exact ⟨ob.slots, u.keep b ob q n hb hx⟩
theorem Un.kept (k : ∀ b u, h.get? b = some u → h'.get? b = some u) : Un fs ex H H h h' :=
  ⟨fun b ob q _ _ _ => k b ob q, fun b ob q _ _ _ => ⟨ob.slots, k b ob q⟩, fun _ _ _ n _ => n, fun b ob q _ => ⟨ob, k b ob q⟩, fun _ _ q => q, fun _ _ _ q => q, fun _ ps q => ⟨#[], by rw [q]; simp⟩⟩
theorem Un.refl : Un fs ex H H h h := Un.kept fun _ _ q => q
theorem Un.laid (k : ∀ b u, h.get? b = some u → h'.get? b = some u) (hp : h.objs.size ≤ a) (hn : H a = none) : Un fs ex H (upd H a o) h h' where
  keep := fun b u q _ _ _ => k b u q
  slot := fun b u q _ _ _ => ⟨u.slots, k b u q⟩
  free := fun b u q n _ => by rw [upd_ne (Nat.ne_of_lt (Nat.lt_of_lt_of_le (Heap.lt_size q) hp))]; exact n
  there := fun b u q _ => ⟨u, k b u q⟩
  tups := fun b xs q => by rw [upd_ne (ne_of_none q hn)]; exact q
  frzs := fun b u xs q => by rw [upd_ne (ne_of_none q hn)]; exact q
  tbls := fun b ps q => ⟨#[], by rw [upd_ne (ne_of_none q hn), q]; simp⟩
theorem Un.write (mu : Mut (H x)) (he : e = x ∨ H e = some (.own x)) (k : ∀ b u, b ≠ e → h.get? b = some u → h'.get? b = some u) (heo : ∃ u, h'.get? e = some u) : Un fs ex H (upd H x o) h h' := by
  have hx : ∀ b, H b = none → b ≠ x := fun b n z => by subst z; rw [n] at mu; exact mu
  have hb : ∀ b, H b = none → b ≠ e := fun b n z => by
    subst z
    rcases he with r | r
    · exact hx b n r
    · rw [n] at r; cases r
  have hm : ∀ b u, H b = some u → ¬ Mut (some u) → b ≠ x := fun b u q nm z => by subst z; rw [q] at mu; exact nm mu
  refine ⟨fun b u q n _ _ => k b u (hb b n) q, fun b u q n _ _ => ⟨u.slots, k b u (hb b n) q⟩, fun b u q n _ => by rw [upd_ne (hx b n)]; exact n, fun b u q _ => ?_,
    fun b xs q => by rw [upd_ne (hm b _ q fun z => z)]; exact q, fun b u xs q => by rw [upd_ne (hm b _ q fun z => z)]; exact q, fun b ps q => ⟨#[], by rw [upd_ne (hm b _ q fun z => z), q]; simp⟩⟩
  by_cases hbe : b = e
  · subst hbe; exact heo
  · exact ⟨u, k b u hbe q⟩
end

/-! ### the heap without what is tracked -/
def trk (h : Heap) (H : Hp) : List Addr := (List.range h.objs.size).filter fun a => (H a).isSome
def hidT (h : Heap) (H : Hp) : Heap := PySem.W.hideAll h (trk h H)
theorem hidT_size (h : Heap) (H : Hp) : (hidT h H).objs.size = h.objs.size := PySem.W.hideAll_size _ _
theorem hidT_get {h : Heap} {H : Hp} {b : Addr} {o : Obj} (e : h.get? b = some o) (n : H b = none) : (hidT h H).get? b = some o :=
  PySem.W.hideAll_get _ e fun hm => by
    have q : (H b).isSome = true := (List.mem_filter.mp hm).2
    rw [n] at q; simp at q
theorem of_hidT {h : Heap} {H : Hp} {b : Addr} {o : Obj} (e : (hidT h H).get? b = some o) : h.get? b = some o ∧ H b = none := by
  have e' : h.get? b = some o := PySem.W.of_hideAll (trk h H) e
  refine ⟨e', ?_⟩
  cases q : H b with
  | none => rfl
  | some x =>
    have hm : b ∈ trk h H := List.mem_filter.mpr ⟨List.mem_range.mpr (Heap.lt_size e'), by simp [q]⟩
    have z : (hidT h H).get? b = none := PySem.W.hideAll_none (trk h H) hm
    rw [z] at e; cases e

/-! ### OpenK's ledger, filled with every new object but one -/
end L2

namespace L2
open PySem PySem.Spec PyProof.Rows

/-- the module's facts, over the base: the heap at the law's entry without what is tracked there -/
structure Mod (K : PySem.W.Frag) (mg : Str → Option Value) (base : Heap) : Prop where
  kin : K.In base
  glob : base.Ns mainGlobals mg
  blt : ∃ mb, base.Ns builtinsNs mb ∧ ∀ x : Str, x ≠ "__name__" → mb x = bootBuiltins x
  nolimit : base.NoLimit

/-- the context: a def's body (or a comprehension's block) running. base: fixed through the whole law; s₀, H₀: the entry; outer: the frames whose slots others may change (a def's callers); stack: all frames that run;
   ex: iterators that were made ahead of the entry and are walked here (a comprehension's); fn: the names whose cells were made at the entry (a def: all; a comprehension's block: its own); calm: not within an except suite; pn: pins that every state bears; xe: what is wanted of an exception that leaves the code -/
structure Cx where
  prog : Program
  w : World
  K : PySem.W.Frag
  mg : Str → Option Value
  base : Heap
  A : Around
  N : List Str
  s_0 : Shared
  H_0 : Hp
  env : Env
  outer : List Env
  stack : List Env
  ex : List Addr
  fn : Str → Bool
  calm : Bool
  pn : List (Addr × Obj)
  xe : Value → Shared → Prop
/-- the callers' frames -/
def frs (l : List Env) : List Addr := l.filterMap (·.frame)
abbrev Cx.fs (X : Cx) : List Addr := frs X.outer

def Vis (sc : Scope) (x : Str) : Prop := sc.names.lookup x = some .local ∨ sc.names.lookup x = some .cell ∨ sc.names.lookup x = some .free
def Loc (sc : Scope) (x : Str) : Prop := sc.names.lookup x = some .local ∨ sc.names.lookup x = some .cell
def Look (env : Env) (h : Heap) (m : Str → Option Value) (x : Str) (u : Value) : Prop :=
  (env.kindOf x = some .local ∧ m x = some u) ∨ ((env.kindOf x = some .cell ∨ env.kindOf x = some .free) ∧ ∃ c, env.cells.lookup x = some c ∧ h.IsCell c (some u))

structure Cx.Ok (X : Cx) : Prop where
  mod : Mod X.K X.mg X.base
  kind : X.env.scope.kind = .function
  glob : X.env.globals = mainGlobals
  blt : X.env.builtins = builtinsNs
  above : X.s_0.heap.objs.size ≤ X.env.locals
  inj : ∀ x y c, X.env.cells.lookup x = some c → X.env.cells.lookup y = some c → x = y
  has : ∀ x, (X.env.kindOf x = some .cell ∨ X.env.kindOf x = some .free) → ∃ c, X.env.cells.lookup x = some c
  cab : ∀ x c, X.fn x = true → X.env.cells.lookup x = some c → X.s_0.heap.objs.size ≤ c
  hd : X.calm = true → X.A.handled = none
  frames : X.A.frames = some X.stack
  stk : X.stack = X.outer ∨ (X.stack = X.env :: X.outer ∧ X.env.frame = some X.env.locals)
  exf : ∀ b ∈ X.ex, b ≠ X.env.locals ∧ ∀ x c, X.env.cells.lookup x = some c → c ≠ b
  bs : ∀ b o, X.base.get? b = some o → X.s_0.heap.get? b = some o ∧ X.H_0 b = none
  bsz : X.base.objs.size ≤ X.s_0.heap.objs.size
  noex : ∀ b o, X.base.get? b = some o → b ∉ X.ex
  exfs : ∀ b ∈ X.ex, b ∉ X.fs
  funs : X.s_0.heap.FunFrames X.base X.outer
  frf : ∀ b ∈ X.fs, X.H_0 b = none

structure Inv (X : Cx) (pins : List (Addr × Obj)) (σ : List (Option V)) (H : Hp) (s : Shared) : Prop where
  ok : X.Ok
  os : s.os = X.s_0.os
  bare : AllBare s.gens
  base : Un X.fs X.ex X.H_0 H X.s_0.heap s.heap
  loc : ∃ m, s.heap.Ns X.env.locals m ∧ ∀ (i : Nat) (x : Str) (v : V), X.N[i]? = some x → σ[i]? = some (some v) → Vis X.env.scope x → ∃ u, RelV v u ∧ Look X.env s.heap m x u
  cell : ∀ x c, X.env.cells.lookup x = some c → ∃ v, s.heap.IsCell c v
  free : H X.env.locals = none
  freeC : ∀ x c, X.env.cells.lookup x = some c → H c = none
  pin : ∀ p ∈ X.pn ++ pins, s.heap.get? p.1 = some p.2 ∧ H p.1 = none ∧ p.1 ≠ X.env.locals ∧ p.1 ∉ X.fs ∧ ∀ v, p.2.data ≠ .cell v
  hok : HOk X.prog X.w H s.heap
  len : σ.length = X.N.length

section
variable {X : Cx} {pins : List (Addr × Obj)} {σ : List (Option V)} {H H' : Hp} {s : Shared} {h' : Heap}

theorem Cx.Ok.nofr (ok : X.Ok) {b : Addr} {o : Obj} (e : X.base.get? b = some o) : b ∉ X.fs := fun hb => by
  have := (ok.funs.mem hb).1
  rw [e] at this; cases this
theorem Inv.bs (I : Inv X pins σ H s) : ∀ b o, X.base.get? b = some o → s.heap.get? b = some o ∧ H b = none := fun b o e =>
  ⟨I.base.keep b o (I.ok.bs b o e).1 (I.ok.bs b o e).2 (I.ok.nofr e) (I.ok.noex b o e), I.base.free b o (I.ok.bs b o e).1 (I.ok.bs b o e).2 (I.ok.noex b o e)⟩
theorem Inv.bk (I : Inv X pins σ H s) : ∀ b o, X.base.get? b = some o → s.heap.get? b = some o := fun b o e => (I.bs b o e).1
theorem Inv.mod (I : Inv X pins σ H s) : Mod X.K X.mg X.base := I.ok.mod
theorem Inv.kIn (I : Inv X pins σ H s) : X.K.In s.heap := I.ok.mod.kin.keeps I.bk
theorem Inv.lt (I : Inv X pins σ H s) : X.env.locals < s.heap.objs.size := let ⟨_, hn, _⟩ := I.loc; hn.lt
theorem Inv.sz (I : Inv X pins σ H s) : X.s_0.heap.objs.size ≤ s.heap.objs.size := Nat.le_trans I.ok.above (Nat.le_of_lt I.lt)
theorem Inv.nofs (I : Inv X pins σ H s) {a : Addr} (h : s.heap.objs.size ≤ a) : a ∉ X.fs := fun hb => by
  obtain ⟨_, o, ho, _⟩ := I.ok.funs.mem hb
  exact absurd (Nat.lt_of_lt_of_le (Heap.lt_size ho) (Nat.le_trans I.sz h)) (Nat.lt_irrefl _)
theorem Inv.cne (I : Inv X pins σ H s) : ∀ x c, X.env.cells.lookup x = some c → c ≠ X.env.locals := fun x c e z => by
  obtain ⟨v, o, ho, hd⟩ := I.cell x c e
  obtain ⟨m, ⟨o', es, ep, ho', hd', _⟩, _⟩ := I.loc
  rw [z, ho'] at ho; cases ho; rw [hd'] at hd; cases hd
theorem Inv.funs (I : Inv X pins σ H s) : s.heap.FunFrames X.base X.outer := by
  have all : ∀ (l : List Env), (∀ b ∈ frs l, b ∈ X.fs) → X.s_0.heap.FunFrames X.base l → s.heap.FunFrames X.base l := by
    intro l
    induction l with
    | nil => intro _ _; trivial
    | cons env r ih =>
      intro hs hl
      obtain ⟨hk, ⟨L, o, hf, hn, ho, hd⟩, hr⟩ := hl
      have hL : L ∈ X.fs := hs L (by unfold frs; rw [List.filterMap_cons, hf]; exact List.mem_cons_self)
      obtain ⟨sl, e⟩ := I.base.slot L o ho (I.ok.frf L hL) hL fun z => I.ok.exfs L z hL
      exact ⟨hk, ⟨L, _, hf, hn, e, hd⟩, ih (fun b hb => hs b (by unfold frs; rw [List.filterMap_cons, hf]; exact List.mem_cons_of_mem _ hb)) hr⟩
  exact all X.outer (fun _ hb => hb) I.ok.funs

/-- the frames that run, for a call -/
theorem Inv.stack (I : Inv X pins σ H s) : s.heap.FunFrames X.base X.stack := by
  rcases I.ok.stk with e | ⟨e, hf⟩
  · rw [e]; exact I.funs
  · rw [e]
    obtain ⟨m, hn, _⟩ := I.loc
    refine .cons (by rw [I.ok.kind]; decide) hf hn ?_ I.funs
    exact Heap.get?_none_of_le (Nat.le_trans I.ok.bsz I.ok.above)
theorem Inv.stkSub (I : Inv X pins σ H s) : ∀ b ∈ frs X.stack, b ∈ X.env.locals :: X.fs := fun b hb => by
  rcases I.ok.stk with e | ⟨e, hf⟩
  · rw [e] at hb; exact List.mem_cons_of_mem _ hb
  · rw [e] at hb
    unfold frs at hb
    rw [List.filterMap_cons, hf] at hb
    exact hb
theorem Inv.stkFree (I : Inv X pins σ H s) : ∀ b ∈ frs X.stack, H b = none := fun b hb => by
  rcases List.mem_cons.mp (I.stkSub b hb) with e | hb
  · rw [e]; exact I.free
  · obtain ⟨_, o, ho, _⟩ := I.ok.funs.mem hb
    exact I.base.free b o ho (I.ok.frf b hb) fun z => I.ok.exfs b z hb

/-- THE STEP: the untracked objects but the frame and the records at ch are kept (the callers' frames up to slots), the frame's map is kept, the new abstract heap is held -/
theorem Inv.step {g' : Array GenState} {t' : Nat} {d' : Drawn} {ch : List Addr} (I : Inv X pins σ H s)
    (hch : ∀ b ∈ ch, (b ∈ X.ex ∨ X.s_0.heap.objs.size ≤ b) ∧ b ≠ X.env.locals ∧ (∀ x c, X.env.cells.lookup x = some c → c ≠ b) ∧ ∀ p ∈ X.pn ++ pins, p.1 ≠ b)
    (keep : ∀ b o, b ≠ X.env.locals → b ∉ X.fs → b ∉ ch → s.heap.get? b = some o → H b = none → h'.get? b = some o)
    (slot : ∀ b o, b ≠ X.env.locals → b ∈ X.fs → b ∉ ch → s.heap.get? b = some o → H b = none → ∃ sl, h'.get? b = some { o with slots := sl }) (free : ∀ b o, b ∉ ch → s.heap.get? b = some o → H b = none → H' b = none)
    (there : ∀ b o, b ∉ ch → s.heap.get? b = some o → ∃ o', h'.get? b = some o')
    (tups : ∀ b xs, H b = some (.tup xs) → H' b = some (.tup xs)) (frzs : ∀ b o u, H b = some (.frz o u) → H' b = some (.frz o u)) (tbls : ∀ b ps, H b = some (.tbl ps) → ∃ more, H' b = some (.tbl (ps ++ more)))
    (ns : ∀ m, s.heap.Ns X.env.locals m → h'.Ns X.env.locals m) (hok : HOk X.prog X.w H' h') (hg : AllBare g') :
    Inv X pins σ H' { s with heap := h', gens := g', drawn := d', toks := t' } := by
  have neL : ∀ b o, X.s_0.heap.get? b = some o → b ≠ X.env.locals := fun b o e => Nat.ne_of_lt (Nat.lt_of_lt_of_le (Heap.lt_size e) I.ok.above)
  have neC : ∀ b o, X.s_0.heap.get? b = some o → b ∉ X.ex → b ∉ ch := fun b o e hx hb => by
    rcases (hch b hb).1 with z | z
    · exact hx z
    · exact absurd (Nat.lt_of_lt_of_le (Heap.lt_size e) z) (Nat.lt_irrefl _)
  have cellK : ∀ x c, X.env.cells.lookup x = some c → ∀ v, s.heap.IsCell c v → h'.IsCell c v := fun x c e v ⟨o, ho, hd⟩ => by
    have nch : c ∉ ch := fun z => (hch c z).2.2.1 x c e rfl
    by_cases hc : c ∈ X.fs
    · obtain ⟨sl, q⟩ := slot c o (I.cne x c e) hc nch ho (I.freeC x c e)
      exact ⟨_, q, hd⟩
    · exact ⟨o, keep c o (I.cne x c e) hc nch ho (I.freeC x c e), hd⟩
  refine ⟨I.ok, I.os, hg, ⟨fun b o e n hb hx => ?_, fun b o e n hb hx => ?_, fun b o e n hx => ?_, fun b o e hx => ?_, fun b xs e => tups b xs (I.base.tups b xs e), fun b o xs e => frzs b o xs (I.base.frzs b o xs e), fun b ps e => ?_⟩, ?_, fun x c e => ?_, ?_, fun x c e => ?_, fun p hp => ?_, hok, I.len⟩
  · exact keep b o (neL b o e) hb (neC b o e hx) (I.base.keep b o e n hb hx) (I.base.free b o e n hx)
  · obtain ⟨sl, e1⟩ := I.base.slot b o e n hb hx
    obtain ⟨sl', e2⟩ := slot b _ (neL b o e) hb (neC b o e hx) e1 (I.base.free b o e n hx)
    exact ⟨sl', e2⟩
  · obtain ⟨o', e1⟩ := I.base.there b o e hx
    exact free b o' (neC b o e hx) e1 (I.base.free b o e n hx)
  · obtain ⟨o', e1⟩ := I.base.there b o e hx
    exact there b o' (neC b o e hx) e1
  · obtain ⟨m1, e1⟩ := I.base.tbls b ps e
    obtain ⟨m2, e2⟩ := tbls b _ e1
    exact ⟨m1 ++ m2, by rw [e2, Array.append_assoc]⟩
  · obtain ⟨m, hn, hl⟩ := I.loc
    refine ⟨m, ns m hn, fun i x v e1 e2 e3 => ?_⟩
    obtain ⟨u, r, l⟩ := hl i x v e1 e2 e3
    refine ⟨u, r, ?_⟩
    rcases l with l | ⟨k, c, e, z⟩
    · exact .inl l
    · exact .inr ⟨k, c, e, cellK x c e _ z⟩
  · obtain ⟨v, z⟩ := I.cell x c e
    exact ⟨v, cellK x c e v z⟩
  · obtain ⟨m, ⟨o, _, _, ho, _⟩, _⟩ := I.loc
    exact free _ o (fun z => (hch _ z).2.1 rfl) ho I.free
  · obtain ⟨v, o, ho, hd⟩ := I.cell x c e
    exact free c o (fun z => (hch c z).2.2.1 x c e rfl) ho (I.freeC x c e)
  · obtain ⟨e, n, ne, nf, d⟩ := I.pin p hp
    have nch : p.1 ∉ ch := fun z => (hch p.1 z).2.2.2 p hp rfl
    exact ⟨keep p.1 p.2 ne nf nch e n, free p.1 p.2 nch e n, ne, nf, d⟩
/-- .. where the frame's own object is kept too -/
theorem Inv.un {t' : Nat} (I : Inv X pins σ H s) (u : Un X.fs [] H H' s.heap h') (hok : HOk X.prog X.w H' h') : Inv X pins σ H' { s with heap := h', toks := t' } := by
  obtain ⟨m, ⟨o, es, ep, ho, r⟩, _⟩ := id I.loc
  obtain ⟨sl, hL⟩ := u.any ho I.free (by simp)
  exact I.step (g' := s.gens) (d' := s.drawn) (ch := []) (fun _ z => nomatch z) (fun b o _ hb _ e n => u.keep b o e n hb (by simp)) (fun b o _ hb _ e n => u.slot b o e n hb (by simp)) (fun b o _ e n => u.free b o e n (by simp)) (fun b o _ e => u.there b o e (by simp)) u.tups u.frzs u.tbls (fun m' hm => by
    obtain ⟨o', es', ep', ho', r'⟩ := hm
    rw [ho] at ho'; cases ho'
    exact ⟨_, es', ep', hL, r'⟩) hok I.bare
/-- behind a call (or a comprehension's block): the slots of this frame may have changed too, the records at ch may have turned -/
theorem Inv.call {g' : Array GenState} {t' : Nat} {d' : Drawn} {ch : List Addr} (I : Inv X pins σ H s) (u : Un (frs X.stack) ch H H' s.heap h') (hok : HOk X.prog X.w H' h') (hg : AllBare g')
    (hch : ∀ b ∈ ch, (b ∈ X.ex ∨ X.s_0.heap.objs.size ≤ b) ∧ b ≠ X.env.locals ∧ (∀ x c, X.env.cells.lookup x = some c → c ≠ b) ∧ ∀ p ∈ X.pn ++ pins, p.1 ≠ b) :
    Inv X pins σ H' { s with heap := h', gens := g', drawn := d', toks := t' } := by
  obtain ⟨m, ⟨o, es, ep, ho, r⟩, _⟩ := id I.loc
  obtain ⟨sl, hL⟩ := u.any ho I.free fun z => (hch _ z).2.1 rfl
  exact I.step (ch := ch) hch (fun b o hL hb hc e n => u.keep b o e n (fun z => (List.mem_cons.mp (I.stkSub b z)).elim hL hb) hc) (fun b o _ _ hc e n => u.any e n hc) (fun b o hc e n => u.free b o e n hc) (fun b o hc e => u.there b o e hc) u.tups u.frzs u.tbls (fun m' hm => by
    obtain ⟨o', es', ep', ho', r'⟩ := hm
    rw [ho] at ho'; cases ho'
    exact ⟨_, es', ep', hL, r'⟩) hok hg
/-- an untracked record of ours (an iterator) has turned -/
theorem Inv.turned {t' : Nat} {it : Addr} (I : Inv X pins σ H s) (k : ∀ b o, b ≠ it → s.heap.get? b = some o → h'.get? b = some o) (hn : H it = none) (hL : it ≠ X.env.locals)
    (h1 : it ∈ X.ex ∨ X.s_0.heap.objs.size ≤ it) (h2 : ∀ x c, X.env.cells.lookup x = some c → c ≠ it) (h3 : ∀ p ∈ X.pn ++ pins, p.1 ≠ it) : Inv X pins σ H { s with heap := h', toks := t' } := by
  have nit : ∀ b u, H b = some u → b ≠ it := fun b u e z => by rw [z, hn] at e; cases e
  refine I.step (g' := s.gens) (d' := s.drawn) (ch := [it]) (fun b hb => ?_) (fun b o _ _ hc e _ => k b o (fun z => hc (by simp [z])) e) (fun b o _ _ hc e _ => ⟨o.slots, k b o (fun z => hc (by simp [z])) e⟩) (fun _ _ _ _ n => n)
    (fun b o hc e => ⟨o, k b o (fun z => hc (by simp [z])) e⟩) (fun _ _ e => e) (fun _ _ _ e => e) (fun b ps e => ⟨#[], by rw [e]; simp⟩) (fun m hm => ?_) (fun b u e => ?_) I.bare
  · have e : b = it := by simpa using hb
    subst e
    exact ⟨h1, hL, h2, h3⟩
  · obtain ⟨o, es, ep, ho, r⟩ := hm
    exact ⟨o, es, ep, k _ o (Ne.symm hL) ho, r⟩
  · refine (I.hok b u e).stay (fun c v hc q => k c v ?_ q) (fun _ q => q) fun _ _ q => q
    rcases hc with z | z
    · rw [z]; exact nit b u e
    · exact nit c _ z
theorem Inv.tok (I : Inv X pins σ H s) (t : Nat) : Inv X pins σ H { s with toks := t } := I.un (h' := s.heap) (t' := t) Un.refl I.hok
/-- all objects kept -/
theorem Inv.kept {t' : Nat} (I : Inv X pins σ H s) (k : ∀ b u, s.heap.get? b = some u → h'.get? b = some u) : Inv X pins σ H { s with heap := h', toks := t' } := I.un (Un.kept k) (I.hok.kept k)
/-- a new object laid and tracked -/
theorem Inv.laid {a : Addr} {o : HO} {t' : Nat} (I : Inv X pins σ H s) (k : ∀ b u, s.heap.get? b = some u → h'.get? b = some u) (hp : s.heap.objs.size ≤ a) (new : ObjOk X.prog X.w (upd H a o) h' a o) :
    Inv X pins σ (upd H a o) { s with heap := h', toks := t' } := I.un (Un.laid k hp (I.hok.fresh hp)) (I.hok.laid k hp new)
/-- an object written -/
theorem Inv.write {x e : Addr} {o : HO} {t' : Nat} (I : Inv X pins σ H s) (mu : Mut (H x)) (he : e = x ∨ H e = some (.own x)) (k : ∀ b u, b ≠ e → s.heap.get? b = some u → h'.get? b = some u) (heo : ∃ u, h'.get? e = some u)
    (new : ObjOk X.prog X.w (upd H x o) h' x o) : Inv X pins σ (upd H x o) { s with heap := h', toks := t' } := I.un (Un.write mu he k heo) (I.hok.write mu he k heo new)
/-- forgetting slots, pins -/
theorem Inv.weak {σ' : List (Option V)} (I : Inv X pins σ H s) (hl : σ'.length = σ.length) (w : ∀ (i : Nat) v, σ'[i]? = some (some v) → σ[i]? = some (some v)) : Inv X pins σ' H s :=
  ⟨I.ok, I.os, I.bare, I.base, let ⟨m, hn, hl'⟩ := I.loc; ⟨m, hn, fun i x v e1 e2 e3 => hl' i x v e1 (w i v e2) e3⟩, I.cell, I.free, I.freeC, I.pin, I.hok, hl.trans I.len⟩
theorem Inv.pins_of {pins' : List (Addr × Obj)} (I : Inv X pins σ H s) (h : ∀ p ∈ pins', s.heap.get? p.1 = some p.2 ∧ H p.1 = none ∧ p.1 ≠ X.env.locals ∧ p.1 ∉ X.fs ∧ ∀ v, p.2.data ≠ .cell v) : Inv X pins' σ H s :=
  ⟨I.ok, I.os, I.bare, I.base, I.loc, I.cell, I.free, I.freeC, fun p hp => (List.mem_append.mp hp).elim (fun z => I.pin p (List.mem_append_left _ z)) (h p), I.hok, I.len⟩

theorem nodup_ix {N : List Str} (hN : N.Nodup) {i j : Nat} {x : Str} (a : N[i]? = some x) (b : N[j]? = some x) : i = j := by
  obtain ⟨h1, e1⟩ := List.getElem?_eq_some_iff.mp a
  obtain ⟨h2, e2⟩ := List.getElem?_eq_some_iff.mp b
  exact (List.getElem_inj hN).mp (e1.trans e2.symm)

/-- a name is stored; what changed -/
theorem store_ok2 {M : Model} {A : Around} {E : Value → Shared → Prop} {i : Nat} {x : Str} {v : V} {u : Value} {Q : Unit → Shared → Prop} (I : Inv X pins σ H s) (hN : X.N.Nodup) (hi : X.N[i]? = some x) (hx : Loc X.env.scope x) (r : RelV v u)
    (h : ∀ s', Inv X pins (σ.set i (some v)) H s' → (∃ a, Heap.SameBut a s.heap s'.heap ∧ (a = X.env.locals ∨ X.env.cells.lookup x = some a)) → Q () s') (hf : X.fn x = true ∨ X.env.scope.names.lookup x = some .local := by first | exact .inl rfl | exact .inr rfl | assumption) : wpAny M A (storeName X.env x u) Q E s := by
  obtain ⟨m, hn, hl⟩ := id I.loc
  have hcls : (X.env.scope.kind == .class || (X.env.scope.kind == .module && X.env.locals != X.env.globals)) = false := by rw [I.ok.kind]; rfl
  have hiσ : i < σ.length := by rw [I.len]; exact (List.getElem?_eq_some_iff.mp hi).1
  have cne := I.cne
  have tracked : ∀ {a : Addr} {h' : Heap}, (∃ o, s.heap.get? a = some o ∧ H a = none) → Heap.SameBut a s.heap h' → HOk X.prog X.w H h' := fun {a h'} ha hs b ob e => by
    obtain ⟨_, _, hfree⟩ := ha
    refine (I.hok b ob e).stay (fun c w' hc q => (hs.2 c ?_).trans q) (fun _ q => q) fun _ _ q => q
    rintro rfl
    rcases hc with rfl | hc
    · rw [hfree] at e; cases e
    · rw [hfree] at hc; cases hc
  rcases hx with hk | hk
  · refine wpAny_storeName_local hk hn (fun h' hn' hs => ?_) hcls
    obtain ⟨oL, _, _, hoL, _⟩ := id hn
    refine h _ ⟨I.ok, I.os, I.bare, ⟨fun b o e n hb hx => ?_, fun b o e n hb hx => ?_, I.base.free, fun b o e hx => ?_, I.base.tups, I.base.frzs, I.base.tbls⟩, ⟨_, hn', fun j y v' e1 e2 e3 => ?_⟩, fun y c e => ?_, I.free, I.freeC, fun p hp => ?_, tracked ⟨oL, hoL, I.free⟩ hs, by simpa using I.len⟩ ⟨_, hs, .inl rfl⟩
    · exact (hs.2 b (Nat.ne_of_lt (Nat.lt_of_lt_of_le (Heap.lt_size e) I.ok.above))).trans (I.base.keep b o e n hb hx)
    · obtain ⟨sl, e1⟩ := I.base.slot b o e n hb hx
      exact ⟨sl, (hs.2 b (Nat.ne_of_lt (Nat.lt_of_lt_of_le (Heap.lt_size e) I.ok.above))).trans e1⟩
    · obtain ⟨o', e1⟩ := I.base.there b o e hx
      exact ⟨o', (hs.2 b (Nat.ne_of_lt (Nat.lt_of_lt_of_le (Heap.lt_size e) I.ok.above))).trans e1⟩
    · by_cases hj : j = i
      · subst hj
        rw [hi] at e1; cases e1
        rw [List.getElem?_set_self hiσ] at e2
        cases e2
        exact ⟨u, r, .inl ⟨hk, by simp⟩⟩
      · rw [List.getElem?_set_ne (Ne.symm hj)] at e2
        obtain ⟨u', r', q⟩ := hl j y v' e1 e2 e3
        refine ⟨u', r', ?_⟩
        rcases q with ⟨k, e⟩ | ⟨k, c, e, z⟩
        · refine .inl ⟨k, ?_⟩
          have : y ≠ x := fun e => hj (nodup_ix hN e1 (e ▸ hi))
          simp [this, e]
        · exact .inr ⟨k, c, e, z.sameBut hs (cne y c e)⟩
    · obtain ⟨w', z⟩ := I.cell y c e
      exact ⟨w', z.sameBut hs (cne y c e)⟩
    · obtain ⟨e, n, ne, nf, d⟩ := I.pin p hp
      exact ⟨(hs.2 p.1 ne).trans e, n, ne, nf, d⟩
  · have hfn : X.fn x = true := by
      rcases hf with z | z
      · exact z
      · rw [z] at hk; cases hk
    obtain ⟨c, hc⟩ := I.ok.has x (.inl hk)
    obtain ⟨w', z⟩ := I.cell x c hc
    refine wpAny_storeName_cell I.ok.kind hk hc z (fun h' hc' hs => ?_)
    obtain ⟨oc, hoc, hocd⟩ := id z
    refine h { s with heap := h' } ⟨I.ok, I.os, I.bare, ⟨fun b o e n hb hx => ?_, fun b o e n hb hx => ?_, I.base.free, fun b o e hx => ?_, I.base.tups, I.base.frzs, I.base.tbls⟩, ⟨m, hn.sameBut hs (Ne.symm (cne x c hc)), fun j y v' e1 e2 e3 => ?_⟩, fun y c' e => ?_, I.free, I.freeC, fun p hp => ?_, tracked ⟨oc, hoc, I.freeC x c hc⟩ hs, by simpa using I.len⟩ ⟨c, hs, .inr hc⟩
    · exact (hs.2 b (Nat.ne_of_lt (Nat.lt_of_lt_of_le (Heap.lt_size e) (I.ok.cab x c hfn hc)))).trans (I.base.keep b o e n hb hx)
    · obtain ⟨sl, e1⟩ := I.base.slot b o e n hb hx
      exact ⟨sl, (hs.2 b (Nat.ne_of_lt (Nat.lt_of_lt_of_le (Heap.lt_size e) (I.ok.cab x c hfn hc)))).trans e1⟩
    · obtain ⟨o', e1⟩ := I.base.there b o e hx
      exact ⟨o', (hs.2 b (Nat.ne_of_lt (Nat.lt_of_lt_of_le (Heap.lt_size e) (I.ok.cab x c hfn hc)))).trans e1⟩
    · by_cases hj : j = i
      · subst hj
        rw [hi] at e1; cases e1
        rw [List.getElem?_set_self hiσ] at e2
        cases e2
        exact ⟨u, r, .inr ⟨.inl hk, c, hc, hc'⟩⟩
      · rw [List.getElem?_set_ne (Ne.symm hj)] at e2
        obtain ⟨u', r', q⟩ := hl j y v' e1 e2 e3
        refine ⟨u', r', ?_⟩
        rcases q with q | ⟨k, c', e, z'⟩
        · exact .inl q
        · refine .inr ⟨k, c', e, z'.sameBut hs ?_⟩
          rintro rfl
          exact hj (nodup_ix hN e1 (I.ok.inj _ _ _ e hc ▸ hi))
    · by_cases hcc : c' = c
      · subst hcc; exact ⟨_, hc'⟩
      · obtain ⟨w2, z2⟩ := I.cell y c' e
        exact ⟨w2, z2.sameBut hs hcc⟩
    · obtain ⟨e, n, ne, nf, d⟩ := I.pin p hp
      refine ⟨(hs.2 p.1 ?_).trans e, n, ne, nf, d⟩
      intro q
      rw [q, hoc] at e
      have q' : oc = p.2 := Option.some.inj e
      exact d w' (by rw [← q']; exact hocd)
theorem store_ok {M : Model} {A : Around} {E : Value → Shared → Prop} {i : Nat} {x : Str} {v : V} {u : Value} {Q : Unit → Shared → Prop} (I : Inv X pins σ H s) (hN : X.N.Nodup) (hi : X.N[i]? = some x) (hx : Loc X.env.scope x) (r : RelV v u)
    (h : ∀ s', Inv X pins (σ.set i (some v)) H s' → Q () s') (hf : X.fn x = true ∨ X.env.scope.names.lookup x = some .local := by first | exact .inl rfl | exact .inr rfl | assumption) : wpAny M A (storeName X.env x u) Q E s :=
  store_ok2 I hN hi hx r (fun s' I' _ => h s' I') hf
/-- behind a call or a block, the state as it is -/
theorem Inv.call' {s' : Shared} {ch : List Addr} (I : Inv X pins σ H s) (ho : s'.os = s.os) (u : Un (frs X.stack) ch H H' s.heap s'.heap) (hok : HOk X.prog X.w H' s'.heap) (hg : AllBare s'.gens)
    (hch : ∀ b ∈ ch, (b ∈ X.ex ∨ X.s_0.heap.objs.size ≤ b) ∧ b ≠ X.env.locals ∧ (∀ x c, X.env.cells.lookup x = some c → c ≠ b) ∧ ∀ p ∈ X.pn ++ pins, p.1 ≠ b) : Inv X pins σ H' s' := by
  obtain ⟨h', g', d', t', o'⟩ := s'
  have e : o' = s.os := ho
  subst e
  exact I.call (g' := g') (t' := t') (d' := d') u hok hg hch
end

/-! ### the judgements -/
/-- an exception: its class, its own dict's address (where it has one), the abstract heap behind it -/
abbrev XK := Value → Option Addr → Hp → Prop
abbrev St := List (Option V)
abbrev VK := V → Hp → Prop
/-- an expression's reading; a test's; an argument list's -/
abbrev TE := St → Hp → VK → Prop
abbrev TT := St → Hp → (Bool → Hp → Prop) → Prop
abbrev TA := St → Hp → (List V → Hp → Prop) → Prop
/-- what is wanted behind a statement -/
structure Ends where
  nx : St → Hp → Prop
  rt : VK
  bk : St → Hp → Prop := fun _ _ => False
  ct : St → Hp → Prop := fun _ _ => False
abbrev TS := Ends → St → Hp → Prop

def EP (X : Cx) (pins : List (Addr × Obj)) (σ : St) (Q : VK) (u : Value) (s' : Shared) : Prop := ∃ v H', Inv X pins σ H' s' ∧ RelV v u ∧ Q v H'
def TP (X : Cx) (pins : List (Addr × Obj)) (σ : St) (Q : Bool → Hp → Prop) (b : Bool) (s' : Shared) : Prop := ∃ H', Inv X pins σ H' s' ∧ Q b H'
def AP (X : Cx) (pins : List (Addr × Obj)) (σ : St) (Q : List V → Hp → Prop) (us : List Value) (s' : Shared) : Prop := ∃ vs H', Inv X pins σ H' s' ∧ Vals vs us ∧ Q vs H'
def SP (X : Cx) (pins : List (Addr × Obj)) (D : Ends) (f : Flow) (s' : Shared) : Prop :=
  match f with
  | .next => ∃ σ' H', Inv X pins σ' H' s' ∧ D.nx σ' H'
  | .brk => ∃ σ' H', Inv X pins σ' H' s' ∧ D.bk σ' H'
  | .cont => ∃ σ' H', Inv X pins σ' H' s' ∧ D.ct σ' H'
  | .ret u => ∃ v σ' H', Inv X pins σ' H' s' ∧ RelV v u ∧ D.rt v H'

def PE (X : Cx) (e : Expr) (t : TE) : Prop :=
  ∀ (pins : List (Addr × Obj)) (s : Shared) (σ : St) (H : Hp) (Q : VK), Inv X pins σ H s → t σ H Q → wpAny (model X.prog X.w) X.A (eval e X.env) (EP X pins σ Q) X.xe s
def PT (X : Cx) (e : Expr) (t : TT) : Prop :=
  ∀ (pins : List (Addr × Obj)) (s : Shared) (σ : St) (H : Hp) (Q : Bool → Hp → Prop), Inv X pins σ H s → t σ H Q → wpAny (model X.prog X.w) X.A (isTrue e X.env (eval e X.env)) (TP X pins σ Q) X.xe s
/-- a test whatever its 'whole' is (and, or) -/
def PW (X : Cx) (e : Expr) (t : TT) : Prop :=
  ∀ (whole : Sem Value) (pins : List (Addr × Obj)) (s : Shared) (σ : St) (H : Hp) (Q : Bool → Hp → Prop), Inv X pins σ H s → t σ H Q → wpAny (model X.prog X.w) X.A (isTrue e X.env whole) (TP X pins σ Q) X.xe s
theorem PW.pt {X : Cx} {e : Expr} {t : TT} (h : PW X e t) : PT X e t := h _
/-- an argument list (no star), from the left -/
def PA (X : Cx) (es : List Expr) (t : TA) : Prop :=
  ∀ (pos : Pos) (pins : List (Addr × Obj)) (s : Shared) (σ : St) (H : Hp) (Q : List V → Hp → Prop), Inv X pins σ H s → t σ H Q → wpAny (model X.prog X.w) X.A (spliced (backTo pos (starEach es X.env))) (AP X pins σ Q) X.xe s
def PS (X : Cx) (st : Stmt) (t : TS) : Prop :=
  ∀ (pins : List (Addr × Obj)) (s : Shared) (σ : St) (H : Hp) (D : Ends), Inv X pins σ H s → t D σ H → wpAny (model X.prog X.w) X.A (exec st X.env) (SP X pins D) X.xe s
def PSs (X : Cx) (st : List Stmt) (t : TS) : Prop :=
  ∀ (pins : List (Addr × Obj)) (s : Shared) (σ : St) (H : Hp) (D : Ends), Inv X pins σ H s → t D σ H → wpAny (model X.prog X.w) X.A (execs st X.env) (SP X pins D) X.xe s
/-- weaken the end -/
theorem thn {α : Type} {t : Sem α} {Q Q' : α → Shared → Prop} {M : Model} {A : Around} {E : Value → Shared → Prop} {s : Shared} (h : wpAny M A t Q E s) (hQ : ∀ a s, Q a s → Q' a s) : wpAny M A t Q' E s := wpAny_mono h hQ fun _ _ x => x
end L2

namespace L2
open PySem PySem.Spec PyProof.Rows
section
variable {X : Cx}

/-! ### names and constants -/
def tVar (i : Nat) : TE := fun σ H Q => ∃ v, σ[i]? = some (some v) ∧ Q v H
def tC (v : V) : TE := fun _ H Q => Q v H
theorem pe_var {i : Nat} {x : Str} {pos : Pos} (hN : X.N[i]? = some x) (hv : Vis X.env.scope x) (hd : (x == ("__debug__" : Str)) = false := by decide) (hcd : (x == ("__classdict__" : Str)) = false := by decide) : PE X (.Name x pos) (tVar i) := by
  intro pins s σ H Q I h
  obtain ⟨v, e, h⟩ := h
  obtain ⟨m, hn, hl⟩ := I.loc
  obtain ⟨u, r, l⟩ := hl i x v hN e hv
  have fin : EP X pins σ Q u s := ⟨v, H, I, r, h⟩
  rcases l with ⟨hk, hm⟩ | ⟨hk, c, hc, hcell⟩
  · exact wpAny_Name (wpAny_loadName_local I.ok.kind hk hn hm fin) hd
  · rcases hk with hk | hk
    · exact wpAny_Name (wpAny_loadName_cell I.ok.kind hk hc hcell fin) hd
    · exact wpAny_Name (wpAny_loadName_free I.ok.kind hk hc hcell fin hcd) hd
theorem pe_int {i j pos} : PE X (.Constant (.int i) j pos) (tC (.int i)) := fun _ _ _ H _ I h => wpAny_Constant_int ⟨.int i, H, I.tok _, ⟨_, rfl⟩, h⟩
theorem pe_bl {b j pos} : PE X (.Constant (.bool b) j pos) (tC (.bl b)) := fun _ _ _ H _ I h => Constant_bool ⟨.bl b, H, I, rfl, h⟩
/-- a global name of the def -/
def Gl (X : Cx) (x : Str) : Prop := X.env.kindOf x = some .globalImplicit
theorem ld_glob {E : Value → Shared → Prop} {pins : List (Addr × Obj)} {s : Shared} {σ : St} {H : Hp} {x : Str} {u : Value} {pos : Pos} {Q : Value → Shared → Prop} (I : Inv X pins σ H s) (hg : Gl X x) (hm : X.mg x = some u) (h : Q u s)
    (hd : (x == ("__debug__" : Str)) = false := by decide) : wpAny (model X.prog X.w) X.A (eval (.Name x pos) X.env) Q E s :=
  Calls.Name_function_global I.ok.kind hg (Calls.loadGlobal_global (by rw [I.ok.glob]; exact I.mod.glob.keeps I.bk) hm h) hd
theorem ld_blt {E : Value → Shared → Prop} {pins : List (Addr × Obj)} {s : Shared} {σ : St} {H : Hp} {x : Str} {u : Value} {pos : Pos} {Q : Value → Shared → Prop} (I : Inv X pins σ H s) (hg : Gl X x) (hm : X.mg x = none) (hv : bootBuiltins x = some u) (h : Q u s)
    (hn : x ≠ "__name__" := by decide) (hd : (x == ("__debug__" : Str)) = false := by decide) : wpAny (model X.prog X.w) X.A (eval (.Name x pos) X.env) Q E s := by
  obtain ⟨mb, h1, h2⟩ := I.mod.blt
  exact Calls.Name_function_global I.ok.kind hg (Calls.loadGlobal_builtin (by rw [I.ok.glob]; exact I.mod.glob.keeps I.bk) hm (by rw [I.ok.blt]; exact h1.keeps I.bk) ((h2 x hn).trans hv) h) hd
/-- a module's constant, a class, a function, as a value -/
theorem pe_glob {x : Str} {v : V} {u : Value} {pos : Pos} (hg : Gl X x) (hm : X.mg x = some u) (r : RelV v u) (hd : (x == ("__debug__" : Str)) = false := by decide) : PE X (.Name x pos) (tC v) :=
  fun _ _ _ H _ I h => ld_glob I hg hm ⟨v, H, I, r, h⟩ hd
/-! ### arithmetic -/
variable {a b : Expr} {ta tb : TE} {pos : Pos}
/-! ### comparisons -/
/-- a comparison as a value, as a test -/
def tB (t : TE) : TT := fun σ H Q => t σ H fun x H1 => ∃ c, x = .bl c ∧ Q c H1
/-- an expression whose value is a bool, as a test -/
theorem pt_val {e : Expr} {t : TE} (h : PE X e t) (he : ∀ whole, isTrue e X.env whole = (do let v ← whole; standAt e.pos; holding [v] (truthy v)) := by intro _; rfl) : PT X e (tB t) := by
  intro pins s σ H Q I hw
  refine isTrue_plain (thn (h pins s σ H _ I hw) fun v s1 ⟨x, H1, I1, r1, q1⟩ => ?_) (he _)
  obtain ⟨d, rfl, q⟩ := q1
  cases r1
  exact wpAny_truthy_bool ⟨H1, I1, q⟩

/-! ### and, or, not -/
variable {tA tB' : TT} {rest : List Expr}
def tAnd (t u : TT) : TT := fun σ H Q => t σ H fun c H1 => if c = true then u σ H1 Q else Q false H1
def tOr (t u : TT) : TT := fun σ H Q => t σ H fun c H1 => if c = true then Q true H1 else u σ H1 Q
def tNot (t : TT) : TT := fun σ H Q => t σ H fun c H1 => Q (!c) H1
theorem pw_and1 (ha : PT X a tA) : PW X (.BoolOp .And [a] pos) tA := by
  intro wh pins s σ H Q I h
  refine isTrue_and (thn (ha pins s σ H Q I h) fun c s1 e => ?_)
  cases c with
  | true => exact isTrue_and_nil e
  | false => exact e
theorem pw_or1 (ha : PT X a tA) : PW X (.BoolOp .Or [a] pos) tA := by
  intro wh pins s σ H Q I h
  refine isTrue_or (thn (ha pins s σ H Q I h) fun c s1 e => ?_)
  cases c with
  | false => exact isTrue_or_nil e
  | true => exact e
theorem pw_and (ha : PT X a tA) (hb : PW X (.BoolOp .And (b :: rest) pos) tB') : PW X (.BoolOp .And (a :: b :: rest) pos) (tAnd tA tB') := by
  intro wh pins s σ H Q I h
  refine isTrue_and (thn (ha pins s σ H _ I h) fun c s1 ⟨H1, I1, q1⟩ => ?_)
  cases c with
  | true => exact hb wh pins s1 σ H1 Q I1 q1
  | false => exact ⟨H1, I1, q1⟩
theorem pw_or (ha : PT X a tA) (hb : PW X (.BoolOp .Or (b :: rest) pos) tB') : PW X (.BoolOp .Or (a :: b :: rest) pos) (tOr tA tB') := by
  intro wh pins s σ H Q I h
  refine isTrue_or (thn (ha pins s σ H _ I h) fun c s1 ⟨H1, I1, q1⟩ => ?_)
  cases c with
  | true => exact ⟨H1, I1, q1⟩
  | false => exact hb wh pins s1 σ H1 Q I1 q1
theorem pt_not (ha : PT X a tA) : PT X (.UnaryOp .Not a pos) (tNot tA) := by
  intro pins s σ H Q I h
  exact isTrue_not (ha pins s σ H (fun c H1 => Q (!c) H1) I h)
/-- a if t else b -/
def tIf (t : TT) (ta tb : TE) : TE := fun σ H Q => t σ H fun c H1 => if c = true then ta σ H1 Q else tb σ H1 Q
theorem pe_ifExp {c : Expr} (hc : PT X c tA) (ha : PE X a ta) (hb : PE X b tb) : PE X (.IfExp c a b pos) (tIf tA ta tb) := by
  intro pins s σ H Q I h
  refine wpAny_IfExp (thn (hc pins s σ H _ I h) fun d s1 ⟨H1, I1, q1⟩ => ?_)
  cases d with
  | true => exact ha pins s1 σ H1 Q I1 q1
  | false => exact hb pins s1 σ H1 Q I1 q1
end
end L2

namespace L2
open PySem PySem.Spec PyProof.Rows

/-! ### a list, a tuple that is read: tracked, frozen, or an object of the module -/
def SqL (K : PySem.W.Frag) (H : Hp) (a : Addr) (xs : List V) : Prop :=
  Rd H a (.lst xs) ∨
    ∃ (o : Obj) (its : Array Value) (n : Nat), K.lookup a = some o ∧ o.cls = .type "list" ∧ o.dict = none ∧ o.data = .seq its n ∧ its.size ≤ sizeLine ∧ Vals xs its.toList
def SqT (K : PySem.W.Frag) (H : Hp) (a : Addr) (xs : List V) : Prop :=
  Rd H a (.tup xs) ∨
    ∃ (o : Obj) (its : Array Value) (n : Nat), K.lookup a = some o ∧ o.cls = .type "tuple" ∧ o.data = .seq its n ∧ its.size ≤ sizeLine ∧ Vals xs its.toList
def absV : Value → Option V
  | .none => some .non
  | .bool b => some (.bl b)
  | .int i _ => some (.int i)
  | .str x _ => some (.str x)
  | .bytes b _ => some (.byt b)
  | .float b _ => some (.flt b)
  | .ref a => some (.ref a)
  | .type n => some (.ty n)
  | _ => none
theorem RelV.abs {x : V} {u : Value} (r : RelV x u) : absV u = some x := by
  cases x with
  | non => cases r; rfl
  | bl _ => cases r; rfl
  | int _ => obtain ⟨t, rfl⟩ := r; rfl
  | str _ => obtain ⟨t, rfl⟩ := r; rfl
  | byt _ => obtain ⟨t, rfl⟩ := r; rfl
  | flt _ => obtain ⟨t, rfl⟩ := r; rfl
  | ref _ => cases r; rfl
  | ty _ => cases r; rfl
theorem RelV.inj {x y : V} {u : Value} (r : RelV x u) (q : RelV y u) : x = y := Option.some.inj (r.abs.symm.trans q.abs)
theorem Vals.inj : ∀ {xs ys : List V} {us : List Value}, Vals xs us → Vals ys us → xs = ys
  | _, _, _, .nil, .nil => rfl
  | _, _, _, .cons r t, .cons r' t' => by rw [r.inj r', Vals.inj t t']
section
variable {X : Cx} {pins : List (Addr × Obj)} {σ : St} {H : Hp} {s : Shared} {a : Addr} {xs ys : List V}
theorem SqL.of {K : PySem.W.Frag} (h : H a = some (.lst xs)) : SqL K H a xs := .inl (.inl h)
theorem Inv.list (I : Inv X pins σ H s) (h : SqL X.K H a xs) : ∃ its : List Value, Vals xs its ∧ PlainL s.heap a its.toArray ∧ xs.length ≤ sizeLine := by
  rcases h with h | ⟨o, its, n, hk, hc, hd, hs, hz, r⟩
  · obtain ⟨z, its, n, r, e⟩ := h.ok I.hok
    exact ⟨its, r, ⟨_, n, e, rfl, rfl, rfl⟩, z⟩
  · refine ⟨its.toList, r, ⟨o, n, I.kIn a o hk, hc, hd, by simpa using hs⟩, ?_⟩
    have e := r.length
    simp only [Array.length_toList] at e
    omega
theorem Inv.tuple (I : Inv X pins σ H s) (h : SqT X.K H a xs) : ∃ its : List Value, Vals xs its ∧ IsTup s.heap a its.toArray ∧ xs.length ≤ sizeLine := by
  rcases h with h | ⟨o, its, n, hk, hc, hs, hz, r⟩
  · obtain ⟨z, its, r, p⟩ := h.ok I.hok
    exact ⟨its, r, p, z⟩
  · refine ⟨its.toList, r, ⟨o, I.kIn a o hk, hc, n, by simpa using hs⟩, ?_⟩
    have e := r.length
    simp only [Array.length_toList] at e
    omega
theorem Inv.list_inj (I : Inv X pins σ H s) (h : SqL X.K H a xs) (h' : SqL X.K H a ys) : xs = ys := by
  obtain ⟨its, r, ⟨o, n, e, _, _, d⟩, _⟩ := I.list h
  obtain ⟨its', r', ⟨o', n', e', _, _, d'⟩, _⟩ := I.list h'
  rw [e] at e'; cases e'
  rw [d] at d'
  injection d' with d1 _
  have : its = its' := by simpa using congrArg Array.toList d1
  subst this
  exact r.inj r'
end

/-! ### another wish about exceptions -/
abbrev Cx.wish (X : Cx) (E : Value → Shared → Prop) : Cx := { X with xe := E }
/-- no exception leaves -/
abbrev Cx.nox (X : Cx) : Cx := X.wish fun _ _ => False
theorem Cx.Ok.wish {X : Cx} (ok : X.Ok) (E : Value → Shared → Prop) : (X.wish E).Ok :=
  ⟨ok.mod, ok.kind, ok.glob, ok.blt, ok.above, ok.inj, ok.has, ok.cab, ok.hd, ok.frames, ok.stk, ok.exf, ok.bs, ok.bsz, ok.noex, ok.exfs, ok.funs, ok.frf⟩
theorem Cx.Ok.unwish {X : Cx} {E : Value → Shared → Prop} (ok : (X.wish E).Ok) : X.Ok :=
  ⟨ok.mod, ok.kind, ok.glob, ok.blt, ok.above, ok.inj, ok.has, ok.cab, ok.hd, ok.frames, ok.stk, ok.exf, ok.bs, ok.bsz, ok.noex, ok.exfs, ok.funs, ok.frf⟩
section
variable {X : Cx} {pins : List (Addr × Obj)} {σ : St} {H : Hp} {s : Shared} {E : Value → Shared → Prop}
theorem Inv.wish (I : Inv X pins σ H s) (E : Value → Shared → Prop) : Inv (X.wish E) pins σ H s := ⟨I.ok.wish E, I.os, I.bare, I.base, I.loc, I.cell, I.free, I.freeC, I.pin, I.hok, I.len⟩
theorem Inv.unwish (I : Inv (X.wish E) pins σ H s) : Inv X pins σ H s := ⟨I.ok.unwish, I.os, I.bare, I.base, I.loc, I.cell, I.free, I.freeC, I.pin, I.hok, I.len⟩
theorem SP.unwish {D : Ends} {f : Flow} {s' : Shared} (h : SP (X.wish E) pins D f s') : SP X pins D f s' := by
  cases f with
  | next => obtain ⟨σ', H', I, q⟩ := h; exact ⟨σ', H', I.unwish, q⟩
  | brk => obtain ⟨σ', H', I, q⟩ := h; exact ⟨σ', H', I.unwish, q⟩
  | cont => obtain ⟨σ', H', I, q⟩ := h; exact ⟨σ', H', I.unwish, q⟩
  | ret u => obtain ⟨v, σ', H', I, r, q⟩ := h; exact ⟨v, σ', H', I.unwish, r, q⟩
theorem PSs.nox {st : List Stmt} {t : TS} (h : PSs X.nox st t) : PSs X st t := fun pins s σ H D I hw =>
  wpAny_mono (h pins s σ H D (I.wish _) hw) (fun _ _ q => q.unwish) fun _ _ z => False.elim z
end

/-! ### blocks and small statements -/
section
variable {X : Cx} {st : Stmt} {rest : List Stmt} {t u : TS} {e : Expr} {te : TE} {pos : Pos}
def tNext : TS := fun D σ H => D.nx σ H
def tSeq (t u : TS) : TS := fun D σ H => t { D with nx := u D } σ H
theorem pss_nil : PSs X [] tNext := fun _ _ σ H _ I h => wpAny_execs_nil ⟨σ, H, I, h⟩
theorem pss_cons (h1 : PS X st t) (h2 : PSs X rest u) : PSs X (st :: rest) (tSeq t u) := by
  intro pins s σ H D I h
  refine wpAny_execs_cons (thn (h1 pins s σ H { D with nx := u D } I h) fun f s1 q => ?_)
  cases f with
  | next =>
    obtain ⟨σ', H', I', q⟩ := q
    exact h2 pins s1 σ' H' D I' q
  | ret v => exact q
  | brk => exact q
  | cont => exact q
theorem pss_one (h1 : PS X st t) : PSs X [st] t := by
  intro pins s σ H D I h
  refine wpAny_execs_cons (thn (h1 pins s σ H D I h) fun f s1 q => ?_)
  cases f with
  | next => exact wpAny_execs_nil q
  | ret v => exact q
  | brk => exact q
  | cont => exact q
/-- in a def's body nothing is shown -/
theorem Inv.quiet {pins : List (Addr × Obj)} {σ : St} {H : Hp} {s : Shared} (I : Inv X pins σ H s) : interactive X.env = false := by simp [interactive, I.ok.kind]
/-- an expression whose value is dropped -/
def tDrop (te : TE) : TS := fun D σ H => te σ H fun _ H1 => D.nx σ H1
theorem ps_expr (he : PE X e te) (hs : swapsWith e none pos.line X.env = pure false := by rfl) : PS X (.Expr e pos) (tDrop te) := by
  intro pins s σ H D I h
  exact wpAny_Expr_any (thn (he pins s σ H _ I h) fun v s1 ⟨x, H1, I1, r1, q1⟩ => ⟨σ, H1, I1, q1⟩) I.quiet hs
def tRet (te : TE) : TS := fun D σ H => te σ H D.rt
theorem ps_ret (he : PE X e te) : PS X (.Return (some e) pos) (tRet te) := by
  intro pins s σ H D I h
  exact wpAny_Return_some (thn (he pins s σ H _ I h) fun v s1 ⟨x, H1, I1, r1, q1⟩ => ⟨x, σ, H1, I1, r1, q1⟩)
def tIfS (c : TT) (t u : TS) : TS := fun D σ H => c σ H fun b H1 => if b = true then t D σ H1 else u D σ H1
theorem ps_if {c : Expr} {a b : List Stmt} {tc : TT} (hc : PT X c tc) (ha : PSs X a t) (hb : PSs X b u) : PS X (.If c a b pos) (tIfS tc t u) := by
  intro pins s σ H D I h
  refine wpAny_If (thn (hc pins s σ H _ I h) fun d s1 ⟨H1, I1, q1⟩ => ?_)
  cases d with
  | true => exact ha pins s1 σ H1 D I1 q1
  | false => exact hb pins s1 σ H1 D I1 q1
end

/-! ### targets -/
abbrev TG := V → St → Hp → (St → Hp → Prop) → Prop
def PG (X : Cx) (target : Expr) (t : TG) : Prop :=
  ∀ (pins : List (Addr × Obj)) (s : Shared) (σ : St) (H : Hp) (v : V) (u : Value) (Q : St → Hp → Prop), Inv X pins σ H s → RelV v u → t v σ H Q →
    wpAny (model X.prog X.w) X.A (assign target X.env u) (fun _ s' => ∃ σ' H', Inv X pins σ' H' s' ∧ Q σ' H') X.xe s
/-- o[i] = v, by values -/
abbrev TSet := V → V → V → Hp → (Hp → Prop) → Prop
def PSet (X : Cx) (t : TSet) : Prop :=
  ∀ (pins : List (Addr × Obj)) (s : Shared) (σ : St) (H : Hp) (o i v : V) (ov iv u : Value) (Q : Hp → Prop), Inv X pins σ H s → RelV o ov → RelV i iv → RelV v u → t o i v H Q →
    wpAny (model X.prog X.w) X.A (setItem ov iv u) (fun _ s' => ∃ H', Inv X pins σ H' s' ∧ Q H') X.xe s
section
variable {X : Cx} {pos : Pos}
def gName (i : Nat) : TG := fun v σ H Q => Q (σ.set i (some v)) H
theorem pg_name {i : Nat} {x : Str} (hN : X.N.Nodup) (hi : X.N[i]? = some x) (hx : Loc X.env.scope x) (hf : X.fn x = true ∨ X.env.scope.names.lookup x = some .local := by first | exact .inl rfl | exact .inr rfl | assumption) : PG X (.Name x pos) (gName i) := by
  intro pins s σ H v u Q I r h
  exact wpAny_assign_Name (store_ok I hN hi hx r (fun s' I' => ⟨_, H, I', h⟩) hf)
/-- o[i] = .. -/
def gSub (to ti : TE) (t : TSet) : TG := fun v σ H Q => to σ H fun o H1 => ti σ H1 fun i H2 => t o i v H2 fun H3 => Q σ H3
theorem pg_sub {o i : Expr} {to ti : TE} {t : TSet} (ho : PE X o to) (hi : PE X i ti) (hs : PSet X t)
    (ha : ∀ v, assign (.Subscript o i pos) X.env v = (do
      let ov ← holding [v] (eval o X.env)
      let iv ← holding [v, ov] (eval i X.env)
      standAt pos
      holding [v, ov, iv] (setItem ov iv v)
      release [v, ov, iv] []) := by intro _; rfl) : PG X (.Subscript o i pos) (gSub to ti t) := by
  intro pins s σ H v u Q I r h
  rw [ha]
  refine wpAny_bind (wpAny_holding (thn (ho pins s σ H _ I h) fun ov s1 ⟨x, H1, I1, r1, q1⟩ => ?_))
  refine wpAny_bind (wpAny_holding (thn (hi pins s1 σ H1 _ I1 q1) fun iv s2 ⟨y, H2, I2, r2, q2⟩ => ?_))
  refine wpAny_bind (wpAny_standAt (wpAny_bind (wpAny_holding (thn (hs pins s2 σ H2 x y v ov iv u _ I2 r1 r2 r q2) fun _ s3 ⟨H3, I3, q3⟩ => ?_))))
  exact wpAny_release ⟨σ, H3, I3, q3⟩
/-- target = value -/
def tAsg (te : TE) (g : TG) : TS := fun D σ H => te σ H fun x H1 => g x σ H1 D.nx
theorem ps_asg {tg e : Expr} {te : TE} {g : TG} (he : PE X e te) (hg : PG X tg g) (hs : swapsWithSole [tg] e pos.line X.env = pure false := by rfl) (hw : swappedStores [tg] e X.env = pure none := by rfl)
    (h1 : (assignEach [tg] X.env).map (·.2) = [assign tg X.env] := by rfl) : PS X (.Assign [tg] e pos) (tAsg te g) := by
  intro pins s σ H D I h
  refine wpAny_Assign_stores (thn (he pins s σ H _ I h) fun v s1 ⟨x, H1, I1, r1, q1⟩ => ?_) hs hw
  rw [h1]
  exact thn (hg pins s1 σ H1 x v _ I1 r1 q1) fun _ s2 q => q
/-- name = value -/
theorem ps_set {i : Nat} {x : Str} {e : Expr} {te : TE} {pos' : Pos} (hN : X.N.Nodup) (hi : X.N[i]? = some x) (hx : Loc X.env.scope x) (he : PE X e te) (hs : swapsWith e (some (.Name x pos')) pos.line X.env = pure false := by rfl) (hf : X.fn x = true ∨ X.env.scope.names.lookup x = some .local := by first | exact .inl rfl | exact .inr rfl | assumption) :
    PS X (.Assign [.Name x pos'] e pos) (tAsg te (gName i)) := by
  intro pins s σ H D I h
  refine wpAny_Assign_Name (thn (he pins s σ H _ I h) fun v s1 ⟨y, H1, I1, r1, q1⟩ => ?_) hs
  exact store_ok I1 hN hi hx r1 (fun s2 I2 => ⟨_, H1, I2, q1⟩) hf
end

/-! ### while -/
section
variable {X : Cx} {pos : Pos}
/-- the invariant W with its measure -/
def tWhile (c : TT) (tb : TS) : TS := fun D σ H => ∃ W : Nat → St → Hp → Prop, (∃ m, W m σ H) ∧ ∀ m σ H, W m σ H →
  c σ H fun b H1 => if b = true then ∃ N : St → Hp → Prop, (∀ σ' H', N σ' H' → ∃ m', m' < m ∧ W m' σ' H') ∧ tb { D with nx := N, ct := N, bk := D.nx } σ H1 else D.nx σ H1
theorem ps_while {c : Expr} {body : List Stmt} {tc : TT} {tb : TS} (hp : PassesOwn (model X.prog X.w) X.A X.env X.xe) (hc : PT X c tc) (hb : PSs X body tb) : PS X (.While c body [] pos) (tWhile tc tb) := by
  intro pins s σ H D I h
  obtain ⟨W, ⟨m0, w0⟩, turn⟩ := h
  refine wpAny_While (codeAny_whileLoop (fun n s' => ∃ σ' H', Inv X pins σ' H' s' ∧ W n σ' H') ?_ m0 ⟨σ, H, I, w0⟩)
  rintro n s1 ⟨σ1, H1, I1, w1⟩
  refine wpAny_passesOwn hp (thn (hc pins s1 σ1 H1 _ I1 (turn n σ1 H1 w1)) fun b s2 ⟨H2, I2, q2⟩ => ?_)
  cases b with
  | true =>
    obtain ⟨N, hN, q2⟩ := q2
    rw [if_pos rfl]
    refine wpAny_passesOwn hp (thn (hb pins s2 σ1 H2 _ I2 q2) fun f s3 q3 => ?_)
    cases f with
    | next =>
      obtain ⟨σ3, H3, I3, n3⟩ := q3
      obtain ⟨m', hm, w3⟩ := hN σ3 H3 n3
      exact ⟨m', hm, σ3, H3, I3, w3⟩
    | cont =>
      obtain ⟨σ3, H3, I3, n3⟩ := q3
      obtain ⟨m', hm, w3⟩ := hN σ3 H3 n3
      exact ⟨m', hm, σ3, H3, I3, w3⟩
    | brk => exact q3
    | ret v => exact q3
  | false =>
    rw [if_neg Bool.false_ne_true]
    exact wpAny_execs_nil ⟨σ1, H2, I2, q2⟩
end

/-! ### what a loop or a comprehension walks -/
/-- at turn i: it yields x (the heap may grow), or it stops -/
structure It where
  go : Nat → Hp → Prop
  yld : Nat → Hp → V → Hp → Prop
  stop : Nat → Hp → Prop
/-- the iterator's own objects may turn: they are not the frame's, not pinned, younger than the entry (or a comprehension's own) -/
def FpOk (X : Cx) (pins : List (Addr × Obj)) (H : Hp) (b : Addr) : Prop :=
  H b = none ∧ b ≠ X.env.locals ∧ b ∉ X.fs ∧ (b ∈ X.ex ∨ X.s_0.heap.objs.size ≤ b) ∧ (∀ x c, X.env.cells.lookup x = some c → c ≠ b) ∧ ∀ p ∈ X.pn ++ pins, p.1 ≠ b
theorem Inv.fpOk {X : Cx} {pins : List (Addr × Obj)} {σ : St} {H H' : Hp} {s : Shared} {b : Addr} (I : Inv X pins σ H s) (hb : s.heap.objs.size ≤ b) (hn : H' b = none) : FpOk X pins H' b := by
  refine ⟨hn, Nat.ne_of_gt (Nat.lt_of_lt_of_le I.lt hb), I.nofs hb, .inr (Nat.le_trans I.sz hb), fun x c e z => ?_, fun p hp z => ?_⟩
  · obtain ⟨v, q⟩ := I.cell x c e
    exact absurd (Nat.lt_of_lt_of_le q.lt (by rw [z]; exact hb)) (Nat.lt_irrefl _)
  · exact absurd (Nat.lt_of_lt_of_le (Heap.lt_size (I.pin p hp).1) (by rw [z]; exact hb)) (Nat.lt_irrefl _)
structure Turn (P : Program) (w : World) (K : PySem.W.Frag) (tg : Expr) (J : It) (fp : List Addr) (it : Addr) (tn : Nat → Heap → Prop) : Prop where
  mem : it ∈ fp
  obj : ∀ i h, tn i h → ∀ b ∈ fp, ∃ o, h.get? b = some o ∧ ∀ v, o.data ≠ .cell v
  keep : ∀ i h h', tn i h → (∀ b ∈ fp, ∀ o, h.get? b = some o → h'.get? b = some o) → tn i h'
  item : ∀ (X : Cx), X.prog = P → X.w = w → X.K = K → X.calm = true → ∀ (i : Nat) (pins : List (Addr × Obj)) (s : Shared) (σ : St) (H : Hp) (E : Value → Shared → Prop), Inv X pins σ H s → (∀ b ∈ fp, FpOk X pins H b) → tn i s.heap → J.go i H →
    wpAny (model P w) X.A (pyNext (.ref it)) (fun r s1 => ∃ u, r = some u ∧
      wpAny (model P w) X.A (letOwnedTupleGo tg (.ref it) u) (fun _ s2 => ∃ x H', Inv X pins σ H' s2 ∧ RelV x u ∧ J.yld i H x H' ∧ tn (i + 1) s2.heap ∧ ∀ b ∈ fp, H' b = none) E s1) E s
  done : ∀ (X : Cx), X.prog = P → X.w = w → X.K = K → X.calm = true → ∀ (i : Nat) (pins : List (Addr × Obj)) (s : Shared) (σ : St) (H : Hp) (E : Value → Shared → Prop), Inv X pins σ H s → (∀ b ∈ fp, FpOk X pins H b) → tn i s.heap → J.stop i H →
    wpAny (model P w) X.A (pyNext (.ref it)) (fun r s1 => r = none ∧ Inv X pins σ H s1) E s
  self : ∀ (A : Around) (i : Nat) (s : Shared) (Q : Value → Shared → Prop) (E : Value → Shared → Prop), tn i s.heap → Q (.ref it) s → wpAny (model P w) A (pyIter (.ref it)) Q E s
abbrev TI := St → Hp → (It → Hp → Prop) → Prop
/-- an iterator has come -/
def PIE (X : Cx) (pins : List (Addr × Obj)) (σ : St) (tg : Expr) (R : It → Hp → Prop) (itv : Value) (s2 : Shared) : Prop :=
  ∃ (it : Addr) (fp : List Addr) (tn : Nat → Heap → Prop) (J : It) (H' : Hp), itv = .ref it ∧ Inv X pins σ H' s2 ∧ Turn X.prog X.w X.K tg J fp it tn ∧ tn 0 s2.heap ∧ (∀ b ∈ fp, FpOk X pins H' b) ∧ R J H'
def PI (X : Cx) (tg iter : Expr) (wi : TI) : Prop :=
  ∀ (pins : List (Addr × Obj)) (s : Shared) (σ : St) (H : Hp) (R : It → Hp → Prop), Inv X pins σ H s → wi σ H R →
    wpAny (model X.prog X.w) X.A (eval iter X.env) (fun v s1 => wpAny (model X.prog X.w) X.A (pyIter v) (PIE X pins σ tg R) X.xe s1) X.xe s

/-- the step ahead of the store is nothing for an iterator that keeps no tuple -/
theorem go_of {M : Model} {A : Around} {E : Value → Shared → Prop} {s : Shared} {tg : Expr} {it : Addr} {u : Value} {o : Obj} {n : String} {vs : Array Value} {Q : Unit → Shared → Prop} (ho : s.heap.get? it = some o) (hc : o.cls = .type n) (hd : o.data = .fields vs)
    (hn : ["enumerate", "zip", "dict_itemiterator", "dict_reverseitemiterator", "odict_iterator", "itertools.zip_longest", "itertools.pairwise"].contains n = false) (hQ : Q () s) : wpAny M A (letOwnedTupleGo tg (.ref it) u) Q E s := by
  unfold letOwnedTupleGo
  cases tg <;> first
    | exact wpAny_pure hQ
    | (cases u <;> first
        | exact wpAny_pure hQ
        | (refine wpAny_bind (wpAny_load ho ?_)
           rw [hc, hd]
           show wpAny M A (if (["enumerate", "zip", "dict_itemiterator", "dict_reverseitemiterator", "odict_iterator", "itertools.zip_longest", "itertools.pairwise"].contains n && vs[0]? == some (rawInt _)) = true then _ else _) Q E s
           rw [if_neg (by intro h; rw [hn, Bool.false_and] at h; cases h)]
           exact wpAny_pure hQ))

/-- the list at a, as it stands at each turn (a loop may append to it) -/
def Itl (K : PySem.W.Frag) (a : Addr) : It :=
  ⟨fun i H => ∃ xs x, SqL K H a xs ∧ xs[i]? = some x, fun i H x H' => H' = H ∧ ∀ xs, SqL K H a xs → xs[i]? = some x, fun i H => ∃ xs, SqL K H a xs ∧ xs.length ≤ i⟩
/-- lo, lo + 1, .. (n of them) -/
def Itr (lo : Int) (n : Nat) : It := ⟨fun i _ => i < n, fun i H x H' => H' = H ∧ x = .int (lo + i), fun i _ => n ≤ i⟩
theorem turn_list {P : Program} {w : World} {K : PySem.W.Frag} {tg : Expr} (a it : Addr) : Turn P w K tg (Itl K a) [it] it (fun i h => h.IsListIter it a i) where
  mem := by simp
  obj := fun i h st b hb => by
    have e : b = it := by simpa using hb
    subst e
    obtain ⟨o, e, c, d⟩ := st
    exact ⟨o, e, fun v z => by rw [d] at z; cases z⟩
  keep := fun i h h' st k => st.at fun o e => k it (by simp) o e
  item := by
    intro X hP hw hK hc i pins s σ H E I hf st hg
    subst hP hw hK
    obtain ⟨xs, x, hq, hx⟩ := hg
    obtain ⟨its, rv, p, hz⟩ := I.list hq
    obtain ⟨u, hu, ru⟩ := rv.get hx
    obtain ⟨f0, f1, f2, f3, f4, f5⟩ := hf it (by simp)
    refine wpAny_pyNext_list_item st p.isList (x := u) (by simpa using hu) fun h' st' sb => ?_
    have I1 : Inv X pins σ H { s with heap := h' } := I.turned (t' := s.toks) (fun b o hb e => (sb.2 b hb).trans e) f0 f1 f3 f4 f5
    obtain ⟨o, e, c, d⟩ := id st'
    exact ⟨u, rfl, go_of (s := { s with heap := h' }) e c d (by decide) ⟨x, H, I1, ru, ⟨rfl, fun ys hy => by rw [I.list_inj hy hq]; exact hx⟩, st', fun b hb => (hf b hb).1⟩⟩
  done := by
    intro X hP hw hK hc i pins s σ H E I hf st hg
    subst hP hw hK
    obtain ⟨xs, hq, hx⟩ := hg
    obtain ⟨its, rv, p, hz⟩ := I.list hq
    obtain ⟨f0, f1, f2, f3, f4, f5⟩ := hf it (by simp)
    have hl := rv.length
    exact wpAny_pyNext_list_end (I.ok.hd hc) st p.isList (by simp; omega) fun h' eb => ⟨rfl, I.turned (t' := s.toks) (fun b o hb e => eb b o hb e) f0 f1 f3 f4 f5⟩
  self := fun _ _ _ _ _ st h => wpAny_pyIter_listiter st h
theorem turn_range {P : Program} {w : World} {K : PySem.W.Frag} {tg : Expr} (it : Addr) (lo : Int) (n : Nat) : Turn P w K tg (Itr lo n) [it] it (fun i h => IsRangeIter h it (lo + (i : Nat) * 1) ((n : Int) - (i : Nat)) 1) where
  mem := by simp
  obj := fun i h st b hb => by
    have e : b = it := by simpa using hb
    subst e
    exact ⟨_, st, fun v z => by
      have z' : Data.fields _ = Data.cell v := z
      cases z'⟩
  keep := fun i h h' st k => k it (by simp) _ st
  item := by
    intro X hP hw hK hc i pins s σ H E I hf st hg
    subst hP hw hK
    obtain ⟨f0, f1, f2, f3, f4, f5⟩ := hf it (by simp)
    have W := Walks.range (prog := X.prog) (w := X.w) (I.ok.hd hc) it lo 1 n
    refine W.item i s _ _ hg st fun v h' tk hv st' kk => ?_
    obtain ⟨t, rfl⟩ := hv
    have I1 : Inv X pins σ H { s with heap := h', toks := tk } := I.turned (fun b o hb e => kk b o (by simpa using hb) e) f0 f1 f3 f4 f5
    refine ⟨_, rfl, go_of (s := { s with heap := h', toks := tk }) (n := "range_iterator") st' rfl rfl (by decide) ⟨.int (lo + i), H, I1, ⟨t, ?_⟩, ⟨rfl, rfl⟩, st', fun b hb => (hf b hb).1⟩⟩
    rw [Int.mul_one]
  done := by
    intro X hP hw hK hc i pins s σ H E I hf st hg
    subst hP hw hK
    obtain ⟨f0, f1, f2, f3, f4, f5⟩ := hf it (by simp)
    exact wpAny_pyNext_range_end (I.ok.hd hc) st (by have : n ≤ i := hg; omega) fun h' eb => ⟨rfl, I.turned (t' := s.toks) (fun b o hb e => eb b o hb e) f0 f1 f3 f4 f5⟩
  self := fun _ _ _ _ _ st h => wpAny_pyIter_rangeiter st h
end L2

namespace L2
open PySem PySem.Spec PyProof.Rows
section
variable {X : Cx} {tg : Expr}
def iList (K : PySem.W.Frag) (tl : TE) : TI := fun σ H R => tl σ H fun x H1 => ∃ a, x = .ref a ∧ (∃ xs, SqL K H1 a xs) ∧ R (Itl K a) H1
theorem pi_list {l : Expr} {tl : TE} (hl : PE X l tl) : PI X tg l (iList X.K tl) := by
  intro pins s σ H R I h
  refine thn (hl pins s σ H _ I h) fun v s1 ⟨x, H1, I1, r1, q1⟩ => ?_
  obtain ⟨a, e, ⟨xs, hq⟩, q⟩ := q1
  subst e
  cases r1
  obtain ⟨its, rv, p, hz⟩ := I1.list hq
  refine wpAny_pyIter_list p.isList ?_
  refine ⟨s1.heap.objs.size, [s1.heap.objs.size], _, _, H1, rfl, I1.kept (t' := s1.toks) fun b o e => Heap.get?_push_of_some _ e, turn_list a _, ⟨_, Heap.get?_push_size _ rfl, rfl, rfl⟩, fun b hb => ?_, q⟩
  have e : b = s1.heap.objs.size := by simpa using hb
  subst e
  exact I1.fpOk (Nat.le_refl _) (I1.hok.fresh (Nat.le_refl _))
/-- a range object just made, walked -/
theorem range_it {pins : List (Addr × Obj)} {σ : St} {H : Hp} {s : Shared} {R : It → Hp → Prop} {E : Value → Shared → Prop} {lo hi : Int} {t u v : Tok} {tk : Nat} (I : Inv X pins σ H s) (h1 : -(2 ^ 62) ≤ lo) (h2 : lo < 2 ^ 62) (h3 : -(2 ^ 62) ≤ hi) (h4 : hi < 2 ^ 62)
    (q : R (Itr lo (hi - lo).toNat) H) : wpAny (model X.prog X.w) X.A (pyIter (.ref s.heap.objs.size)) (PIE X pins σ tg R) E { s with heap := s.heap.push { cls := .type "range", data := .fields #[.int lo t, .int hi u, .int 1 v] }, toks := tk } := by
  refine wpAny_pyIter_range (IsRange.new ..) (small_one h1 h2 h3 h4) ?_
  have I1 : Inv X pins σ H { s with heap := s.heap.push { cls := .type "range", data := .fields #[.int lo t, .int hi u, .int 1 v] }, toks := tk } := I.kept fun b o e => Heap.get?_push_of_some _ e
  refine ⟨(s.heap.push { cls := .type "range", data := .fields #[.int lo t, .int hi u, .int 1 v] }).objs.size, [(s.heap.push { cls := .type "range", data := .fields #[.int lo t, .int hi u, .int 1 v] }).objs.size], _, _, H, rfl,
    I1.kept (t' := tk) fun b o e => Heap.get?_push_of_some _ e, turn_range _ lo (hi - lo).toNat, ?_, fun b hb => ?_, q⟩
  · have e1 : lo + ((0 : Nat) : Int) * 1 = lo := by simp
    have e2 : (((hi - lo).toNat : Nat) : Int) - ((0 : Nat) : Int) = Builtin.Range.rangeSize lo hi 1 := by rw [rangeSize_one]; split <;> omega
    show IsRangeIter _ _ (lo + ((0 : Nat) : Int) * 1) ((((hi - lo).toNat : Nat) : Int) - ((0 : Nat) : Int)) 1
    rw [e1, e2]
    exact Heap.get?_push_size _ rfl
  · have e : b = (s.heap.push { cls := .type "range", data := .fields #[.int lo t, .int hi u, .int 1 v] }).objs.size := by simpa using hb
    subst e
    exact I1.fpOk (Nat.le_refl _) (I1.hok.fresh (Nat.le_refl _))
def iRng1 (ta : TA) : TI := fun σ H R => ta σ H fun vs H1 => ∃ j : Int, vs = [.int j] ∧ -(2 ^ 62) ≤ j ∧ j < 2 ^ 62 ∧ R (Itr 0 j.toNat) H1
def iRng2 (ta : TA) : TI := fun σ H R => ta σ H fun vs H1 => ∃ i j : Int, vs = [.int i, .int j] ∧ (-(2 ^ 62) ≤ i ∧ i < 2 ^ 62 ∧ -(2 ^ 62) ≤ j ∧ j < 2 ^ 62) ∧ R (Itr i (j - i).toNat) H1
theorem pi_range1 {a : Expr} {ta : TA} {p pos : Pos} (hg : Gl X "range") (hm : X.mg "range" = none) (ha : PA X [a] ta) (hs : starEach [a] X.env = [(false, eval a X.env)] := by rfl) : PI X tg (.Call (.Name "range" p) [a] [] pos) (iRng1 ta) := by
  intro pins s σ H R I h
  refine Call_ (ld_blt I hg hm boot_range (PyProof.Rows.callWith_type1 (thn (ha pos pins s σ H _ I h) fun us s1 ⟨vs, H1, I1, r1, q1⟩ => ?_) hs rfl))
  obtain ⟨j, e, q1, q2, q⟩ := q1
  subst e
  cases r1 with
  | cons r rr =>
    cases rr
    obtain ⟨t, rfl⟩ := r
    exact call_range_1 (range_it I1 (by omega) (by omega) q1 q2 (by simpa using q))
theorem pi_range2 {a b : Expr} {ta : TA} {p pos : Pos} (hg : Gl X "range") (hm : X.mg "range" = none) (ha : PA X [a, b] ta) (hs : starEach [a, b] X.env = [(false, eval a X.env), (false, eval b X.env)] := by rfl) (hs2 : starEach [b] X.env = [(false, eval b X.env)] := by rfl) :
    PI X tg (.Call (.Name "range" p) [a, b] [] pos) (iRng2 ta) := by
  intro pins s σ H R I h
  refine Call_ (ld_blt I hg hm boot_range (PyProof.Rows.callWith_type1 (thn (ha pos pins s σ H _ I h) fun us s1 ⟨vs, H1, I1, r1, q1⟩ => ?_) (by rw [hs, hs2]) (by rw [hs2]; rfl)))
  obtain ⟨i, j, e, ⟨q1, q2, q3, q4⟩, q⟩ := q1
  subst e
  cases r1 with
  | cons r rr =>
    cases rr with
    | cons r' rr =>
      cases rr
      obtain ⟨t, rfl⟩ := r
      obtain ⟨t', rfl⟩ := r'
      exact call_range_2 (range_it I1 q1 q2 q3 q4 q)

/-! ### for -/
/-- W: the invariant by the turn and a measure; N: what the body is to reach -/
def tFor (wi : TI) (g : TG) (tb : TS) : TS := fun D σ H => wi σ H fun J H1 => ∃ W : Nat → Nat → St → Hp → Prop, (∃ m, W 0 m σ H1) ∧ ∀ i m σ H, W i m σ H →
  (J.stop i H ∧ D.nx σ H) ∨ (J.go i H ∧ ∃ N : St → Hp → Prop, (∀ σ' H', N σ' H' → ∃ m', m' < m ∧ W (i + 1) m' σ' H') ∧ ∀ x H', J.yld i H x H' → g x σ H' fun σ2 H2 => tb { D with nx := N, ct := N, bk := D.nx } σ2 H2)
/-- the records at fp as they stand -/
def pinsAt (fp : List Addr) (h : Heap) : List (Addr × Obj) := fp.filterMap fun b => (h.get? b).map fun o => (b, o)
theorem mem_pinsAt {fp : List Addr} {h : Heap} {b : Addr} {o : Obj} (hb : b ∈ fp) (e : h.get? b = some o) : (b, o) ∈ pinsAt fp h := List.mem_filterMap.mpr ⟨b, hb, by rw [e]; rfl⟩
theorem of_pinsAt {fp : List Addr} {h : Heap} {p : Addr × Obj} (hp : p ∈ pinsAt fp h) : p.1 ∈ fp ∧ h.get? p.1 = some p.2 := by
  obtain ⟨b, hb, e⟩ := List.mem_filterMap.mp hp
  cases q : h.get? b with
  | none => rw [q] at e; cases e
  | some o =>
    rw [q] at e
    have e' : (b, o) = p := Option.some.inj e
    subst e'
    exact ⟨hb, q⟩
theorem Inv.pinned {pins : List (Addr × Obj)} {σ : St} {H : Hp} {s : Shared} {fp : List Addr} (I : Inv X pins σ H s) (hf : ∀ b ∈ fp, FpOk X pins H b) (ho : ∀ b ∈ fp, ∃ o, s.heap.get? b = some o ∧ ∀ v, o.data ≠ .cell v) : Inv X (pins ++ pinsAt fp s.heap) σ H s :=
  I.pins_of fun p hp => (List.mem_append.mp hp).elim (fun z => I.pin p (List.mem_append_right _ z)) fun z => by
    obtain ⟨hb, e⟩ := of_pinsAt z
    obtain ⟨f0, f1, f2, _⟩ := hf p.1 hb
    obtain ⟨o, e', d⟩ := ho p.1 hb
    rw [e] at e'; cases e'
    exact ⟨e, f0, f1, f2, d⟩
theorem Inv.unpinned {pins pl : List (Addr × Obj)} {σ : St} {H : Hp} {s : Shared} (I : Inv X (pins ++ pl) σ H s) : Inv X pins σ H s := I.pins_of fun p hp => I.pin p (List.mem_append_right _ (List.mem_append_left _ hp))
theorem ps_for {iter : Expr} {body : List Stmt} {wi : TI} {g : TG} {tb : TS} {pos : Pos} (hp : PassesOwn (model X.prog X.w) X.A X.env X.xe) (hc : X.calm = true) (hi : PI X tg iter wi) (hg : PG X tg g) (hb : PSs X body tb)
    (hs : ∀ x, foldedSetIterable iter X.env x = pure x := by intro _; rfl) : PS X (.For tg iter body [] pos) (tFor wi g tb) := by
  intro pins s σ H D I h
  refine wpAny_For (thn (hi pins s σ H _ I h) fun v s1 h1 => thn h1 fun itv s2 h2 => ?_) hs
  obtain ⟨it, fp, tn, J, H2, e, I2, T, st2, f2, W, ⟨m0, w0⟩, turn⟩ := h2
  subst e
  -- what stays true of the iterator's objects through the loop
  have stat : ∀ {H' : Hp}, (∀ b ∈ fp, H' b = none) → ∀ b ∈ fp, FpOk X pins H' b := fun hn b hb => ⟨hn b hb, (f2 b hb).2⟩
  refine codeAny_forLoop_any (fun n s' => ∃ i σ' H', Inv X pins σ' H' s' ∧ tn i s'.heap ∧ (∀ b ∈ fp, H' b = none) ∧ W i n σ' H') ?_ m0 ⟨0, σ, H2, I2, st2, fun b hb => (f2 b hb).1, w0⟩
  rintro n s3 ⟨i, σ3, H3, I3, st3, fr3, w3⟩
  rcases turn i n σ3 H3 w3 with ⟨stop, qn⟩ | ⟨go, N, hN, step⟩
  · refine wpAny_passesOwn hp (thn (T.done X rfl rfl rfl hc i pins s3 σ3 H3 X.xe I3 (stat fr3) st3 stop) fun r s4 ⟨hr, I4⟩ => ?_)
    subst hr
    exact wpAny_execs_nil ⟨σ3, H3, I4, qn⟩
  · refine wpAny_passesOwn hp (thn (T.item X rfl rfl rfl hc i pins s3 σ3 H3 X.xe I3 (stat fr3) st3 go) fun r s4 ⟨u, hr, h4⟩ => ?_)
    subst hr
    refine wpAny_passesOwn hp (thn h4 fun _ s5 ⟨x, H5, I5, r5, y5, st5, fr5⟩ => ?_)
    have I5' := I5.pinned (stat fr5) (T.obj _ _ st5)
    refine wpAny_passesOwn hp (thn (hg _ s5 σ3 H5 x u _ I5' r5 (step x H5 y5)) fun _ s6 ⟨σ6, H6, I6, q6⟩ => ?_)
    refine wpAny_passesOwn hp (thn (hb _ s6 σ6 H6 _ I6 q6) fun f s7 q7 => ?_)
    have again : ∀ {σ7 : St} {H7 : Hp}, Inv X (pins ++ pinsAt fp s5.heap) σ7 H7 s7 → N σ7 H7 → ∃ m, m < n ∧ ∃ i σ' H', Inv X pins σ' H' s7 ∧ tn i s7.heap ∧ (∀ b ∈ fp, H' b = none) ∧ W i m σ' H' := fun {σ7 H7} I7 n7 => by
      obtain ⟨m', hm, w7⟩ := hN σ7 H7 n7
      refine ⟨m', hm, i + 1, σ7, H7, I7.unpinned, T.keep _ _ _ st5 fun b hb o e => (I7.pin (b, o) (List.mem_append_right _ (List.mem_append_right _ (mem_pinsAt hb e)))).1, fun b hb => ?_, w7⟩
      obtain ⟨o, e, d⟩ := T.obj _ _ st5 b hb
      exact (I7.pin (b, o) (List.mem_append_right _ (List.mem_append_right _ (mem_pinsAt hb e)))).2.1
    cases f with
    | next => obtain ⟨σ7, H7, I7, n7⟩ := q7; exact again I7 n7
    | cont => obtain ⟨σ7, H7, I7, n7⟩ := q7; exact again I7 n7
    | brk => obtain ⟨σ7, H7, I7, q7⟩ := q7; exact ⟨σ7, H7, I7.unpinned, q7⟩
    | ret v => obtain ⟨x7, σ7, H7, I7, r7, q7⟩ := q7; exact ⟨x7, σ7, H7, I7.unpinned, r7, q7⟩
end

/-! ### the forms one uses -/
/-- over a list that the body leaves as it is -/
theorem for_list {K : PySem.W.Frag} {a : Addr} {xs : List V} {g : TG} {tb : TS} {D : Ends} {σ : St} {H : Hp} (Pv : Nat → St → Hp → Prop) (h0 : Pv 0 σ H) (hl : ∀ i σ H, i ≤ xs.length → Pv i σ H → SqL K H a xs)
    (hs : ∀ i x σ H, xs[i]? = some x → Pv i σ H → g x σ H fun σ2 H2 => tb { D with nx := Pv (i + 1), ct := Pv (i + 1), bk := D.nx } σ2 H2) (hd : ∀ σ H, Pv xs.length σ H → D.nx σ H) :
    ∃ W : Nat → Nat → St → Hp → Prop, (∃ m, W 0 m σ H) ∧ ∀ i m σ H, W i m σ H →
      ((Itl K a).stop i H ∧ D.nx σ H) ∨ ((Itl K a).go i H ∧ ∃ N : St → Hp → Prop, (∀ σ' H', N σ' H' → ∃ m', m' < m ∧ W (i + 1) m' σ' H') ∧ ∀ x H', (Itl K a).yld i H x H' → g x σ H' fun σ2 H2 => tb { D with nx := N, ct := N, bk := D.nx } σ2 H2) := by
  refine ⟨fun i m σ H => m = xs.length - i ∧ i ≤ xs.length ∧ Pv i σ H, ⟨xs.length, by simp, Nat.zero_le _, h0⟩, ?_⟩
  rintro i m σ H ⟨rfl, hi, p⟩
  have q := hl i σ H hi p
  by_cases hlt : i < xs.length
  · refine .inr ⟨⟨xs, xs[i], q, by simp [hlt]⟩, Pv (i + 1), fun σ' H' p' => ⟨xs.length - (i + 1), by omega, rfl, hlt, p'⟩, fun x H' y => ?_⟩
    obtain ⟨e, y⟩ := y
    subst e
    exact hs i x σ _ (y xs q) p
  · have e : i = xs.length := by omega
    subst e
    exact .inl ⟨⟨xs, q, Nat.le_refl _⟩, hd σ H p⟩
theorem for_range {lo : Int} {n : Nat} {g : TG} {tb : TS} {D : Ends} {σ : St} {H : Hp} (Pv : Nat → St → Hp → Prop) (h0 : Pv 0 σ H)
    (hs : ∀ i σ H, i < n → Pv i σ H → g (.int (lo + i)) σ H fun σ2 H2 => tb { D with nx := Pv (i + 1), ct := Pv (i + 1), bk := D.nx } σ2 H2) (hd : ∀ σ H, Pv n σ H → D.nx σ H) :
    ∃ W : Nat → Nat → St → Hp → Prop, (∃ m, W 0 m σ H) ∧ ∀ i m σ H, W i m σ H →
      ((Itr lo n).stop i H ∧ D.nx σ H) ∨ ((Itr lo n).go i H ∧ ∃ N : St → Hp → Prop, (∀ σ' H', N σ' H' → ∃ m', m' < m ∧ W (i + 1) m' σ' H') ∧ ∀ x H', (Itr lo n).yld i H x H' → g x σ H' fun σ2 H2 => tb { D with nx := N, ct := N, bk := D.nx } σ2 H2) := by
  refine ⟨fun i m σ H => m = n - i ∧ i ≤ n ∧ Pv i σ H, ⟨n, by simp, Nat.zero_le _, h0⟩, ?_⟩
  rintro i m σ H ⟨rfl, hi, p⟩
  by_cases hlt : i < n
  · refine .inr ⟨hlt, Pv (i + 1), fun σ' H' p' => ⟨n - (i + 1), by omega, rfl, hlt, p'⟩, fun x H' y => ?_⟩
    obtain ⟨e, y⟩ := y
    subst e y
    exact hs i σ _ hlt p
  · have e : i = n := by omega
    subst e
    exact .inl ⟨Nat.le_refl _, hd σ H p⟩
end L2

namespace L2
open PySem PySem.Spec PyProof.Rows

abbrev R2 := V → V → Hp → VK → Prop
/-- a two-place operation on values: f is binaryOp op, inplaceOp op or compareOp op -/
def OpR (X : Cx) (f : Value → Value → Sem Value) (r : R2) : Prop :=
  ∀ (pins : List (Addr × Obj)) (s : Shared) (σ : St) (H : Hp) (x y : V) (v u : Value) (Q : VK), Inv X pins σ H s → RelV x v → RelV y u → r x y H Q →
    wpAny (model X.prog X.w) X.A (f v u) (EP X pins σ Q) X.xe s
/-- a call of a value that is known (a builtin, a type) with values -/
def CallR (X : Cx) (f : Value) (r : List V → Hp → VK → Prop) : Prop :=
  ∀ (pins : List (Addr × Obj)) (s : Shared) (σ : St) (H : Hp) (xs : List V) (us : List Value) (Q : VK), Inv X pins σ H s → Vals xs us → r xs H Q →
    wpAny (model X.prog X.w) X.A (call f us) (EP X pins σ Q) X.xe s
def tOp (r : R2) (ta tb : TE) : TE := fun σ H Q => ta σ H fun x H1 => tb σ H1 fun y H2 => r x y H2 Q
/-- ints in, under C, and a value out -/
def rI (C : Int → Int → Prop) (g : Int → Int → V) : R2 := fun x y H Q => ∃ i j, x = .int i ∧ y = .int j ∧ C i j ∧ Q (g i j) H
def rI0 (g : Int → Int → V) : R2 := fun x y H Q => ∃ i j, x = .int i ∧ y = .int j ∧ Q (g i j) H
section
variable {X : Cx} {a b c : Expr} {ta tb tc : TE} {pos : Pos}

theorem binT (ha : PE X a ta) (hb : PE X b tb) {pins : List (Addr × Obj)} {s : Shared} {σ : St} {H : Hp} {R : V → V → Hp → Prop} (I : Inv X pins σ H s)
    (h : ta σ H fun x H1 => tb σ H1 fun y H2 => R x y H2) {Q : Value → Shared → Prop} {f : Value → Value → Sem Value}
    (hf : ∀ v u s2 x y H2, Inv X pins σ H2 s2 → RelV x v → RelV y u → R x y H2 → wpAny (model X.prog X.w) X.A (f v u) Q X.xe s2) :
    wpAny (model X.prog X.w) X.A (eval a X.env) (fun v s₁ => wpAny (model X.prog X.w) X.A (eval b X.env) (fun u s₂ => wpAny (model X.prog X.w) X.A (f v u) Q X.xe s₂) X.xe s₁) X.xe s := by
  refine thn (ha pins s σ H _ I h) fun v s1 ⟨x, H1, I1, r1, q1⟩ => ?_
  refine thn (hb pins s1 σ H1 _ I1 q1) fun u s2 ⟨y, H2, I2, r2, q2⟩ => ?_
  exact hf v u s2 x y H2 I2 r1 r2 q2

theorem pe_op {op : Operator} {r : R2} (ho : OpR X (binaryOp op) r) (ha : PE X a ta) (hb : PE X b tb) : PE X (.BinOp a op b pos) (tOp r ta tb) := by
  intro pins s σ H Q I h
  exact wpAny_BinOp (binT ha hb I h fun v u s2 x y H2 I2 rx ry q => ho pins s2 σ H2 x y v u Q I2 rx ry q)
/-! ### ints -/
theorem opI {f : Value → Value → Sem Value} {C : Int → Int → Prop} {g : Int → Int → Int}
    (rule : ∀ (i j : Int) (t u : Tok) (s : Shared) (Q : Value → Shared → Prop) (E : Value → Shared → Prop), C i j → Q (.int (g i j) s.toks) { s with toks := s.toks + 1 } → wpAny (model X.prog X.w) X.A (f (.int i t) (.int j u)) Q E s) :
    OpR X f (rI C fun i j => .int (g i j)) := by
  intro pins s σ H x y v u Q I rx ry h
  obtain ⟨i, j, rfl, rfl, hc, q⟩ := h
  obtain ⟨t, rfl⟩ := rx
  obtain ⟨t', rfl⟩ := ry
  exact rule i j t t' s _ _ hc ⟨.int (g i j), H, I.tok _, ⟨_, rfl⟩, q⟩
theorem opI0 {f : Value → Value → Sem Value} {g : Int → Int → Int}
    (rule : ∀ (i j : Int) (t u : Tok) (s : Shared) (Q : Value → Shared → Prop) (E : Value → Shared → Prop), Q (.int (g i j) s.toks) { s with toks := s.toks + 1 } → wpAny (model X.prog X.w) X.A (f (.int i t) (.int j u)) Q E s) :
    OpR X f (rI0 fun i j => .int (g i j)) := by
  intro pins s σ H x y v u Q I rx ry h
  obtain ⟨i, j, rfl, rfl, q⟩ := h
  obtain ⟨t, rfl⟩ := rx
  obtain ⟨t', rfl⟩ := ry
  exact rule i j t t' s _ _ ⟨.int (g i j), H, I.tok _, ⟨_, rfl⟩, q⟩
theorem opB0 {f : Value → Value → Sem Value} {g : Int → Int → Bool}
    (rule : ∀ (i j : Int) (t u : Tok) (s : Shared) (Q : Value → Shared → Prop) (E : Value → Shared → Prop), Q (.bool (g i j)) s → wpAny (model X.prog X.w) X.A (f (.int i t) (.int j u)) Q E s) :
    OpR X f (rI0 fun i j => .bl (g i j)) := by
  intro pins s σ H x y v u Q I rx ry h
  obtain ⟨i, j, rfl, rfl, q⟩ := h
  obtain ⟨t, rfl⟩ := rx
  obtain ⟨t', rfl⟩ := ry
  exact rule i j t t' s _ _ ⟨.bl (g i j), H, I, rfl, q⟩

def CDiv (i j : Int) : Prop := 0 < j ∧ j < 1073741824
def CMul (i j : Int) : Prop := (-(2 ^ 64) < i ∧ i < 2 ^ 64) ∨ (-(2 ^ 64) < j ∧ j < 2 ^ 64)
theorem CMul.ok {i j : Int} (h : CMul i j) : IntMulOk i j := by
  rcases h with ⟨h1, h2⟩ | ⟨h1, h2⟩
  · exact .of_left (intBits_le_64 h1 h2)
  · exact .of_right (intBits_le_64 h1 h2)
theorem op_add : OpR X (binaryOp .Add) (rI0 fun i j => .int (i + j)) := opI0 fun _ _ _ _ _ _ _ q => add_int q
theorem op_sub : OpR X (binaryOp .Sub) (rI0 fun i j => .int (i - j)) := opI0 fun _ _ _ _ _ _ _ q => sub_int q
theorem op_mul : OpR X (binaryOp .Mult) (rI CMul fun i j => .int (i * j)) := opI fun _ _ _ _ _ _ _ hc q => mul_int q hc.ok
/-- // by a positive divisor -/
theorem op_fdiv : OpR X (binaryOp .FloorDiv) (rI CDiv fun i j => .int (i / j)) := opI fun i j _ _ _ _ _ hc q => by
  have h1 : (0 : Int) < j := hc.1
  have h2 : j < 1073741824 := hc.2
  exact floordiv_int (by omega) (by rw [Int.fdiv_eq_ediv_of_nonneg i (by omega)]; exact q) (.inl (PyProof.noPylong_small (by omega)))
/-- % by a positive divisor of any size -/
theorem op_mod : OpR X (binaryOp .Mod) (rI (fun _ j => 0 < j) fun i j => .int (i % j)) := opI fun i j _ _ _ _ _ hc q => by
  have h1 : (0 : Int) < j := hc
  exact mod_int' (by omega) (by rw [Int.fmod_eq_emod_of_nonneg i (by omega)]; exact q)
/-! ### bools among ints: n += (a < b) -/
end

/-! ### comparisons -/
/-- the scalars that == tells apart as data does -/
def scal : V → V → Bool
  | .non, .non => true | .non, .int _ => true | .int _, .non => true | .non, .bl _ => true | .bl _, .non => true | .non, .str _ => true | .str _, .non => true
  | .int _, .int _ => true | .bl _, .bl _ => true | .str _, .str _ => true | .byt _, .byt _ => true
  | .int _, .str _ => true | .str _, .int _ => true | .bl _, .str _ => true | .str _, .bl _ => true
  | _, _ => false
def rEq : R2 := fun x y H Q => scal x y = true ∧ Q (.bl (decide (x = y))) H
def rNe : R2 := fun x y H Q => scal x y = true ∧ Q (.bl (!decide (x = y))) H

theorem dec_int {i j : Int} : decide (V.int i = V.int j) = (i == j) := by
  rw [Bool.eq_iff_iff]
  simp
theorem dec_bl {i j : Bool} : decide (V.bl i = V.bl j) = (i == j) := by
  rw [Bool.eq_iff_iff]
  simp
theorem dec_str {i j : Str} : decide (V.str i = V.str j) = (i == j) := by
  rw [Bool.eq_iff_iff]
  simp
theorem dec_byt {i j : Array UInt8} : decide (V.byt i = V.byt j) = (i.toList == j.toList) := by
  rw [Bool.eq_iff_iff]
  cases i
  cases j
  simp

section
variable {X : Cx} {a b c : Expr} {ta tb tc : TE} {pos : Pos}
theorem fin_bl {pins : List (Addr × Obj)} {σ : St} {H : Hp} {s : Shared} {Q : VK} {k k' : Bool} (I : Inv X pins σ H s) (q : Q (.bl k) H) (e : k = k') : EP X pins σ Q (.bool k') s := by
  subst e
  exact ⟨.bl k, H, I, rfl, q⟩
theorem op_eq : OpR X (compareOp .Eq) rEq := by
  intro pins s σ H x y v u Q I rx ry h
  obtain ⟨hs, q⟩ := h
  cases x with
  | non =>
    cases rx
    cases y with
    | non => cases ry; exact PySem.EqNone.eq_none_none (fin_bl I q (by simp))
    | bl j => cases ry; exact PySem.EqNone.eq_none_bool (fin_bl I q (by simp))
    | int j => obtain ⟨t', rfl⟩ := ry; exact PySem.EqNone.eq_none_int (fin_bl I q (by simp))
    | str j => obtain ⟨t', rfl⟩ := ry; exact PySem.EqNone.eq_none_str (fin_bl I q (by simp))
    | _ => exact absurd (show false = true from hs) Bool.false_ne_true
  | bl i =>
    cases rx
    cases y with
    | non => cases ry; exact PySem.EqNone.eq_bool_none (fin_bl I q (by simp))
    | bl j => cases ry; exact eq_bool (fin_bl I q dec_bl)
    | str j => obtain ⟨t', rfl⟩ := ry; exact PySem.EqMixed.eq_bool_str (fin_bl I q (by simp))
    | _ => exact absurd (show false = true from hs) Bool.false_ne_true
  | int i =>
    obtain ⟨t, rfl⟩ := rx
    cases y with
    | non => cases ry; exact PySem.EqNone.eq_int_none (fin_bl I q (by simp))
    | int j => obtain ⟨t', rfl⟩ := ry; exact eq_int (fin_bl I q dec_int)
    | str j => obtain ⟨t', rfl⟩ := ry; exact PySem.EqMixed.eq_int_str (fin_bl I q (by simp))
    | _ => exact absurd (show false = true from hs) Bool.false_ne_true
  | str i =>
    obtain ⟨t, rfl⟩ := rx
    cases y with
    | non => cases ry; exact PySem.EqNone.eq_str_none (fin_bl I q (by simp))
    | bl j => cases ry; exact PySem.EqMixed.eq_str_bool (fin_bl I q (by simp))
    | int j => obtain ⟨t', rfl⟩ := ry; exact PySem.EqMixed.eq_str_int (fin_bl I q (by simp))
    | str j => obtain ⟨t', rfl⟩ := ry; exact eq_str (fin_bl I q dec_str)
    | _ => exact absurd (show false = true from hs) Bool.false_ne_true
  | byt i =>
    obtain ⟨t, rfl⟩ := rx
    cases y with
    | byt j => obtain ⟨t', rfl⟩ := ry; exact PySem.W.eq_bytes (fin_bl I q dec_byt)
    | _ => exact absurd (show false = true from hs) Bool.false_ne_true
  | _ => cases y <;> exact absurd (show false = true from hs) Bool.false_ne_true
theorem op_ne : OpR X (compareOp .NotEq) rNe := by
  intro pins s σ H x y v u Q I rx ry h
  obtain ⟨hs, q⟩ := h
  cases x with
  | non =>
    cases rx
    cases y with
    | non => cases ry; exact PySem.EqNone.ne_none_none (fin_bl I q (by simp))
    | bl j => cases ry; exact PySem.EqNone.ne_none_bool (fin_bl I q (by simp))
    | int j => obtain ⟨t', rfl⟩ := ry; exact PySem.EqNone.ne_none_int (fin_bl I q (by simp))
    | str j => obtain ⟨t', rfl⟩ := ry; exact PySem.EqNone.ne_none_str (fin_bl I q (by simp))
    | _ => exact absurd (show false = true from hs) Bool.false_ne_true
  | bl i =>
    cases rx
    cases y with
    | non => cases ry; exact PySem.EqNone.ne_bool_none (fin_bl I q (by simp))
    | bl j => cases ry; exact ne_bool (fin_bl I q (congrArg not dec_bl))
    | str j => obtain ⟨t', rfl⟩ := ry; exact PySem.EqMixed.ne_bool_str (fin_bl I q (by simp))
    | _ => exact absurd (show false = true from hs) Bool.false_ne_true
  | int i =>
    obtain ⟨t, rfl⟩ := rx
    cases y with
    | non => cases ry; exact PySem.EqNone.ne_int_none (fin_bl I q (by simp))
    | int j => obtain ⟨t', rfl⟩ := ry; exact ne_int (fin_bl I q (congrArg not dec_int))
    | str j => obtain ⟨t', rfl⟩ := ry; exact PySem.EqMixed.ne_int_str (fin_bl I q (by simp))
    | _ => exact absurd (show false = true from hs) Bool.false_ne_true
  | str i =>
    obtain ⟨t, rfl⟩ := rx
    cases y with
    | non => cases ry; exact PySem.EqNone.ne_str_none (fin_bl I q (by simp))
    | bl j => cases ry; exact PySem.EqMixed.ne_str_bool (fin_bl I q (by simp))
    | int j => obtain ⟨t', rfl⟩ := ry; exact PySem.EqMixed.ne_str_int (fin_bl I q (by simp))
    | str j => obtain ⟨t', rfl⟩ := ry; exact ne_str (fin_bl I q (congrArg not dec_str))
    | _ => exact absurd (show false = true from hs) Bool.false_ne_true
  | byt i =>
    obtain ⟨t, rfl⟩ := rx
    cases y with
    | byt j => obtain ⟨t', rfl⟩ := ry; exact PySem.W.ne_bytes (fin_bl I q (congrArg not dec_byt))
    | _ => exact absurd (show false = true from hs) Bool.false_ne_true
  | _ => cases y <;> exact absurd (show false = true from hs) Bool.false_ne_true

theorem op_lt : OpR X (compareOp .Lt) (rI0 fun i j => .bl (decide (i < j))) := opB0 fun _ _ _ _ _ _ _ q => lt_int q
theorem op_gt : OpR X (compareOp .Gt) (rI0 fun i j => .bl (decide (j < i))) := opB0 fun _ _ _ _ _ _ _ q => gt_int q
theorem op_ge : OpR X (compareOp .GtE) (rI0 fun i j => .bl (decide (j ≤ i))) := opB0 fun _ _ _ _ _ _ _ q => ge_int q
theorem nomark (b : Expr) {op : CmpOp} (h : op ≠ .In := by decide) (h2 : op ≠ .NotIn := by decide) : behindInMarks op b = false := by
  have e1 : (op == CmpOp.In) = false := by cases op <;> first | rfl | exact absurd rfl h
  have e2 : (op == CmpOp.NotIn) = false := by cases op <;> first | rfl | exact absurd rfl h2
  cases b <;> simp [behindInMarks, e1, e2]
/-- a comparison as a value; hm: nomark b, or (for in, not in) by with_unfolding_all rfl -/
theorem pe_cmpR {op : CmpOp} {r : R2} (ho : OpR X (compareOp op) r) (ha : PE X a ta) (hb : PE X b tb) (hm : behindInMarks op b = false) : PE X (.Compare a [op] [b] pos) (tOp r ta tb) := by
  intro pins s σ H Q I h
  exact wpAny_Compare1 (binT ha hb I h fun v u s2 x y H2 I2 rx ry q => ho pins s2 σ H2 x y v u Q I2 rx ry q) hm
/-- a reading of a value as a test -/
def tTest (t : TE) : TT := fun σ H Q => t σ H fun x H' => ∃ k, x = .bl k ∧ Q k H'
theorem pt_cmpR {op : CmpOp} {r : R2} (ho : OpR X (compareOp op) r) (ha : PE X a ta) (hb : PE X b tb) (hm : behindInMarks op b = false) : PT X (.Compare a [op] [b] pos) (tTest (tOp r ta tb)) := by
  intro pins s σ H Q I h
  refine wpAny_isTrue_Compare1 (thn (ha pins s σ H _ I h) fun v s1 ⟨x, H1, I1, r1, q1⟩ => thn (hb pins s1 σ H1 _ I1 q1) fun u s2 ⟨y, H2, I2, r2, q2⟩ =>
    thn (ho pins s2 σ H2 x y v u _ I2 r1 r2 q2) fun c s3 ⟨z, H3, I3, r3, k, e, q3⟩ => ?_) hm
  subst e
  cases r3
  exact wpAny_truthy_bool ⟨H3, I3, q3⟩
/-! ### truth -/
theorem line63 : (sizeLine : Nat) < 2 ^ 63 := by rw [sizeLine_eq]; decide
/-! ### strs and bytes -/
/-! ### scalar builtins, by CallR -/
theorem vals1 {x : V} {us : List Value} (r : Vals [x] us) : ∃ u, us = [u] ∧ RelV x u := by
  cases r with
  | cons r1 r2 => cases r2; exact ⟨_, rfl, r1⟩
end
end L2

namespace L2
open PySem PySem.Spec PyProof.Rows

/-! ### an instance, its attributes a map -/
structure ObjM (h : Heap) (x dx C : Addr) (mA : Str → Option Value) : Prop where
  obj : h.get? x = some (PySem.W.instObj C dx)
  ns : h.Ns1 dx mA
  ne : dx ≠ x

theorem lookIn_ns {h : Heap} {dx : Addr} {mA : Str → Option Value} (n : h.Ns1 dx mA) : ∃ od, h.get? dx = some od ∧ ∀ name, PySem.W.lookIn name od = some (mA name) := by
  obtain ⟨o, es, ep, ho, hd, hk, _, hm⟩ := n
  refine ⟨o, ho, fun name => ?_⟩
  have e := hm name
  unfold nsFind findBy at e
  rw [← Array.find?_toList] at e
  unfold PySem.W.lookIn
  rw [hd]
  dsimp only
  split
  · rename_i y q
    rw [q] at e
    exact congrArg some e
  · rename_i q
    rw [q] at e
    have a : es.toList.any (·.refKey) = false := by
      rw [List.any_eq_false]
      intro y hy
      obtain ⟨z, t, hkey⟩ := hk y (Array.mem_toList_iff.mp hy)
      simp [DictEntry.refKey, hkey]
    have a' : ¬ es.toList.any (·.refKey) = true := by rw [a]; exact Bool.false_ne_true
    rw [if_neg a']
    exact congrArg some e

theorem ObjM.look {h : Heap} {x dx C : Addr} {mA : Str → Option Value} (I : ObjM h x dx C mA) : ∃ od, PySem.W.InstAt h x (PySem.W.instObj C dx) C (some od) ∧ ∀ name, PySem.W.lookIn name od = some (mA name) :=
  let ⟨od, ho, hl⟩ := lookIn_ns I.ns
  ⟨od, ⟨I.obj, rfl, rfl, ho⟩, hl⟩

section
variable {prog : Program} {w : World} {A : Around} {E : Value → Shared → Prop} {s : Shared} {K : PySem.W.Frag} {x dx C f : Addr} {mA : Str → Option Value} {name : Str} {v : Value}

theorem get_map {expr : Bool} {Q : Value → Shared → Prop} (X : K.In s.heap) (I : ObjM s.heap x dx C mA) (hg : PySem.W.plainGet K C name = true) (hh : PySem.W.hasDictIn K C = true)
    (ha : PySem.W.findIn K (.ref C) name = some none) (hv : mA name = some v) (hv' : PySem.W.handedIn v = true) (h : Q v { s with toks := s.toks + 1 }) :
    wpAny (model prog w) A (getAttr (.ref x) name expr) Q E s := by
  obtain ⟨od, J, hl⟩ := I.look
  exact PySem.W.get_value X J (PySem.W.plainGet_of hg).1 (PySem.W.findObj_own hh ha rfl (by rw [hl, hv])) hv' h

theorem set_map {ns : List Str} {Q : Unit → Shared → Prop} (X : K.In s.heap) (I : ObjM s.heap x dx C mA)
    (hs : PySem.W.findIn K (.ref C) "__setattr__" = some (some (.builtin "object.__setattr__"))) (hp : PySem.W.plainOver K C = true) (ht : PySem.W.takerIn K C name = some none) (hh : PySem.W.hasDictIn K C = true)
    (hw : PySem.Within mA ns) (hsz : ns.length ≤ sizeLine)
    (h : ∀ h', ObjM h' x dx C (fun y => if y = name then some v else mA y) → Heap.SameBut dx s.heap h' → Q () { s with heap := h', toks := s.toks + 2 }) :
    wpAny (model prog w) A (setAttr (.ref x) name v) Q E s := by
  obtain ⟨od, J, hl⟩ := I.look
  refine PySem.W.set_plain X J hs (PySem.W.osa_open (s := { s with toks := s.toks + 1 }) (r := none) X J hp ht fun b => ?_)
  obtain ⟨cd, hc, hd'⟩ := PySem.W.any_some hh
  have hx : s.heap.get? x = some ⟨.ref C, some dx, .plain, #[]⟩ := I.obj
  refine wpAny_bind (wpAny_pure (wpAny_bind (wpAny_bind (wpAny_loadPart hx (wpAny_bind (PySem.W.Looks.here (s := { s with toks := s.toks + 1 }) (PySem.W.looks_clsIn X hc) ?_))))))
  rw [hd']
  refine wpAny_pure (a := some dx) (wpAny_bind (wpAny_pure (wpAny_bind ?_)))
  refine wpAny_nsSet1 (s := { s with toks := s.toks + 1 }) I.ns fun h' hn2 hs2 => ?_
  obtain ⟨oD, esD, epD, hoD, hdD, hcD⟩ := hn2.count (PySem.Within.cons name v hw)
  refine wpAny_bind (wpAny_lookBehind hoD (by rw [hdD]; exact pastItsLine_dict (Nat.le_trans hcD (by rw [List.length_cons]; omega))) ?_)
  exact wpAny_pure (h _ ⟨(hs2.2 _ (Ne.symm I.ne)).trans I.obj, hn2, I.ne⟩ hs2)

/-- C(..): the dict at the heap's end, the instance behind it; then its __init__ -/
theorem make_map {R : Result → Shared → Prop} {vs : List Value} {kw : List (Str × Value)} (X : K.In s.heap) (hm : PySem.W.makesIn K C = true)
    (hi : PySem.W.findIn K (.ref C) "__init__" = some (some (.ref f))) (hf : PySem.W.typeIn K (.ref f) = some (.type "function"))
    (h : codeAny (model prog w) (A.under (.builtin "type.__call__" ⟨.ref C :: vs, kw⟩)) (.call (.ref f) ⟨.ref (s.heap.objs.size + 1) :: vs, kw⟩) (PySem.W.InitBack (s.heap.objs.size + 1) R)
      { s with heap := (s.heap.push PySem.W.emptyDict).push (PySem.W.instObj C s.heap.objs.size) }) :
    codeAny (model prog w) A (.call (.ref C) ⟨vs, kw⟩) R s := by
  obtain ⟨hh, g, d, t, os⟩ := s
  exact PySem.W.make_core (PySem.W.makes_of X hm) (PySem.W.looks_findIn X hi) (fun self => PySem.W.bind_fn X self hf) (.inl rfl) h
end

/-! ### the attributes as a list of pairs -/
def putF (f : Str) (v : V) : List (Str × V) → List (Str × V)
  | [] => [(f, v)]
  | (g, x) :: r => if g = f then (g, v) :: r else (g, x) :: putF f v r
theorem lookup_putF (f g : Str) (v : V) : ∀ fs : List (Str × V), (putF f v fs).lookup g = if g = f then some v else fs.lookup g
  | [] => by
    show List.lookup g [(f, v)] = _
    by_cases h : g = f
    · have hb : (g == f) = true := beq_iff_eq.mpr h
      simp only [List.lookup, hb, if_pos h]
    · have hb : (g == f) = false := beq_eq_false_iff_ne.mpr h
      simp only [List.lookup, hb, if_neg h]
  | (k, x) :: r => by
    have ih := lookup_putF f g v r
    rw [show putF f v ((k, x) :: r) = (if k = f then (k, v) :: r else (k, x) :: putF f v r) from rfl]
    by_cases hk : k = f
    · rw [if_pos hk]
      by_cases h : g = k
      · have hb : (g == k) = true := beq_iff_eq.mpr h
        simp only [List.lookup, hb, if_pos (h.trans hk)]
      · have hb : (g == k) = false := beq_eq_false_iff_ne.mpr h
        simp only [List.lookup, hb, if_neg (fun e : g = f => h (e.trans hk.symm))]
    · rw [if_neg hk]
      by_cases h : g = k
      · have hb : (g == k) = true := beq_iff_eq.mpr h
        simp only [List.lookup, hb, if_neg (fun e : g = f => hk (h.symm.trans e))]
      · have hb : (g == k) = false := beq_eq_false_iff_ne.mpr h
        simp only [List.lookup, hb]
        exact ih
theorem keys_putF (f : Str) (v : V) : ∀ fs : List (Str × V), f ∈ (putF f v fs).map (·.1) ∧ ∀ g, g ∈ fs.map (·.1) → g ∈ (putF f v fs).map (·.1)
  | [] => ⟨by simp [putF], fun g h => by simp at h⟩
  | (k, x) :: r => by
    obtain ⟨i1, i2⟩ := keys_putF f v r
    rw [show putF f v ((k, x) :: r) = (if k = f then (k, v) :: r else (k, x) :: putF f v r) from rfl]
    by_cases hk : k = f
    · rw [if_pos hk]
      subst hk
      exact ⟨by simp, fun g h => by simpa using h⟩
    · rw [if_neg hk]
      refine ⟨?_, fun g h => ?_⟩
      · rw [List.map_cons]
        exact List.mem_cons_of_mem _ i1
      · rw [List.map_cons] at h ⊢
        rcases List.mem_cons.mp h with e | e
        · exact List.mem_cons.mpr (.inl e)
        · exact List.mem_cons_of_mem _ (i2 g e)
theorem length_putF (f : Str) (v : V) : ∀ fs : List (Str × V), (putF f v fs).length ≤ fs.length + 1
  | [] => by simp [putF]
  | (k, x) :: r => by
    have ih := length_putF f v r
    rw [show putF f v ((k, x) :: r) = (if k = f then (k, v) :: r else (k, x) :: putF f v r) from rfl]
    by_cases hk : k = f
    · rw [if_pos hk, List.length_cons, List.length_cons]; omega
    · rw [if_neg hk, List.length_cons, List.length_cons]; omega

theorem RelO.some_of {v : V} {o : Option Value} (r : RelO (some v) o) : ∃ u, o = some u ∧ RelV v u := by
  cases o with
  | none => exact (show False from r).elim
  | some u => exact ⟨u, rfl, r⟩
theorem handed_of {v : V} {u : Value} (r : RelV v u) : PySem.W.handedIn u = true := by
  cases v with
  | non => cases (show u = Value.none from r); rfl
  | bl b => cases (show u = Value.bool b from r); rfl
  | int i => obtain ⟨t, e⟩ := (show ∃ t, u = Value.int i t from r); cases e; rfl
  | str x => obtain ⟨t, e⟩ := (show ∃ t, u = Value.str x t from r); cases e; rfl
  | byt b => obtain ⟨t, e⟩ := (show ∃ t, u = Value.bytes b t from r); cases e; rfl
  | flt b => obtain ⟨t, e⟩ := (show ∃ t, u = Value.float b t from r); cases e; rfl
  | ref a => cases (show u = Value.ref a from r); rfl
  | ty n => cases (show u = Value.type n from r); rfl

section
variable {P : Program} {w : World} {H H' : Hp} {h h' : Heap} {a C dx : Addr} {fs fs' : List (Str × V)}
theorem ins_get (hok : HOk P w H h) (e : H a = some (.ins C dx fs)) : ∃ mA, ObjM h a dx C mA ∧ (∀ f, RelO (fs.lookup f) (mA f)) ∧ PySem.Within mA (fs.map (·.1)) ∧ fs.length ≤ 1000 ∧ H dx = some (.own a) := by
  obtain ⟨d, z, ne, ob, mA, n, r, q⟩ := (show ObjOk P w H h a (.ins C dx fs) from hok a _ e)
  exact ⟨mA, ⟨ob, n, ne⟩, r, q, z, d⟩
end

/-! ### what of the text a class must have -/
structure Cls (K : PySem.W.Frag) (C : Addr) : Prop where
  pg : PySem.W.plainGet K C Str.empty = true
  hd : PySem.W.hasDictIn K C = true
  po : PySem.W.plainOver K C = true
  sa : PySem.W.findIn K (.ref C) "__setattr__" = some (some (.builtin "object.__setattr__"))
theorem Cls.get {K : PySem.W.Frag} {C : Addr} (c : Cls K C) (f : Str) : PySem.W.plainGet K C f = true := c.pg
/-- no class of it has the name -/
def NoAttr (K : PySem.W.Frag) (C : Addr) (f : Str) : Prop := PySem.W.findIn K (.ref C) f = some none
theorem NoAttr.taker {K : PySem.W.Frag} {C : Addr} {f : Str} (n : NoAttr K C f) : PySem.W.takerIn K C f = some none := by
  unfold PySem.W.takerIn
  rw [show PySem.W.findIn K (.ref C) f = some none from n]
  rfl
/-- a constant of the class -/
structure Con (K : PySem.W.Frag) (C : Addr) (f : Str) (v : V) (u : Value) : Prop where
  at_ : PySem.W.findIn K (.ref C) f = some (some u)
  rel : RelV v u
  get : PySem.W.specialIn K u "__get__" = some none
  cp : PySem.W.copiedNames.contains f = false
/-- a method: a plain def of the class or of one above it -/
structure Meth (K : PySem.W.Frag) (C : Addr) (m : Str) (f : Addr) : Prop where
  at_ : PySem.W.findIn K (.ref C) m = some (some (.ref f))
  fn : PySem.W.isFn K (.ref f) = true
  kp : PySem.W.keepIn K (.ref f) = true

section
variable {X : Cx} {pins : List (Addr × Obj)} {σ : St} {H : Hp} {s : Shared} {a C dx : Addr} {fs : List (Str × V)} {f : Str} {v : V} {A : Around} {E : Value → Shared → Prop}

theorem getattr_ok {b : Bool} {Q : Value → Shared → Prop} (I : Inv X pins σ H s) (e : H a = some (.ins C dx fs)) (c : Cls X.K C) (n : NoAttr X.K C f) (l : fs.lookup f = some v)
    (h : ∀ u s', Inv X pins σ H s' → RelV v u → Q u s') : wpAny (model X.prog X.w) A (getAttr (.ref a) f b) Q E s := by
  obtain ⟨mA, O, r, _, _, _⟩ := ins_get I.hok e
  obtain ⟨u, hu, ru⟩ := RelO.some_of (v := v) (o := mA f) (by rw [← l]; exact r f)
  exact get_map I.kIn O (c.get f) c.hd n hu (handed_of ru) (h u _ (I.tok _) ru)

theorem setattr_ok {y : V} {u : Value} {Q : Unit → Shared → Prop} (I : Inv X pins σ H s) (e : H a = some (.ins C dx fs)) (c : Cls X.K C) (n : NoAttr X.K C f) (hl : fs.length < 1000) (ry : RelV y u)
    (h : ∀ s', Inv X pins σ (upd H a (.ins C dx (putF f y fs))) s' → Q () s') : wpAny (model X.prog X.w) A (setAttr (.ref a) f u) Q E s := by
  obtain ⟨mA, O, r, wi, _, ho⟩ := ins_get I.hok e
  have hz : (fs.map (·.1)).length ≤ sizeLine := by rw [List.length_map, sizeLine_eq]; omega
  refine set_map I.kIn O c.sa c.po n.taker c.hd wi hz fun h' O' sb => h _ ?_
  have hd : ∃ o, h'.get? dx = some o := let ⟨o, _, _, e', _⟩ := O'.ns; ⟨o, e'⟩
  refine I.write (x := a) (e := dx) (by rw [e]; exact True.intro) (.inr ho) (fun b q hb z => (sb.2 b hb).trans z) hd ?_
  refine ⟨by rw [upd_ne O.ne]; exact ho, ?_, O.ne, O'.obj, _, O'.ns, fun g => ?_, fun g hg => ?_⟩
  · have := length_putF f y fs; omega
  · show RelO ((putF f y fs).lookup g) (if g = f then some u else mA g)
    rw [lookup_putF]
    by_cases q : g = f
    · rw [if_pos q, if_pos q]; exact ry
    · rw [if_neg q, if_neg q]; exact r g
  · by_cases q : g = f
    · rw [q]; exact (keys_putF f y fs).1
    · refine (keys_putF f y fs).2 g (wi g fun z => hg ?_)
      show (if g = f then some u else mA g) = none
      rw [if_neg q]; exact z

/-- a new instance, tracked, without attributes -/
theorem Inv.made (I : Inv X pins σ H s) : Inv X pins σ (upd (upd H s.heap.objs.size (.own (s.heap.objs.size + 1))) (s.heap.objs.size + 1) (.ins C s.heap.objs.size []))
    { s with heap := (s.heap.push PySem.W.emptyDict).push (PySem.W.instObj C s.heap.objs.size) } := by
  have e1 : (s.heap.push PySem.W.emptyDict).get? s.heap.objs.size = some PySem.W.emptyDict := Heap.get?_push_size s.heap rfl
  have e2 : ((s.heap.push PySem.W.emptyDict).push (PySem.W.instObj C s.heap.objs.size)).get? (s.heap.objs.size + 1) = some (PySem.W.instObj C s.heap.objs.size) := by
    have := Heap.get?_push_size (s.heap.push PySem.W.emptyDict) (o := PySem.W.instObj C s.heap.objs.size) rfl
    rwa [Heap.size_push] at this
  have e3 : (s.heap.push PySem.W.emptyDict).Ns s.heap.objs.size (fun _ => none) := ⟨PySem.W.emptyDict, #[], _, e1, rfl, (fun e he => absurd he (by simp)), fun _ => rfl⟩
  have I1 := I.laid (a := s.heap.objs.size) (o := .own (s.heap.objs.size + 1)) (h' := s.heap.push PySem.W.emptyDict) (t' := s.toks) (fun b u q => Heap.get?_push_of_some _ q) (Nat.le_refl _) ⟨_, e1⟩
  refine I1.laid (a := s.heap.objs.size + 1) (o := .ins C s.heap.objs.size []) (t' := s.toks) (fun b u q => Heap.get?_push_of_some _ q) (Nat.le_of_eq (Heap.size_push _ _)) ?_
  have ne : s.heap.objs.size ≠ s.heap.objs.size + 1 := Nat.ne_of_lt (Nat.lt_succ_self _)
  refine ⟨by rw [upd_ne ne, upd_same], Nat.zero_le _, ne, e2, fun _ => none, (Heap.Ns1.of_empty e3).at fun o q => Heap.get?_push_of_some _ q, fun _ => True.intro, fun y hy => absurd rfl hy⟩

/-- e.f where nothing but the object is asked: through attributeBase (super) and the last hold -/
theorem attr_of {prog : Program} {w : World} {env : Env} {e : Expr} {f : Str} {pos : Pos} {s : Shared} {Q : Value → Shared → Prop} (hb : attributeBase e f env (eval e env) = eval e env)
    (h : wpAny (model prog w) A (eval e env) (fun o s₁ => wpAny (model prog w) A (getAttr o f true) Q E s₁) E s) : wpAny (model prog w) A (eval (.Attribute e f pos) env) Q E s :=
  Attribute_any_ h (by rw [arm_eval_Attribute, hb])
end

/-! ### readings and rules -/
/-- e.f, an attribute of the instance -/
def tFld (K : PySem.W.Frag) (ta : TE) (f : Str) : TE := fun σ H Q => ta σ H fun x H1 => ∃ a C dx fs v, x = .ref a ∧ H1 a = some (.ins C dx fs) ∧ Cls K C ∧ NoAttr K C f ∧ fs.lookup f = some v ∧ Q v H1
/-- e.f = value -/
def sFld (K : PySem.W.Frag) (ta tv : TE) (f : Str) : TS := fun D σ H => tv σ H fun y H1 => ta σ H1 fun x H2 => ∃ a C dx fs, x = .ref a ∧ H2 a = some (.ins C dx fs) ∧ Cls K C ∧ NoAttr K C f ∧ fs.length < 1000 ∧
  D.nx σ (upd H2 a (.ins C dx (putF f y fs)))
section
variable {X : Cx} {o e value : Expr} {f : Str} {pos pos' tpos : Pos} {ta tv : TE}
theorem pe_fld (he : PE X e ta) (hb : attributeBase e f X.env (eval e X.env) = eval e X.env) : PE X (.Attribute e f pos) (tFld X.K ta f) := by
  intro pins s σ H Q I h
  refine attr_of hb (thn (he pins s σ H _ I h) fun u s1 ⟨x, H1, I1, rx, a, C, dx, fs, v, ex, ea, c, n, l, q⟩ => ?_)
  subst ex
  obtain rfl : u = Value.ref a := rx
  exact getattr_ok I1 ea c n l fun u' s2 I2 ru => ⟨v, H1, I2, ru, q⟩
theorem ps_fld (ha : PE X o ta) (hv : PE X value tv) (hs : swapsWith value (some (.Attribute o f pos')) pos.line X.env = pure false) : PS X (.Assign [.Attribute o f pos'] value pos) (sFld X.K ta tv f) := by
  intro pins s σ H D I h
  refine plainObj_wpAny_Assign_Attribute (thn (hv pins s σ H _ I h) fun u s1 ⟨y, H1, I1, ry, q⟩ => thn (ha pins s1 σ H1 _ I1 q) fun ov s2 ⟨x, H2, I2, rx, a, C, dx, fs, ex, ea, c, n, l, q2⟩ => ?_) hs
  subst ex
  obtain rfl : ov = Value.ref a := rx
  exact setattr_ok I2 ea c n l ry fun s3 I3 => ⟨σ, _, I3, q2⟩
end

/-! ### isinstance -/
section
variable {X : Cx} {pins : List (Addr × Obj)} {σ : St} {H : Hp} {s : Shared} {A : Around} {E : Value → Shared → Prop} {Q : Value → Shared → Prop} {c : Value} {b : Bool}
/-- the type of a value, as the fragment's deciders take it; for an instance its class -/
inductive TyOf (K : PySem.W.Frag) (H : Hp) : V → Value → Prop where
  | non : TyOf K H .non (.type "NoneType")
  | bl (x : Bool) : TyOf K H (.bl x) (.type "bool")
  | int (i : Int) : TyOf K H (.int i) (.type "int")
  | str (x : Str) : TyOf K H (.str x) (.type "str")
  | flt (x : UInt64) : TyOf K H (.flt x) (.type "float")
  | lst {a : Addr} {xs : List V} (e : H a = some (.lst xs)) : TyOf K H (.ref a) (.type "list")
  | frz {a : Addr} {o : Obj} {xs : List V} (e : H a = some (.frz o (.lst xs))) : TyOf K H (.ref a) (.type "list")
  | tup {a : Addr} {xs : List V} (e : H a = some (.tup xs)) : TyOf K H (.ref a) (.type "tuple")
  | dK {a : Addr} {kvs : List (Key × V)} (e : H a = some (.dK kvs)) : TyOf K H (.ref a) (.type "dict")
  | dT {a : Addr} {kvs : List (List Key × V)} (e : H a = some (.dT kvs)) : TyOf K H (.ref a) (.type "dict")
  | ins {a C dx : Addr} {fs : List (Str × V)} (e : H a = some (.ins C dx fs)) (cl : Cls K C) (ha : PySem.W.findIn K (.ref C) "__class__" = some (some (.builtin "object.__class__")))
      (hn : PySem.W.specialIn K (.builtin "object.__class__") "__get__" = some (some (.builtin "getset_descriptor.__get__"))) (htk : PySem.W.takesIn K (.builtin "object.__class__") = some true)
      (hm : PySem.W.mroIn K C (.type "object") = some true) : TyOf K H (.ref a) (.ref C)
end
end L2

namespace L2
open PySem PySem.Spec PyProof.Rows

/-! ### room -/
structure Room (k : Nat) (A : Around) : Prop where
  hd : A.handled = none
  dp : A.depth + 3 * k + 5 < recursionLimit
  un : A.units + 16 * k + 200 < cLine
theorem Room.mono {j k : Nat} {A : Around} (r : Room k A) (h : j ≤ k) : Room j A := ⟨r.hd, by have := r.dp; omega, by have := r.un; omega⟩
theorem Room.deeper {k : Nat} {A : Around} (r : Room (k + 1) A) (env : Env) : Room k (A.deeper env) :=
  ⟨r.hd, by have := r.dp; show A.depth + 1 + 3 * k + 5 < _; omega, by have := r.un; show A.units + 3 + 16 * k + 200 < _; omega⟩
theorem make_depth {A : Around} {C : Addr} {us : List Value} {kw : List (Str × Value)} : (A.under (.builtin "type.__call__" ⟨.ref C :: us, kw⟩)).depth = A.depth + 1 := by
  first | rfl | simp [Around.under, Code.weight, Code.isCreation, Code.isGuard, Code.isCaller, Code.frames, Code.isFrame, guardIds]
theorem make_units {A : Around} {C : Addr} {us : List Value} {kw : List (Str × Value)} : (A.under (.builtin "type.__call__" ⟨.ref C :: us, kw⟩)).units = A.units + 1 := by
  first | rfl | simp [Around.under, Code.cUnits, Code.frames, Code.isFrame]
theorem Room.make {k : Nat} {A : Around} (r : Room (k + 1) A) (C : Addr) (us : List Value) (kw : List (Str × Value)) : Room k (A.under (.builtin "type.__call__" ⟨.ref C :: us, kw⟩)) :=
  ⟨r.hd, by have := r.dp; rw [make_depth]; omega, by have := r.un; rw [make_units]; omega⟩
theorem Room.depth {k : Nat} {A : Around} (r : Room k A) : A.depth < recursionLimit := by have := r.dp; omega
theorem Room.units {k : Nat} {A : Around} (r : Room k A) : A.units + 64 < cLine := by have := r.un; omega
/-! ### argument lists and displays -/
def tNil : TA := fun _ H Q => Q [] H
def tCons (ta : TE) (tr : TA) : TA := fun σ H Q => ta σ H fun x H1 => tr σ H1 fun xs H2 => Q (x :: xs) H2
section
variable {X : Cx} {e : Expr} {es : List Expr} {te : TE} {t : TA} {pos : Pos}
theorem pa_nil : PA X [] tNil := fun _ _ _ _ H Q I h => Calls.spliced_nil ⟨[], H, I, .nil, h⟩
theorem pa_cons (ha : PE X e te) (hr : PA X es t) (hs : starEach (e :: es) X.env = (false, eval e X.env) :: starEach es X.env := by rfl) : PA X (e :: es) (tCons te t) := by
  intro pos pins s σ H Q I h
  rw [hs]
  show wpAny _ _ (spliced ((false, eval e X.env) :: backTo pos (starEach es X.env))) _ _ s
  refine Calls.spliced_cons (thn (ha pins s σ H _ I h) fun u s1 ⟨x, H1, I1, r1, q1⟩ => ?_)
  exact thn (hr pos pins s1 σ H1 _ I1 q1) fun us s2 ⟨xs, H2, I2, r2, q2⟩ => ⟨x :: xs, H2, I2, .cons r1 r2, q2⟩

def tLst (t : TA) : TE := fun σ H Q => t σ H fun xs H1 => xs.length ≤ sizeLine ∧ ∀ p, H1 p = none → Q (.ref p) (upd H1 p (.lst xs))
theorem pe_lst (h : PA X es t) : PE X (.List es pos) (tLst t) := by
  intro pins s σ H Q I hq
  refine wpAny_List_spliced (thn (h pos pins s σ H _ I hq) fun us s1 ⟨xs, H1, I1, r, z, q⟩ => ⟨by rw [← r.length]; exact z, ?_⟩)
  have hf : H1 s1.heap.objs.size = none := I1.hok.fresh (Nat.le_refl _)
  refine ⟨.ref s1.heap.objs.size, upd H1 s1.heap.objs.size (.lst xs), I1.laid (t' := s1.toks) (fun b u e => Heap.get?_push_of_some _ e) (Nat.le_refl _) ?_, rfl, q _ hf⟩
  exact ⟨z, us, 0, r, Heap.get?_push_size _ rfl⟩
end

/-! ### what a def promises -/
/-- a def's promise: the bound arguments in the parameters' order, the heap, the wanted end, the wanted exception -/
abbrev Sp := List V → Hp → VK → XK → Prop
/-- how an exception lies behind a call (file 08 gives it): the callers' frames, abstract heap and state ahead of the call, the wish, the exception, the state -/
abbrev CXT := List Env → Hp → Shared → XK → Value → Shared → Prop

/-- the state at a call -/
structure Env0 (P : Program) (w : World) (K : PySem.W.Frag) (mg : Str → Option Value) (base : Heap) (A : Around) (outer : List Env) (s : Shared) (H : Hp) : Prop where
  frames : A.frames = some outer
  mod : Mod K mg base
  bs : ∀ b o, base.get? b = some o → s.heap.get? b = some o ∧ H b = none
  bsz : base.objs.size ≤ s.heap.objs.size
  funs : s.heap.FunFrames base outer
  frf : ∀ b ∈ frs outer, H b = none
  hok : HOk P w H s.heap
  bare : AllBare s.gens
/-- a call's end -/
def CE (outer : List Env) (P : Program) (w : World) (H : Hp) (s : Shared) (Q : VK) (u : Value) (s' : Shared) : Prop :=
  ∃ v H', s'.os = s.os ∧ AllBare s'.gens ∧ Un (frs outer) [] H H' s.heap s'.heap ∧ HOk P w H' s'.heap ∧ RelV v u ∧ Q v H'
def CR (CX : CXT) (outer : List Env) (P : Program) (w : World) (H : Hp) (s : Shared) (Q : VK) (E : XK) (r : Result) (s' : Shared) : Prop :=
  match r with
  | .ok (.ret u) => CE outer P w H s Q u s'
  | .ok _ => False
  | .error e => CX outer H s E e s'
structure FnOk (P : Program) (w : World) (K : PySem.W.Frag) (mg : Str → Option Value) (base : Heap) (CX : CXT) (k : Nat) (f : Addr) (fd : FuncData) (ps : List Str) (sp : Sp) : Prop where
  len : ∀ vs H Q E, sp vs H Q E → vs.length = ps.length
  run : ∀ (A : Around) (outer : List Env) (s : Shared) (H : Hp) (args : Args) (us : List Value) (vs : List V) (Q : VK) (E : XK), Room k A → Env0 P w K mg base A outer s H → BindsTo s fd args (ps.zip us) → Vals vs us → sp vs H Q E →
    codeAny (model P w) A (.call (.ref f) args) (CR CX outer P w H s Q E) s
theorem Env0.make {P : Program} {w : World} {K : PySem.W.Frag} {mg : Str → Option Value} {base : Heap} {A : Around} {outer : List Env} {s : Shared} {H : Hp} (e : Env0 P w K mg base A outer s H) (C : Addr) (us : List Value) (kw : List (Str × Value)) :
    Env0 P w K mg base (A.under (.builtin "type.__call__" ⟨.ref C :: us, kw⟩)) outer s H := ⟨by first | exact e.frames | (simpa [Around.under, Code.envs, Code.isFrame, pushEnvs] using e.frames), e.mod, e.bs, e.bsz, e.funs, e.frf, e.hok, e.bare⟩
section
variable {X : Cx} {pins : List (Addr × Obj)} {σ : St} {H : Hp} {s s' : Shared}
/-- from a body: what a callee wants -/
theorem Inv.env0 (I : Inv X pins σ H s) : Env0 X.prog X.w X.K X.mg X.base X.A X.stack s H :=
  ⟨I.ok.frames, I.ok.mod, I.bs, Nat.le_trans I.ok.bsz I.sz, I.stack, I.stkFree, I.hok, I.bare⟩
/-- behind a call -/
theorem Inv.after {Q : VK} {u : Value} (I : Inv X pins σ H s) (h : CE X.stack X.prog X.w H s Q u s') : EP X pins σ Q u s' := by
  obtain ⟨v, H', os, bare, un, hok, r, q⟩ := h
  obtain ⟨hh, g, d, t, os'⟩ := s'
  obtain rfl : os' = s.os := os
  exact ⟨v, H', I.call (h' := hh) (g' := g) (d' := d) (t' := t) (ch := []) un hok bare (fun b z => absurd z (by simp)), r, q⟩
end

/-! ### calls -/
/-- f(..): the written arguments, then the defaults dvs; E: what is wanted of an exception -/
def tCall (sp : Sp) (dvs : List V) (E : XK) (t : TA) : TE := fun σ H Q => t σ H fun vs H1 => sp (vs ++ dvs) H1 Q E
/-- C(..): a new instance and its dict, then __init__ -/
def tMake (C : Addr) (sp : Sp) (dvs : List V) (E : XK) (t : TA) : TE := fun σ H Q => t σ H fun vs H1 => ∀ x dx, H1 x = none → H1 dx = none → dx ≠ x →
  sp (.ref x :: (vs ++ dvs)) (upd (upd H1 dx (.own x)) x (.ins C dx [])) (fun v H2 => v = .non ∧ Q (.ref x) H2) E

/-- how the parameters are bound: us the positional arguments, kw the keywords' values by name, ds the defaults that fill up -/
def Binds (K : PySem.W.Frag) (fd : FuncData) (ps : List Str) (ds : List Value) : Prop :=
  ∀ (s : Shared) (us : List Value), K.In s.heap → (us ++ ds).length = ps.length → BindsTo s fd ⟨us, []⟩ (ps.zip (us ++ ds))
/-- every parameter is given -/
theorem Binds.all {K : PySem.W.Frag} {fd : FuncData} {ps : List Str} (h : ∀ us : List Value, us.length = ps.length → bindArgs fd ⟨us, []⟩ = pure (ps.zip us)) : Binds K fd ps [] := fun s us _ hl => by
  rw [List.append_nil] at hl ⊢
  exact .of_eq (h us hl)

/-- an exception of a callee reaches what this body wants of exceptions -/
def Passes (CX : CXT) (X : Cx) (E : XK) : Prop := ∀ (pins : List (Addr × Obj)) (σ : St) (H : Hp) (s : Shared) (e : Value) (s' : Shared), Inv X pins σ H s → CX X.stack H s E e s' → X.xe e s'

section
variable {X : Cx} {CX : CXT} {k : Nat} {f C : Addr} {fd : FuncData} {ps : List Str} {sp : Sp} {dvs : List V} {ds : List Value} {E : XK} {x m : Str} {p pos apos : Pos} {e o : Expr} {es : List Expr} {ta : TE} {t : TA}

/-- the callee runs -/
theorem run_fn {pins : List (Addr × Obj)} {σ : St} {H : Hp} {s : Shared} {Q : VK} {us : List Value} {vs : List V} (F : FnOk X.prog X.w X.K X.mg X.base CX k f fd ps sp) (hr : Room k X.A) (hb : Binds X.K fd ps ds) (hd : Vals dvs ds) (hx : Passes CX X E)
    (I : Inv X pins σ H s) (r : Vals vs us) (h : sp (vs ++ dvs) H Q E) : wpAny (model X.prog X.w) X.A (call (.ref f) us) (EP X pins σ Q) X.xe s := by
  have r2 : Vals (vs ++ dvs) (us ++ ds) := r.append hd
  have hl : (us ++ ds).length = ps.length := by rw [← r2.length]; exact F.len _ _ _ _ h
  refine wpAny_call (codeAny_mono (F.run X.A X.stack s H ⟨us, []⟩ (us ++ ds) (vs ++ dvs) Q E hr I.env0 (hb s us I.kIn hl) r2 h) fun r s' hq => ?_)
  cases r with
  | error e => exact hx pins σ H s e s' I hq
  | ok fl =>
    cases fl with
    | ret u => exact I.after hq
    | next => exact False.elim hq
    | brk => exact False.elim hq
    | cont => exact False.elim hq

theorem pe_call (F : FnOk X.prog X.w X.K X.mg X.base CX k f fd ps sp) (hr : Room k X.A) (hg : Gl X x) (hm : X.mg x = some (.ref f)) (hk : PySem.W.keepIn X.K (.ref f) = true) (hb : Binds X.K fd ps ds) (hd : Vals dvs ds) (hx : Passes CX X E)
    (ha : PA X (e :: es) t) (hdb : (x == ("__debug__" : Str)) = false := by decide) (he : starEach (e :: es) X.env = (false, eval e X.env) :: starEach es X.env := by rfl) (hpl : (backTo pos (starEach es X.env)).any (·.1) = false := by rfl) :
    PE X (.Call (.Name x p) (e :: es) [] pos) (tCall sp dvs E t) := by
  intro pins s σ H Q I h
  refine wpAny_Call_Name_kw (ld_glob I hg hm ?_ hdb)
  refine PySem.W.callWith_K (h₀ := X.base) I.ok.mod.kin hk (thn (ha pos pins s σ H _ I h) fun us s1 ⟨vs, H1, I1, r, q⟩ => ⟨I1.kIn, ?_⟩) he hpl
  exact run_fn F hr hb hd hx I1 r q
/-- what a class must have to be made -/
structure Mk (K : PySem.W.Frag) (C f : Addr) : Prop where
  makes : PySem.W.makesIn K C = true
  init : PySem.W.findIn K (.ref C) "__init__" = some (some (.ref f))
  fn : PySem.W.isFn K (.ref f) = true
  kp : PySem.W.keepIn K (.ref C) = true

theorem run_make {pins : List (Addr × Obj)} {σ : St} {H : Hp} {s : Shared} {Q : VK} {us : List Value} {vs : List V} (M : Mk X.K C f) (F : FnOk X.prog X.w X.K X.mg X.base CX k f fd ps sp) (hr : Room (k + 1) X.A) (hb : Binds X.K fd ps ds) (hd : Vals dvs ds)
    (hx : Passes CX X E) (I : Inv X pins σ H s) (r : Vals vs us)
    (h : ∀ x dx, H x = none → H dx = none → dx ≠ x → sp (.ref x :: (vs ++ dvs)) (upd (upd H dx (.own x)) x (.ins C dx [])) (fun v H2 => v = .non ∧ Q (.ref x) H2) E) :
    wpAny (model X.prog X.w) X.A (call (.ref C) us) (EP X pins σ Q) X.xe s := by
  have hq := h (s.heap.objs.size + 1) s.heap.objs.size (I.hok.fresh (Nat.le_succ _)) (I.hok.fresh (Nat.le_refl _)) (Nat.ne_of_lt (Nat.lt_succ_self _))
  have I2 := Inv.made (C := C) I
  have r2 : Vals (V.ref (s.heap.objs.size + 1) :: (vs ++ dvs)) (Value.ref (s.heap.objs.size + 1) :: (us ++ ds)) := .cons rfl (r.append hd)
  have hl : (Value.ref (s.heap.objs.size + 1) :: us ++ ds).length = ps.length := by
    have e := r2.length
    rw [F.len _ _ _ _ hq] at e
    exact e.symm
  refine wpAny_call (make_map (f := f) I.kIn M.makes M.init (beq_iff_eq.mp M.fn) (codeAny_mono (F.run _ X.stack _ _ ⟨Value.ref (s.heap.objs.size + 1) :: us, []⟩ (Value.ref (s.heap.objs.size + 1) :: (us ++ ds)) _ _ E (hr.make C us [])
    (I2.env0.make C us []) (hb _ (Value.ref (s.heap.objs.size + 1) :: us) I2.kIn hl) r2 hq) fun r s' hq' => ?_))
  cases r with
  | error e => exact hx pins σ _ _ e s' I2 hq'
  | ok fl =>
    cases fl with
    | ret u =>
      obtain ⟨v, H', I3, rv, ev, q3⟩ := I2.after hq'
      subst ev
      exact ⟨rv, ⟨V.ref (s.heap.objs.size + 1), H', I3, rfl, q3⟩⟩
    | next => exact False.elim hq'
    | brk => exact False.elim hq'
    | cont => exact False.elim hq'
theorem pe_make0 (M : Mk X.K C f) (F : FnOk X.prog X.w X.K X.mg X.base CX k f fd ps sp) (hr : Room (k + 1) X.A) (hg : Gl X x) (hm : X.mg x = some (.ref C)) (hb : Binds X.K fd ps ds) (hd : Vals dvs ds) (hx : Passes CX X E)
    (hdb : (x == ("__debug__" : Str)) = false := by decide) : PE X (.Call (.Name x p) [] [] pos) (tMake C sp dvs E tNil) := by
  intro pins s σ H Q I h
  refine wpAny_Call_Name_kw (ld_glob I hg hm ?_ hdb)
  exact PySem.W.callWith_K0 I.kIn M.kp (run_make (us := []) M F hr hb hd hx I .nil h)
end

/-! ### keywords -/
section
variable {X : Cx} {CX : CXT} {k : Nat} {f C : Addr} {fd : FuncData} {ps ks : List Str} {sp : Sp} {E : XK} {x m : Str} {p pos apos kpos : Pos} {e o : Expr} {es : List Expr} {kws : List Keyword} {te ta : TE} {t tk : TA} {nm : Option Str}
/-- how a call with keywords binds: g puts the positional values us and the keywords' values ws (names ks) in the parameters' order, defaults among them -/
structure KBinds (K : PySem.W.Frag) (fd : FuncData) (ps ks : List Str) (g : List Value → List Value → List Value) (gV : List V → List V → List V) : Prop where
  to : ∀ (s : Shared) (us ws : List Value), K.In s.heap → (g us ws).length = ps.length → BindsTo s fd ⟨us, ks.zip ws⟩ (ps.zip (g us ws))
  rel : ∀ {vs : List V} {us : List Value} {zs : List V} {ws : List Value}, Vals vs us → Vals zs ws → Vals (gV vs zs) (g us ws)
variable {g : List Value → List Value → List Value} {gV : List V → List V → List V}
end

/-! ### a def's body keeps its promise -/
/-- names: the parameters first -/
structure FnScope (N P : List Str) (sc : Scope) : Prop where
  kind : sc.kind = .function
  co : sc.isCoroutine = false
  gen : sc.isGenerator = false
  nd : N.Nodup
  pre : N.take P.length = P
  par : ∀ x ∈ P, sc.names.lookup x = some .local ∨ sc.names.lookup x = some .cell
  nofree : ∀ y ∈ sc.names, y.2 ≠ .free

theorem bindL_out {kindOf : Str → Option NameKind} {x : Str} : ∀ {binds : List (Str × Value)} {m : Str → Option Value}, (∀ v, (x, v) ∉ binds) → bindL kindOf binds m x = m x
  | [], _, _ => rfl
  | (n, v) :: r, m, h => by
    unfold bindL
    rw [bindL_out fun w hw => h w (List.mem_cons_of_mem _ hw)]
    split
    · have : x ≠ n := by rintro rfl; exact h v List.mem_cons_self
      simp [this]
    · rfl
theorem bindC_out {kindOf : Str → Option NameKind} {x : Str} : ∀ {binds : List (Str × Value)} {m : Str → Option Value}, (∀ v, (x, v) ∉ binds) → bindC kindOf binds m x = m x
  | [], _, _ => rfl
  | (n, v) :: r, m, h => by
    unfold bindC
    rw [bindC_out fun w hw => h w (List.mem_cons_of_mem _ hw)]
    split
    · rfl
    · have : x ≠ n := by rintro rfl; exact h v List.mem_cons_self
      simp [this]
theorem bindL_get {kindOf : Str → Option NameKind} {x : Str} {v : Value} : ∀ {P : List Str} {vs : List Value} {i : Nat} {m : Str → Option Value}, P.Nodup → P[i]? = some x → vs[i]? = some v → kindOf x = some .local →
    bindL kindOf (P.zip vs) m x = some v
  | [], _, _, _, _, h, _, _ => by simp at h
  | _ :: _, [], _, _, _, _, h, _ => by simp at h
  | p :: P, w :: vs, 0, m, nd, h1, h2, hk => by
    simp at h1 h2; subst h1; subst h2
    show bindL kindOf ((p, w) :: P.zip vs) m p = _
    unfold bindL
    rw [bindL_out fun v hv => (List.nodup_cons.mp nd).1 (List.of_mem_zip hv).1, if_pos hk]
    simp
  | p :: P, w :: vs, i + 1, m, nd, h1, h2, hk => by
    show bindL kindOf ((p, w) :: P.zip vs) m x = _
    unfold bindL
    exact bindL_get (i := i) (List.nodup_cons.mp nd).2 (by simpa using h1) (by simpa using h2) hk
theorem bindC_get {kindOf : Str → Option NameKind} {x : Str} {v : Value} : ∀ {P : List Str} {vs : List Value} {i : Nat} {m : Str → Option Value}, P.Nodup → P[i]? = some x → vs[i]? = some v → kindOf x ≠ some .local →
    bindC kindOf (P.zip vs) m x = some v
  | [], _, _, _, _, h, _, _ => by simp at h
  | _ :: _, [], _, _, _, _, h, _ => by simp at h
  | p :: P, w :: vs, 0, m, nd, h1, h2, hk => by
    simp at h1 h2; subst h1; subst h2
    show bindC kindOf ((p, w) :: P.zip vs) m p = _
    unfold bindC
    rw [bindC_out fun v hv => (List.nodup_cons.mp nd).1 (List.of_mem_zip hv).1, if_neg hk]
    simp
  | p :: P, w :: vs, i + 1, m, nd, h1, h2, hk => by
    show bindC kindOf ((p, w) :: P.zip vs) m x = _
    unfold bindC
    exact bindC_get (i := i) (List.nodup_cons.mp nd).2 (by simpa using h1) (by simpa using h2) hk

/-- the names' values at the entry -/
def start (N : List Str) (vs : List V) : St := vs.map some ++ List.replicate (N.length - vs.length) none

/-- the context of a def's body, at its entry; an exception leaves the frame, then lies as CX says -/
def cxOf (CX : CXT) (P : Program) (w : World) (K : PySem.W.Frag) (mg : Str → Option Value) (base : Heap) (N : List Str) (qual : Str) (scope : Scope) (f : Addr) (cd : Value) (A : Around) (outer : List Env) (s : Shared) (H : Hp) (E : XK) : Cx where
  prog := P
  w := w
  K := K
  mg := mg
  base := base
  A := A.deeper (envOfC qual scope s.heap.objs.size f cd)
  N := N
  s_0 := s
  H_0 := H
  env := envOfC qual scope s.heap.objs.size f cd
  outer := outer
  stack := envOfC qual scope s.heap.objs.size f cd :: outer
  ex := []
  calm := true
  fn := fun _ => true
  pn := []
  xe := fun e s' => wpAny (model P w) (A.deeper (envOfC qual scope s.heap.objs.size f cd)) (leaving (envOfC qual scope s.heap.objs.size f cd) e) (fun _ s'' => CX outer H s E e s'') (fun e' s'' => CX outer H s E e' s'') s'

theorem cell_has {sc : Scope} {n : Nat} {x : Str} (h : sc.names.lookup x = some .cell) : ∃ c, (cellsFrom n sc.names []).lookup x = some c := by
  have q := PySem.W.cellsFrom_some sc.names n [] (.inl h)
  exact Option.isSome_iff_exists.mp q

theorem inv_start {CX : CXT} {P : Program} {w : World} {K : PySem.W.Frag} {mg : Str → Option Value} {base : Heap} {N ps : List Str} {qual : Str} {scope : Scope} {f : Addr} {cd : Value} {A : Around} {outer : List Env} {s s1 : Shared} {H : Hp} {E : XK} {us : List Value} {vs : List V}
    (S : FnScope N ps scope) (hd : A.handled = none) (e0 : Env0 P w K mg base A outer s H) (hl : vs.length = ps.length) (r : Vals vs us)
    (x : InCallC s s.heap.objs.size (bindL (envOfC qual scope s.heap.objs.size f cd).kindOf (ps.zip us) fun _ => none) (cellsFrom (s.heap.objs.size + 1) scope.names []) (bindC (envOfC qual scope s.heap.objs.size f cd).kindOf (ps.zip us) fun _ => none) s1) :
    Inv (cxOf CX P w K mg base N qual scope f cd A outer s H E) [] (start N vs) H s1 := by
  have hpl : ps.length ≤ N.length := by have := congrArg List.length S.pre; rw [List.length_take] at this; omega
  obtain ⟨h1, tk, rfl, hk⟩ := x.done
  have noA : ∀ b : Addr, b ∉ (cxOf CX P w K mg base N qual scope f cd A outer s H E).ex := fun b z => absurd (show b ∈ ([] : List Addr) from z) (by simp)
  refine ⟨⟨e0.mod, S.kind, rfl, rfl, Nat.le_refl _, fun y z c h1 h2 => ?_, fun y hy => ?_, fun y c _ h => ?_, fun _ => hd, Around.frames_deeper e0.frames, .inr ⟨rfl, rfl⟩, fun b z => absurd z (noA b), e0.bs, e0.bsz, fun b _ _ => noA b, fun b z => absurd z (noA b), e0.funs, e0.frf⟩,
    rfl, e0.bare, Un.kept hk, ⟨_, x.toInCall.ns, fun i y v h1 h2 h3 => ?_⟩, fun y c h => ⟨_, x.cell y c h⟩, e0.hok.fresh (Nat.le_refl _), fun y c h => ?_, fun p hp => absurd (show p ∈ ([] : List (Addr × Obj)) from hp) (by simp), e0.hok.kept hk, ?_⟩
  · exact name_of_addr x.apart (PySem.mem_of_lookup h1) (PySem.mem_of_lookup h2)
  · have hy : scope.names.lookup y = some .cell ∨ scope.names.lookup y = some .free := hy
    rcases hy with hy | hy
    · exact cell_has hy
    · exact absurd rfl (S.nofree _ (PySem.mem_of_lookup hy))
  · exact Nat.le_of_lt (x.above y c (PySem.mem_of_lookup h))
  · have hi : i < vs.length := by
      unfold start at h2
      by_cases hi : i < vs.length
      · exact hi
      · rw [List.getElem?_append_right (by simpa using hi)] at h2
        rw [List.getElem?_replicate] at h2
        split at h2 <;> cases h2
    have ha : vs[i]? = some v := by
      unfold start at h2
      rw [List.getElem?_append_left (by simpa using hi), List.getElem?_map] at h2
      cases e : vs[i]? with
      | none => rw [e] at h2; cases h2
      | some a => rw [e] at h2; cases h2; rfl
    obtain ⟨u, hu, rv⟩ := r.get ha
    have hp : ps[i]? = some y := by
      rw [← S.pre, List.getElem?_take_of_lt (by omega)]; exact h1
    have ndP : ps.Nodup := by rw [← S.pre]; exact S.nd.sublist (List.take_sublist _ _)
    refine ⟨u, rv, ?_⟩
    rcases S.par y (List.mem_of_getElem? hp) with k | k
    · exact .inl ⟨k, bindL_get ndP hp hu k⟩
    · obtain ⟨c, e⟩ := cell_has (n := s.heap.objs.size + 1) k
      refine .inr ⟨.inl k, c, e, ?_⟩
      have q := x.cell y c e
      rw [bindC_get ndP hp hu (by show scope.names.lookup y ≠ _; rw [k]; decide)] at q
      exact q
  · exact e0.hok.fresh (Nat.le_of_lt (x.above y c (PySem.mem_of_lookup h)))
  · unfold start
    show _ = N.length
    rw [List.length_append, List.length_map, List.length_replicate]
    omega

/-- THE RULE: a def (or a method) of the text, by its body. The body's reading t is chosen for each entry; it is run at the parameters' values -/
theorem fn_of {CX : CXT} {P : Program} {w : World} {K : PySem.W.Frag} {mg : Str → Option Value} {base : Heap} {k : Nat} {f : Addr} {name qual : Str} {params : Arguments} {body : List Stmt} {scope : Scope} {dV kV doc pm cdv ct oc : Value} {an od : Option Addr}
    {osl : Array (Option Value)} {N ps : List Str} {sp : Sp} (lk : K.lookup f = some ⟨oc, od, .func (PySem.W.fnOf name qual params body scope dV kV doc pm an cdv ct), osl⟩) (hcd : PySem.W.codeIn K cdv qual = true) (S : FnScope N ps scope)
    (len : ∀ vs H Q E, sp vs H Q E → vs.length = ps.length)
    (hbody : ∀ (A : Around) (outer : List Env) (s : Shared) (H : Hp) (vs : List V) (Q : VK) (E : XK), Room k (A.deeper (envOfC qual scope s.heap.objs.size f cdv)) → sp vs H Q E →
      ∃ t, PSs (cxOf CX P w K mg base N qual scope f cdv A outer s H E) body t ∧ t { nx := fun _ H' => Q .non H', rt := Q } (start N vs) H) :
    FnOk P w K mg base CX (k + 1) f (PySem.W.fnOf name qual params body scope dV kV doc pm an cdv ct) ps sp := by
  refine ⟨len, fun A outer s H args us vs Q E hr e0 hb r hsp => ?_⟩
  have hl := len _ _ _ _ hsp
  have KX : K.In s.heap := e0.mod.kin.keeps fun b o e => (e0.bs b o e).1
  have lim : s.heap.NoLimit := e0.mod.nolimit.keeps fun b o e => (e0.bs b o e).1
  have hkind : ∀ y ∈ ps.zip us, scope.names.lookup y.1 = some .local ∨ (scope.names.lookup y.1 = some .cell ∧ ((cellsFrom (s.heap.objs.size + 1) scope.names []).lookup y.1).isSome = true) := fun ⟨n, v⟩ hy => by
    rcases S.par n (List.of_mem_zip hy).1 with q | q
    · exact .inl q
    · exact .inr ⟨q, PySem.W.cellsFrom_some _ _ _ (.inl q)⟩
  refine codeAny_call_function hr.depth (KX _ _ lk) rfl S.co S.gen rfl (PySem.W.codeRec_of KX hcd) (hb _ _ _ _ ?_)
  refine wpAny_newFunctionEnv_cells S.kind hkind fun env he s1 x => ?_
  subst he
  refine ⟨lim.keeps x.toInCall.keep, codeAny_func ?_⟩
  obtain ⟨t, ht, hq⟩ := hbody A outer s H vs Q E (hr.deeper _) hsp
  have I : Inv (cxOf CX P w K mg base N qual scope f cdv A outer s H E) [] (start N vs) H s1 := inv_start S hr.hd e0 hl r x
  refine wpAny_mono (ht [] s1 (start N vs) H _ I hq) (fun fl s' hs => ?_) fun e s' hs => hs
  have fin : ∀ {σ' : St} {H' : Hp} {v : V} {u : Value}, Inv (cxOf CX P w K mg base N qual scope f cdv A outer s H E) [] σ' H' s' → RelV v u → Q v H' → CE outer P w H s Q u s' :=
    fun {σ' H' v u} J rv q => ⟨v, H', J.os, J.bare, J.base, J.hok, rv, q⟩
  cases fl with
  | ret u =>
    obtain ⟨v, σ', H', J, rv, q⟩ := hs
    exact fin J rv q
  | next =>
    obtain ⟨σ', H', J, q⟩ := hs
    exact fin (v := V.non) (u := Value.none) J rfl q
  | brk =>
    obtain ⟨_, _, _, q⟩ := hs
    exact False.elim q
  | cont =>
    obtain ⟨_, _, _, q⟩ := hs
    exact False.elim q
end L2

namespace L2
open PySem PySem.Spec PyProof.Rows
section
variable {X : Cx} {x : Str} {p pos : Pos} {e : Expr} {es : List Expr} {t : TA} {id T : String} {r : List V → Hp → VK → Prop}

def tCB (r : List V → Hp → VK → Prop) (t : TA) : TE := fun σ H Q => t σ H fun vs H1 => r vs H1 Q
/-- f(e, ..), f a built-in function -/
theorem pe_callB (hc : CallR X (.builtin id) r) (hg : Gl X x) (hm : X.mg x = none) (hv : bootBuiltins x = some (.builtin id)) (ha : PA X (e :: es) t) (hn : x ≠ "__name__" := by decide) (hdb : (x == ("__debug__" : Str)) = false := by decide)
    (he : starEach (e :: es) X.env = (false, eval e X.env) :: starEach es X.env := by rfl) (hpl : (backTo pos (starEach es X.env)).any (·.1) = false := by rfl) : PE X (.Call (.Name x p) (e :: es) [] pos) (tCB r t) := by
  intro pins s σ H Q I h
  refine wpAny_Call_Name_kw (ld_blt I hg hm hv ?_ hn hdb)
  exact PyProof.Rows.callWith_builtin1 (thn (ha pos pins s σ H _ I h) fun us s1 ⟨vs, H1, I1, r1, q1⟩ => hc pins s1 σ H1 vs us Q I1 r1 q1) he hpl
end
end L2

namespace HT
open PySem PyProof.Rows

section
open PySem.SeqAt
open PySem.AutoSeq1 (wpAny_loadPart')
open PySem.MeetsSeq PySem.MeetsSeq2 PySem.MeetsSeq3

end

section
variable {prog : Program} {w : World} {A : Around} {E : Value → Shared → Prop} {s : Shared}

/-! ### t[a:b], not the whole -/
/-- a slice's bound as a place among n (d where it is left out) -/
def sIx (n d : Nat) : Option Int → Nat
  | none => d
  | some v => if v < 0 then (v + (n : Int)).toNat else min v.toNat n
end
end HT

namespace L2
open PySem PySem.Spec PyProof.Rows

/-! ### the parts of a slice -/
abbrev TO := St → Hp → (Option Int → Hp → Prop) → Prop
/-- a slice's part (left out, or an int) -/
def PO (X : Cx) (e : Option Expr) (t : TO) : Prop :=
  ∀ (pins : List (Addr × Obj)) (s : Shared) (σ : St) (H : Hp) (Q : Option Int → Hp → Prop), Inv X pins σ H s → t σ H Q →
    wpAny (model X.prog X.w) X.A (evalPart e X.env) (fun u s' => ∃ o H', Inv X pins σ H' s' ∧ IsPart u o ∧ Q o H') X.xe s
def tNoPart : TO := fun _ H Q => Q none H
def tPart (t : TE) : TO := fun σ H Q => t σ H fun x H1 => ∃ i, x = .int i ∧ Q (some i) H1

section
variable {X : Cx} {e : Expr} {te : TE} {lo hi : Option Expr} {tl th : TO} {pos p2 : Pos}

theorem po_none : PO X none tNoPart := by
  intro pins s σ H Q I h
  rw [evalPart_none]
  exact wpAny_pure ⟨none, H, I, .none, h⟩
theorem po_some (h : PE X e te) : PO X (some e) (tPart te) := by
  intro pins s σ H Q I hw
  rw [evalPart_some]
  refine thn (h pins s σ H _ I hw) fun u s1 ⟨x, H1, I1, r1, q1⟩ => ?_
  obtain ⟨i, rfl, q⟩ := q1
  obtain ⟨t, rfl⟩ := r1
  exact ⟨some i, H1, I1, .int i t, q⟩

/-- what a slice of a value is, by values: the slice object stands at sl -/
def SlR (X : Cx) (r : V → Option Int → Option Int → Hp → VK → Prop) : Prop :=
  ∀ (pins : List (Addr × Obj)) (s : Shared) (σ : St) (H : Hp) (x : V) (v vl vu : Value) (lo hi : Option Int) (sl : Addr) (Q : VK), Inv X pins σ H s → RelV x v → s.heap.IsSliceOf sl vl vu .none → IsPart vl lo → IsPart vu hi → r x lo hi H Q →
    ∃ T id, typeLookup (.type T) "__getitem__" = pure (some (.builtin id)) ∧ s.TypeIs v T ∧ wpAny (model X.prog X.w) X.A (getItem v (.ref sl)) (EP X pins σ Q) X.xe s
def tSl (r : V → Option Int → Option Int → Hp → VK → Prop) (te : TE) (tl th : TO) : TE := fun σ H Q => te σ H fun x H1 => tl σ H1 fun l H2 => th σ H2 fun u H3 => r x l u H3 Q
/-- a[lo:hi], any a -/
theorem pe_slice {r : V → Option Int → Option Int → Hp → VK → Prop} (hr : SlR X r) (he : PE X e te) (hl : PO X lo tl) (hu : PO X hi th) : PE X (.Subscript e (.Slice lo hi none p2) pos) (tSl r te tl th) := by
  intro pins s σ H Q I h
  refine Subscript_ (thn (he pins s σ H _ I h) fun v s1 ⟨x, H1, I1, r1, q1⟩ => ?_)
  refine wpAny_Slice (thn (hl pins s1 σ H1 _ I1 q1) fun vl s2 ⟨l, H2, I2, pl, q2⟩ => thn (hu pins s2 σ H2 _ I2 q2) fun vu s3 ⟨u, H3, I3, pu, q3⟩ => ?_)
  rw [evalPart_none]
  refine wpAny_pure ?_
  have I4 : Inv X pins σ H3 { s3 with heap := s3.heap.push { cls := .type "slice", data := .fields #[vl, vu, .none] } } := I3.kept (t' := s3.toks) fun b ob q => Heap.get?_push_of_some _ q
  obtain ⟨T, id, hT, ht, hg⟩ := hr pins { s3 with heap := s3.heap.push { cls := .type "slice", data := .fields #[vl, vu, .none] } } σ H3 x v vl vu l u s3.heap.objs.size Q I4 r1 (Heap.IsSliceOf.new ..) pl pu q3
  show wpAny (model X.prog X.w) X.A (subscriptTail e (.Slice lo hi none p2) v (.ref s3.heap.objs.size)) (EP X pins σ Q) X.xe { s3 with heap := s3.heap.push { cls := .type "slice", data := .fields #[vl, vu, .none] } }
  exact tail_any (ops := [.ref s3.heap.objs.size, v]) ht hT hg (by with_unfolding_all rfl)

/-- the items of xs[lo:hi] -/
def cutV (xs : List V) (lo hi : Option Int) : List V := (xs.drop (HT.sIx xs.length 0 lo)).take (HT.sIx xs.length xs.length hi - HT.sIx xs.length 0 lo)
theorem cutV_length (xs : List V) (lo hi : Option Int) : (cutV xs lo hi).length ≤ xs.length := by
  unfold cutV
  rw [List.length_take, List.length_drop]
  omega
/-! ### t < u, t + u -/
end
end L2

namespace L2
open PySem PySem.Spec PyProof.Rows

/-! ### places -/
/-- the place that an index of any sign means -/
def ixN (n : Nat) (i : Int) : Option Nat := if 0 ≤ i then (if i < n then some i.toNat else none) else if -(n : Int) ≤ i then some (i + n).toNat else none
def atI {α : Type} (xs : List α) (i : Int) : Option α := (ixN xs.length i).bind fun j => xs[j]?
theorem ixN_seq {n : Nat} {i : Int} {j : Nat} (h : ixN n i = some j) : seqIndex? i n = some j ∧ j < n ∧ -(n : Int) ≤ i ∧ i < n := by
  unfold ixN at h
  by_cases h0 : 0 ≤ i
  · rw [if_pos h0] at h
    by_cases h1 : i < n
    · rw [if_pos h1] at h
      have e : i.toNat = j := Option.some.inj h
      exact ⟨by rw [seqIndex_of h0 h1, e], by omega, by omega, h1⟩
    · rw [if_neg h1] at h; cases h
  · rw [if_neg h0] at h
    by_cases h1 : -(n : Int) ≤ i
    · rw [if_pos h1] at h
      have e : (i + n).toNat = j := Option.some.inj h
      exact ⟨by rw [seqIndex_neg (by omega) h1, e], by omega, h1, by omega⟩
    · rw [if_neg h1] at h; cases h
theorem atI_get {α : Type} {xs : List α} {i : Int} {v : α} (h : atI xs i = some v) : ∃ j, seqIndex? i xs.length = some j ∧ xs[j]? = some v ∧ j < xs.length ∧ -(xs.length : Int) ≤ i ∧ i < xs.length := by
  unfold atI at h
  cases e : ixN xs.length i with
  | none => rw [e] at h; cases h
  | some j =>
    rw [e] at h
    obtain ⟨h1, h2, h3, h4⟩ := ixN_seq e
    exact ⟨j, h1, h, h2, h3, h4⟩
theorem atI_nat {α : Type} {xs : List α} {j : Nat} {v : α} (h : xs[j]? = some v) : atI xs (j : Int) = some v := by
  have hj : j < xs.length := (List.getElem?_eq_some_iff.mp h).1
  have e : ixN xs.length (j : Int) = some j := by
    unfold ixN
    rw [if_pos (by omega), if_pos (by omega)]; simp
  unfold atI; rw [e]; exact h
/-! ### what may be subscripted -/
/-- what stands as an index of a plain subscript -/
def PlainIx (b : Expr) : Prop := ∀ o i, subscripted b false o i = operate [o, i] (getItem o i)
/-- a subscript by values -/
def IxR (X : Cx) (r : R2) : Prop :=
  ∀ (value slice : Expr) (pins : List (Addr × Obj)) (s : Shared) (σ : St) (H : Hp) (x y : V) (v u : Value) (Q : VK), Inv X pins σ H s → RelV x v → RelV y u → r x y H Q →
    subscripted slice false v u = operate [v, u] (getItem v u) → wpAny (model X.prog X.w) X.A (subscriptTail value slice v u) (EP X pins σ Q) X.xe s
/-- a call of a builtin's method by values: the receiver, the arguments -/
def MtR (X : Cx) (id : String) (r : V → List V → Hp → VK → Prop) : Prop :=
  ∀ (pins : List (Addr × Obj)) (s : Shared) (σ : St) (H : Hp) (x : V) (xs : List V) (v : Value) (us : List Value) (Q : VK), Inv X pins σ H s → RelV x v → Vals xs us → r x xs H Q →
    wpAny (model X.prog X.w) X.A (call (.builtin id) (v :: us)) (EP X pins σ Q) X.xe s
section
variable {X : Cx} {a b : Expr} {ta tb : TE} {pos : Pos}
/-- a[b] -/
theorem pe_ix {r : R2} (hr : IxR X r) (ha : PE X a ta) (hb : PE X b tb) (hs : PlainIx b) : PE X (.Subscript a b pos) (tOp r ta tb) := by
  intro pins s σ H Q I h
  exact Subscript_ (binT ha hb I h fun v u s2 x y H2 I2 rx ry q => hr a b pins s2 σ H2 x y v u Q I2 rx ry q (hs _ _))

def rIxL (K : PySem.W.Frag) : R2 := fun x y H Q => ∃ p xs i v, x = .ref p ∧ y = .int i ∧ SqL K H p xs ∧ atI xs i = some v ∧ Q v H
def rIxT (K : PySem.W.Frag) : R2 := fun x y H Q => ∃ p xs i v, x = .ref p ∧ y = .int i ∧ SqT K H p xs ∧ atI xs i = some v ∧ Q v H
theorem ix_list : IxR X (rIxL X.K) := by
  intro value slice pins s σ H x y v u Q I rx ry h hs
  obtain ⟨p, xs, i, z, rfl, rfl, hq, he, q⟩ := h
  cases rx
  obtain ⟨t, rfl⟩ := ry
  obtain ⟨its, r, pl, hz⟩ := I.list hq
  obtain ⟨j, h1, h2, h3, h4, h5⟩ := atI_get he
  obtain ⟨w, ew, rw'⟩ := r.get h2
  have hl := r.length
  have hn := line63
  have fin : EP X pins σ Q w s := ⟨z, H, I, rw', q⟩
  by_cases h0 : 0 ≤ i
  · have hj : i.toNat = j := by
      rw [seqIndex_of h0 h5] at h1
      exact Option.some.inj h1
    exact item_listR pl.isList h0 (by omega) (by rw [hj]; simpa using ew) fin hs
  · have hj : (i + (its.toArray.size : Int)).toNat = j := by
      rw [seqIndex_neg (by omega) h4] at h1
      rw [List.size_toArray, ← hl]
      exact Option.some.inj h1
    exact subscriptTail_builtinR (x := w) pl.isList.typeIs slot_list_getitem.lookup
      (wpAny_getItem_list_neg (Q := fun r s' => r = w ∧ EP X pins σ Q r s') pl.isList (by omega) (by rw [List.size_toArray] <;> omega) (by omega) (by rw [hj]; simpa using ew) ⟨rfl, fin⟩) hs
theorem ix_tup : IxR X (rIxT X.K) := by
  intro value slice pins s σ H x y v u Q I rx ry h hs
  obtain ⟨p, xs, i, z, rfl, rfl, hq, he, q⟩ := h
  cases rx
  obtain ⟨t, rfl⟩ := ry
  obtain ⟨its, r, pl, hz⟩ := I.tuple hq
  obtain ⟨j, h1, h2, h3, h4, h5⟩ := atI_get he
  obtain ⟨w, ew, rw'⟩ := r.get h2
  have hl := r.length
  have hn := line63
  have fin : EP X pins σ Q w s := ⟨z, H, I, rw', q⟩
  exact subscriptTail_builtinR (x := w) pl.typeIs slot_tuple_getitem.lookup
    (getItem_tuple (j := j) (Q := fun r s' => r = w ∧ EP X pins σ Q r s') pl (by omega) (by omega) (by rw [List.size_toArray, ← hl]; exact h1) (by simpa using ew) ⟨rfl, fin⟩) hs
/-! ### xs[i] = v, any sign -/
/-- the list's object behind a store -/
theorem mapSeq_set (its : List Value) (n j : Nat) (u : Value) : Obj.mapSeq (·.setIfInBounds j u) { cls := .type "list", data := .seq its.toArray n } = { cls := .type "list", data := .seq (its.set j u).toArray n } := by
  simp [Obj.mapSeq]
theorem Inv.lst {pins : List (Addr × Obj)} {σ : St} {H : Hp} {s : Shared} {p : Addr} {xs : List V} (I : Inv X pins σ H s) (h : H p = some (.lst xs)) :
    ∃ (its : List Value) (n : Nat), Vals xs its ∧ s.heap.get? p = some { cls := .type "list", data := .seq its.toArray n } ∧ xs.length ≤ sizeLine := by
  obtain ⟨z, its, n, r, e⟩ := I.hok p _ h
  exact ⟨its, n, r, e, z⟩
/-- the list at p is written by an update of its object -/
theorem Inv.lstUpd {pins : List (Addr × Obj)} {σ : St} {H : Hp} {s : Shared} {p : Addr} {xs ys : List V} {its its' : List Value} {n n' : Nat} {f : Obj → Obj} (I : Inv X pins σ H s) (h : H p = some (.lst xs))
    (ho : s.heap.get? p = some { cls := .type "list", data := .seq its.toArray n }) (hf : f { cls := .type "list", data := .seq its.toArray n } = { cls := .type "list", data := .seq its'.toArray n' }) (r : Vals ys its') (hz : ys.length ≤ sizeLine) (t : Nat) :
    Inv X pins σ (upd H p (.lst ys)) { s with heap := s.heap.update p f, toks := t } := by
  have e : (s.heap.update p f).get? p = some { cls := .type "list", data := .seq its'.toArray n' } := by
    rw [Heap.get?_update_self f ho (by rw [hf] <;> rfl), hf]
  refine I.write (x := p) (e := p) (by rw [h]; trivial) (.inl rfl) (fun b u hb q => (Heap.get?_update_other _ _ (Ne.symm hb)).trans q) ⟨_, e⟩ ?_
  exact ⟨hz, its', n', r, e⟩
def rSetL : V → V → V → Hp → (Hp → Prop) → Prop := fun o i v H Q => ∃ p xs k j, o = .ref p ∧ i = .int k ∧ H p = some (.lst xs) ∧ ixN xs.length k = some j ∧ Q (upd H p (.lst (xs.set j v)))
theorem set_list : PSet X rSetL := by
  intro pins s σ H o i v ov iv u Q I ro ri rv h
  obtain ⟨p, xs, k, j, rfl, rfl, hp, hj, q⟩ := h
  cases ro
  obtain ⟨t, rfl⟩ := ri
  obtain ⟨its, n, r, ho, hz⟩ := I.lst hp
  obtain ⟨h1, h2, h3, h4⟩ := ixN_seq hj
  have hl := r.length
  have hn := line63
  have I' : Inv X pins σ (upd H p (.lst (xs.set j v))) { s with heap := s.heap.update p (Obj.mapSeq (·.setIfInBounds j u)) } :=
    I.lstUpd hp ho (mapSeq_set its n j u) (r.set rv j) (by rw [List.length_set]; exact hz) s.toks
  by_cases h0 : 0 ≤ k
  · have hk : k.toNat = j := by
      rw [seqIndex_of h0 h4] at h1
      exact Option.some.inj h1
    exact PySem.W.ki_setAt ho h0 (by omega) (by rw [List.size_toArray, ← hl]; exact h4) (by rw [hk]; exact ⟨_, I', q⟩)
  · have hk : (k + (its.toArray.size : Int)).toNat = j := by
      rw [seqIndex_neg (by omega) h3] at h1
      rw [List.size_toArray, ← hl]
      exact Option.some.inj h1
    exact PySem.W.ki_setBack ho (by omega) (by rw [List.size_toArray, ← hl]; exact h3) (by omega) (by rw [hk]; exact ⟨_, I', q⟩)

/-! ### slices -/
theorem slice_bounds (lo hi : Option Int) (n : Nat) : (sliceBounds lo hi none n).1 = ((HT.sIx n 0 lo : Nat) : Int) ∧ (sliceBounds lo hi none n).2.1 = ((HT.sIx n n hi : Nat) : Int) ∧ (sliceBounds lo hi none n).2.2 = 1 := by
  refine ⟨?_, ?_, rfl⟩
  · cases lo with
    | none => simp [sliceBounds, HT.sIx]
    | some i =>
      simp only [sliceBounds, HT.sIx, Option.getD_none, show (1 : Int) > 0 by decide, if_true]
      by_cases h : i < 0
      · simp only [h, if_true] <;> omega
      · simp only [h, if_false] <;> omega
  · cases hi with
    | none => simp [sliceBounds, HT.sIx]
    | some i =>
      simp only [sliceBounds, HT.sIx, Option.getD_none, show (1 : Int) > 0 by decide, if_true]
      by_cases h : i < 0
      · simp only [h, if_true] <;> omega
      · simp only [h, if_false] <;> omega
theorem slicePick_cut (its : List Value) (lo hi : Option Int) : slicePick its.toArray lo hi none = ((its.drop (HT.sIx its.length 0 lo)).take (HT.sIx its.length its.length hi - HT.sIx its.length 0 lo)).toArray := by
  obtain ⟨h1, h2, h3⟩ := slice_bounds lo hi its.toArray.size
  unfold slicePick
  rw [h1, h2, h3]
  simp only [sliceRange_one, pick_run, List.size_toArray] <;> rfl
/-- xs[lo:hi] of a list: a new list -/
def rSlL (K : PySem.W.Frag) : V → Option Int → Option Int → Hp → VK → Prop := fun x lo hi H Q => ∃ a xs, x = .ref a ∧ SqL K H a xs ∧ ∀ p, H p = none → Q (.ref p) (upd H p (.lst (cutV xs lo hi)))
theorem sl_list : SlR X (rSlL X.K) := by
  intro pins s σ H x v vl vu lo hi sl Q I rx hs pl pu h
  obtain ⟨a, xs, rfl, hx, q⟩ := h
  cases rx
  obtain ⟨its, r, ht, hz⟩ := I.list hx
  have hlen := r.length
  refine ⟨"list", _, slot_list_getitem.lookup, ht.isList.typeIs, ?_⟩
  refine wpAny_getItem_list_slice ht.isList hs pl pu .none (by simp) ?_ (by rw [List.size_toArray] <;> omega)
  rw [slicePick_cut, ← hlen]
  refine ⟨.ref s.heap.objs.size, _, I.laid (t' := s.toks) (o := .lst (cutV xs lo hi)) (fun b ob q => Heap.get?_push_of_some _ q) (Nat.le_refl _) ?_, rfl, q _ (I.hok.fresh (Nat.le_refl _))⟩
  exact ⟨Nat.le_trans (cutV_length xs lo hi) hz, _, 0, (r.drop (HT.sIx xs.length 0 lo)).take (HT.sIx xs.length xs.length hi - HT.sIx xs.length 0 lo), Heap.get?_push_size _ rfl⟩

/-! ### in, not in: flat items -/
def flatV : V → Bool
  | .non => true
  | .bl _ => true
  | .int _ => true
  | .str _ => true
  | _ => false
/-- == of flat values -/
def eqV : V → V → Bool
  | .non, .non => true
  | .bl a, .bl b => a == b
  | .bl a, .int b => (if a then 1 else 0) == b
  | .int a, .bl b => a == (if b then 1 else 0)
  | .int a, .int b => a == b
  | .str a, .str b => a == b
  | _, _ => false
theorem eqAt_V {A : Around} {s : Shared} {y x : V} {u v : Value} (ry : RelV y u) (rx : RelV x v) (fy : flatV y = true) (fx : flatV x = true) : SeqAt.EqAt A s u v (eqV y x) := by
  cases y with
  | non =>
    cases ry
    cases x with
    | non => cases rx; exact SeqAt.EqAt.same _
    | bl b => cases rx; exact SeqAt.EqAt.none_bool b
    | int b => obtain ⟨t, rfl⟩ := rx; exact SeqAt.EqAt.none_int b t
    | str b => obtain ⟨t, rfl⟩ := rx; exact SeqAt.EqAt.none_str b t
    | _ => exact absurd (show false = true from fx) Bool.false_ne_true
  | bl a =>
    cases ry
    cases x with
    | non => cases rx; exact SeqAt.EqAt.bool_none a
    | bl b => cases rx; exact SeqAt.EqAt.bool_bool a b
    | int b => obtain ⟨t, rfl⟩ := rx; exact SeqAt.EqAt.bool_int a b t
    | str b => obtain ⟨t, rfl⟩ := rx; exact SeqAt.EqAt.bool_str a b t
    | _ => exact absurd (show false = true from fx) Bool.false_ne_true
  | int a =>
    obtain ⟨t', rfl⟩ := ry
    cases x with
    | non => cases rx; exact SeqAt.EqAt.int_none a t'
    | bl b => cases rx; exact SeqAt.EqAt.int_bool a t' b
    | int b => obtain ⟨t, rfl⟩ := rx; exact SeqAt.EqAt.int_int a t' b t
    | str b => obtain ⟨t, rfl⟩ := rx; exact SeqAt.EqAt.int_str a t' b t
    | _ => exact absurd (show false = true from fx) Bool.false_ne_true
  | str a =>
    obtain ⟨t', rfl⟩ := ry
    cases x with
    | non => cases rx; exact SeqAt.EqAt.str_none a t'
    | bl b => cases rx; exact SeqAt.EqAt.str_bool a t' b
    | int b => obtain ⟨t, rfl⟩ := rx; exact SeqAt.EqAt.str_int a t' b t
    | str b => obtain ⟨t, rfl⟩ := rx; exact SeqAt.EqAt.str_str a t' b t
    | _ => exact absurd (show false = true from fx) Bool.false_ne_true
  | _ => exact absurd (show false = true from fy) Bool.false_ne_true
/-- the items' answers, read off the values (a value's own answer does not lean on its token) -/
def eqU (x : V) (u : Value) : Bool := match u with
  | .none => eqV .non x
  | .bool b => eqV (.bl b) x
  | .int i _ => eqV (.int i) x
  | .str z _ => eqV (.str z) x
  | _ => false
theorem eqU_of {x y : V} {u : Value} (r : RelV y u) (f : flatV y = true) : eqU x u = eqV y x := by
  cases y with
  | non => cases r; rfl
  | bl b => cases r; rfl
  | int i => obtain ⟨t, rfl⟩ := r; rfl
  | str z => obtain ⟨t, rfl⟩ := r; rfl
  | _ => exact absurd (show false = true from f) Bool.false_ne_true
theorem any_eqU {x : V} : ∀ {xs : List V} {us : List Value}, Vals xs us → xs.all flatV = true → us.any (eqU x) = xs.any fun y => eqV y x
  | _, _, .nil, _ => rfl
  | y :: xs, u :: us, .cons r t, f => by
    rw [List.all_cons, Bool.and_eq_true] at f
    rw [List.any_cons, List.any_cons, eqU_of r f.1, any_eqU t f.2]
theorem mem_eqAt {A : Around} {s : Shared} {x : V} {v : Value} (rx : RelV x v) (fx : flatV x = true) : ∀ {xs : List V} {us : List Value}, Vals xs us → xs.all flatV = true → ∀ u ∈ us, SeqAt.EqAt A s u v (eqU x u)
  | _, _, .nil, _ => fun u hu => by cases hu
  | y :: xs, u :: us, .cons r t, f => fun u' hu => by
    rw [List.all_cons, Bool.and_eq_true] at f
    rcases List.mem_cons.mp hu with rfl | hu
    · rw [eqU_of r f.1]; exact eqAt_V r rx f.1 fx
    · exact mem_eqAt rx fx t f.2 u' hu
def inV (x : V) (xs : List V) : Bool := xs.any fun y => eqV y x
/-- x in a list or tuple of flat items -/
def rIn (K : PySem.W.Frag) (neg : Bool) : R2 := fun x y H Q => ∃ p xs, y = .ref p ∧ (SqL K H p xs ∨ SqT K H p xs) ∧ flatV x = true ∧ xs.all flatV = true ∧ Q (.bl (if neg then !inV x xs else inV x xs)) H
theorem op_in_seq : OpR X (compareOp .In) (rIn X.K false) := by
  intro pins s σ H x y v u Q I rx ry h
  obtain ⟨p, xs, rfl, hq, fx, fs, q⟩ := h
  cases ry
  rcases hq with hq | hq
  · obtain ⟨its, r, pl, hz⟩ := I.list hq
    refine SeqAt.in_listAt (eqU x) pl.isList (fun w hw => mem_eqAt rx fx r fs w (by simpa using hw)) ⟨.bl _, H, I, rfl, ?_⟩
    rw [show its.toArray.any (eqU x) = its.any (eqU x) by simp, any_eqU r fs]
    exact q
  · obtain ⟨its, r, pl, hz⟩ := I.tuple hq
    refine SeqAt.in_tupleAt (eqU x) pl (fun w hw => mem_eqAt rx fx r fs w (by simpa using hw)) ⟨.bl _, H, I, rfl, ?_⟩
    rw [show its.toArray.any (eqU x) = its.any (eqU x) by simp, any_eqU r fs]
    exact q
/-! ### len, list(x), tuple(x) of any list or tuple that is read -/
theorem call_len_seq : CallR X (.builtin "len") (fun xs H Q => ∃ p ys, xs = [.ref p] ∧ (SqL X.K H p ys ∨ SqT X.K H p ys) ∧ Q (.int ys.length) H) := by
  intro pins s σ H xs us Q I r h
  obtain ⟨p, ys, rfl, hq, q⟩ := h
  obtain ⟨u, rfl, rx⟩ := vals1 r
  cases rx
  have hn := line63
  rcases hq with hq | hq
  · obtain ⟨its, r', pl, hz⟩ := I.list hq
    have hlen := r'.length
    exact Calls.call_len_list pl.isList (by simp only [List.size_toArray] <;> omega) ⟨.int ys.length, H, I.tok _, ⟨s.toks + 1, by rw [List.size_toArray, hlen]⟩, q⟩
  · obtain ⟨its, r', pl, hz⟩ := I.tuple hq
    have hlen := r'.length
    exact len_tuple pl (by simp only [List.size_toArray] <;> omega) ⟨.int ys.length, H, I.tok _, ⟨s.toks + 1, by rw [List.size_toArray, hlen]⟩, q⟩
/-! ### the call of a builtin's method: o.m(..) -/
/-- the value is of that builtin type -/
def tyV (K : PySem.W.Frag) (T : String) (x : V) (H : Hp) : Prop := match x with
  | .str _ => T = "str"
  | .int _ => T = "int"
  | .ref p => (T = "list" ∧ ∃ xs, SqL K H p xs) ∨ (T = "tuple" ∧ ∃ o, K.lookup p = some o ∧ o.cls = .type "tuple" ∧ o.dict = none) ∨
      (T = "dict" ∧ ((∃ kvs, H p = some (.dK kvs)) ∨ ∃ kvs, H p = some (.dT kvs))) ∨ (T = "set" ∧ ∃ S n, H p = some (.set S n))
  | _ => False
theorem tyV_is {pins : List (Addr × Obj)} {σ : St} {H : Hp} {s : Shared} {T : String} {x : V} {v : Value} (I : Inv X pins σ H s) (r : RelV x v) (ty : tyV X.K T x H) :
    s.TypeIs v T ∧ ∀ a, v = .ref a → ∃ ob, s.heap.get? a = some ob ∧ ob.dict = none := by
  cases x with
  | str z =>
    obtain ⟨t, rfl⟩ := r
    cases (show T = "str" from ty)
    exact ⟨typeIs_str s z t, fun _ e => nomatch e⟩
  | int i =>
    obtain ⟨t, rfl⟩ := r
    cases (show T = "int" from ty)
    exact ⟨typeIs_int s i t, fun _ e => nomatch e⟩
  | ref p =>
    cases r
    rcases ty with ⟨rfl, xs, hq⟩ | ⟨rfl, o, hk, hc, hd⟩ | ⟨rfl, hk⟩ | ⟨rfl, S, n, hk⟩
    · obtain ⟨its, _, pl, _⟩ := I.list hq
      refine ⟨pl.isList.typeIs, fun a e => ?_⟩
      cases e
      obtain ⟨o, n, e, c, hd, _⟩ := pl
      exact ⟨o, e, hd⟩
    · refine ⟨⟨o, I.kIn p o hk, hc⟩, fun a e => ?_⟩
      cases e
      exact ⟨o, I.kIn _ o hk, hd⟩
    · have z : ∃ o, s.heap.get? p = some o ∧ o.ExactDict := by
        rcases hk with ⟨kvs, hk⟩ | ⟨kvs, hk⟩
        · obtain ⟨_, _, _, _, o, _, _, e, ex, _⟩ := I.hok p _ hk
          exact ⟨o, e, ex⟩
        · obtain ⟨_, _, _, _, o, _, _, e, ex, _⟩ := I.hok p _ hk
          exact ⟨o, e, ex⟩
      obtain ⟨o, e, ex⟩ := z
      refine ⟨⟨o, e, ex.1⟩, fun a e2 => ?_⟩
      cases e2
      exact ⟨o, e, ex.2.1⟩
    · obtain ⟨o, _, _, _, e, ex, _⟩ := I.hok p _ hk
      refine ⟨⟨o, e, ex.1⟩, fun a e2 => ?_⟩
      cases e2
      exact ⟨o, e, ex.2.1⟩
  | _ => exact False.elim ty
def tBM (K : PySem.W.Frag) (T : String) (r : V → List V → Hp → VK → Prop) (to : TE) (t : TA) : TE := fun σ H Q => to σ H fun x H1 => tyV K T x H1 ∧ t σ H1 fun xs H2 => r x xs H2 Q
variable {o e : Expr} {es : List Expr} {to : TE} {t : TA} {name : Str} {apos cpos : Pos} {T id : String} {r : V → List V → Hp → VK → Prop}
theorem pe_bm (pa : PlainAttrs T) (slot : Slot T name id) (hty : typeOf (.builtin id) = pure (.type "method_descriptor")) (hm : MtR X id r) (ho : PE X o to) (ha : PA X (e :: es) t)
    (hbase : attributeBase o name X.env (eval o X.env) = eval o X.env := by rfl)
    (hfew : ((backTo cpos (starEach (e :: es) X.env)).all (fun x => !x.1) && (backToKw cpos (keywordEach [] X.env)).all (fun x => x.1.isSome)
      && decide ((e :: es).length + ([] : List Keyword).length + (if ([] : List Keyword).isEmpty then 0 else 1) < 30)) = true := by rfl)
    (hline : (apos.endLine == cpos.line) = true := by rfl) (hs : starEach (e :: es) X.env = (false, eval e X.env) :: starEach es X.env := by rfl) (hplain : (backTo cpos (starEach es X.env)).any (·.1) = false := by rfl) :
    PE X (.Call (.Attribute o name apos) (e :: es) [] cpos) (tBM X.K T r to t) := by
  intro pins s σ H Q I h
  refine wpAny_Call_method_late hbase hfew hline rfl (thn (ho pins s σ H _ I h) fun v s1 ⟨x, H1, I1, r1, ty, q1⟩ => ?_)
  obtain ⟨h1, h2⟩ := tyV_is I1 r1 ty
  refine ⟨T, id, pa, slot, hty, h1, h2, ?_⟩
  have hA := ha cpos pins s1 σ H1 _ I1 q1
  rw [hs] at hA ⊢
  refine Calls.callWith_builtin (by show (false || (backTo cpos (starEach es X.env)).any (·.1)) = false; rw [hplain] <;> rfl) (Calls.evalArgs_plain ?_)
  exact thn hA fun us s2 ⟨vs, H2, I2, r2, q2⟩ => hm pins s2 σ H2 x vs v us Q I2 r1 r2 q2
/- xs.append(e), list.index on a module's tuple .. are MtR facts of 06m -/
end
end L2

namespace L2
open PySem PySem.Spec PyProof.Rows

def MtM (X : Cx) (id : String) (r : V → List V → Hp → VK → Prop) : Prop :=
  ∀ (pins : List (Addr × Obj)) (s : Shared) (σ : St) (H : Hp) (x : V) (xs : List V) (v : Value) (us : List Value) (Q : VK), Inv X pins σ H s → RelV x v → Vals xs us → r x xs H Q →
    wpAny (model X.prog X.w) X.A (call (.builtin id) (v :: us)) (EP X pins σ Q) X.xe s

/-! ### lists of values -/
theorem Vals.one : ∀ {x : V} {us : List Value}, Vals [x] us → ∃ u, us = [u] ∧ RelV x u
  | _, _, .cons r .nil => ⟨_, rfl, r⟩
theorem Vals.rep {xs : List V} {us : List Value} (h : Vals xs us) : ∀ k : Nat, Vals (List.replicate k xs).flatten (List.replicate k us).flatten
  | 0 => .nil
  | k + 1 => by
    rw [List.replicate_succ, List.replicate_succ, List.flatten_cons, List.flatten_cons]
    exact Vals.append h (Vals.rep h k)
theorem foldl_rep (its : List Value) : ∀ (k : Nat) (acc : List Value),
    List.foldl (fun x1 x2 => x1 ++ x2) acc.toArray (List.replicate k its.toArray) = (acc ++ (List.replicate k its).flatten).toArray
  | 0, acc => by simp
  | k + 1, acc => by
    have e : acc.toArray ++ its.toArray = (acc ++ its).toArray := by simp
    have e2 : (acc ++ its) ++ (List.replicate k its).flatten = acc ++ (List.replicate (k + 1) its).flatten := by
      rw [List.replicate_succ, List.flatten_cons, List.append_assoc]
    rw [← e2, ← foldl_rep its k (acc ++ its), ← e, List.replicate_succ, List.foldl_cons]

section
variable {X : Cx} {pins : List (Addr × Obj)} {σ : St} {H : Hp} {s : Shared} {l b : Addr} {xs ys zs : List V}

/-! ### the two steps: a tracked list is rewritten, a new list is laid -/
theorem Inv.lset {its its' : List Value} {n : Nat} {f : Array Value → Array Value} {t' : Nat} (I : Inv X pins σ H s) (hH : H l = some (.lst xs))
    (e : s.heap.get? l = some { cls := .type "list", data := .seq its.toArray n }) (hf : f its.toArray = its'.toArray) (hv : Vals ys its') (hz : ys.length ≤ sizeLine) :
    Inv X pins σ (upd H l (.lst ys)) { s with heap := s.heap.update l (Obj.mapSeq f), toks := t' } := by
  have q := PySem.IsL.update e f
  rw [hf] at q
  refine I.write (x := l) (e := l) (by rw [hH]; exact trivial) (.inl rfl) (fun b' u hb hu => (Heap.get?_update_other s.heap (Obj.mapSeq f) (Ne.symm hb)).trans hu) ⟨_, q⟩ ?_
  exact ⟨hz, its', _, hv, q⟩
theorem Inv.lnew {its : List Value} {t' : Nat} (I : Inv X pins σ H s) (hv : Vals ys its) (hz : ys.length ≤ sizeLine) :
    Inv X pins σ (upd H s.heap.objs.size (.lst ys)) { s with heap := s.heap.push { cls := .type "list", data := .seq its.toArray }, toks := t' } :=
  I.laid (fun _ _ q => Heap.get?_push_of_some _ q) (Nat.le_refl _) ⟨hz, its, 0, hv, Heap.get?_push_size _ rfl⟩
theorem Inv.fresh (I : Inv X pins σ H s) : H s.heap.objs.size = none := I.hok.fresh (Nat.le_refl _)
theorem Inv.lstM (I : Inv X pins σ H s) (hH : H l = some (.lst xs)) : xs.length ≤ sizeLine ∧ ∃ (its : List Value) (n : Nat), Vals xs its ∧ xs.length = its.length ∧ s.heap.get? l = some { cls := .type "list", data := .seq its.toArray n } := by
  obtain ⟨z, its, n, r, e⟩ := I.hok l _ hH
  exact ⟨z, its, n, r, r.length, e⟩

theorem notLongL {n : Nat} (h : n ≤ sizeLine) : Builtin.List.listTooLong n = false := by
  unfold Builtin.List.listTooLong
  exact decide_eq_false (by omega)
end

section
variable {X : Cx}

/-! ### methods -/
def rAppend : V → List V → Hp → VK → Prop := fun x vs H Q => ∃ l xs y, x = .ref l ∧ vs = [y] ∧ H l = some (.lst xs) ∧ xs.length < sizeLine ∧ Q .non (upd H l (.lst (xs ++ [y])))
theorem mt_append : MtM X "list.append" rAppend := by
  intro pins s σ H x vs v us Q I rx rv h
  obtain ⟨l, xs, y, rfl, rfl, hH, hz, q⟩ := h
  cases rx
  obtain ⟨u, rfl, ru⟩ := rv.one
  obtain ⟨z, its, n, r, hl, e⟩ := I.lstM hH
  refine call_meets F.slot_list_append ⟨_, e, rfl⟩ F.entry_list_append (F.args_list_append_2 _ _) (PySem.list_append l its.toArray n u (by rw [List.size_toArray]; omega)) ⟨e, ?_⟩
  refine ⟨.non, _, I.lset (its' := its ++ [u]) hH e (by simp) (r.append (.cons ru .nil)) ?_, rfl, q⟩
  rw [List.length_append, List.length_singleton]
  omega

def rExtend : V → List V → Hp → VK → Prop := fun x vs H Q => ∃ l b xs zs, x = .ref l ∧ vs = [.ref b] ∧ H l = some (.lst xs) ∧ H b = some (.lst zs) ∧ xs.length + zs.length ≤ sizeLine ∧ Q .non (upd H l (.lst (xs ++ zs)))
theorem mt_extend : MtM X "list.extend" rExtend := by
  intro pins s σ H x vs v us Q I rx rv h
  obtain ⟨l, b, xs, zs, rfl, rfl, hH, hB, hz, q⟩ := h
  cases rx
  obtain ⟨u, rfl, ru⟩ := rv.one
  cases ru
  obtain ⟨z, its, n, r, hl, e⟩ := I.lstM hH
  obtain ⟨z2, its2, n2, r2, hl2, e2⟩ := I.lstM hB
  have hsz : its.toArray.size + its2.toArray.size ≤ sizeLine := by rw [List.size_toArray, List.size_toArray]; omega
  have hlong : ¬ (!its.toArray.isEmpty && Builtin.List.listTooLong (its.toArray.size + its2.toArray.size)) = true := by
    rw [notLongL hsz, Bool.and_false]
    exact Bool.false_ne_true
  refine call_meets F.slot_list_extend ⟨_, e, rfl⟩ F.entry_list_extend (F.args_list_extend_2 _ _)
    (AutoSeq1.list_extend_list_list_0 l its.toArray n b its2.toArray n2 hlong (by rw [List.size_toArray]; omega) (by omega)) ⟨e, e2, ?_⟩
  refine ⟨.non, _, I.lset (its' := its ++ its2) hH e (by simp) (r.append r2) ?_, rfl, q⟩
  rw [List.length_append]
  omega

/-! ### list + list, list += list, list * int -/
def rCat : R2 := fun x y H Q => ∃ l b xs zs, x = .ref l ∧ y = .ref b ∧ H l = some (.lst xs) ∧ H b = some (.lst zs) ∧ xs.length + zs.length ≤ sizeLine ∧ ∀ p, H p = none → Q (.ref p) (upd H p (.lst (xs ++ zs)))
theorem op_cat : OpR X (binaryOp .Add) rCat := by
  intro pins s σ H x y v u Q I rx ry h
  obtain ⟨l, b, xs, zs, rfl, rfl, hH, hB, hz, q⟩ := h
  cases rx
  cases ry
  obtain ⟨z, its, n, r, hl, e⟩ := I.lstM hH
  obtain ⟨z2, its2, n2, r2, hl2, e2⟩ := I.lstM hB
  refine PySem.P.add_list e e2 ?_ (by rw [List.size_toArray, List.size_toArray]; omega)
  have ea : its.toArray ++ its2.toArray = (its ++ its2).toArray := by simp
  rw [ea]
  exact ⟨.ref _, _, I.lnew (t' := s.toks) (r.append r2) (by rw [List.length_append]; omega), rfl, q _ I.fresh⟩
/-- a list times an int (a negative one is nothing) -/
def rRep : R2 := fun x y H Q => ∃ l k xs, x = .ref l ∧ y = .int k ∧ H l = some (.lst xs) ∧ -(2 ^ 63) ≤ k ∧ k < 2 ^ 63 ∧ xs.length * k.toNat ≤ sizeLine ∧
  ∀ p, H p = none → Q (.ref p) (upd H p (.lst (List.replicate k.toNat xs).flatten))
theorem len_rep {α : Type} (xs : List α) (k : Nat) : (List.replicate k xs).flatten.length = k * xs.length := by
  induction k with
  | zero => simp
  | succ k ih => rw [List.replicate_succ, List.flatten_cons, List.length_append, ih, Nat.succ_mul, Nat.add_comm]
theorem op_rep : OpR X (binaryOp .Mult) rRep := by
  intro pins s σ H x y v u Q I rx ry h
  obtain ⟨l, k, xs, rfl, rfl, hH, h1, h2, hz, q⟩ := h
  cases rx
  obtain ⟨t, rfl⟩ := ry
  obtain ⟨z, its, n, r, hl, e⟩ := I.lstM hH
  have hlen : its.toArray.size * k.toNat ≤ sizeLine := by rw [List.size_toArray, ← hl]; exact hz
  have hcap : ¬ its.toArray.size * k.toNat > (2 ^ 63 - 1) / 8 := by
    have : (sizeLine : Nat) ≤ (2 ^ 63 - 1) / 8 := by decide
    omega
  have hfit : ¬ (!Builtin.List.listFitsIndex k) = true := by
    rw [fitsIndex_both h1 h2]
    exact Bool.false_ne_true
  have hlong : ¬ Builtin.List.listTooLong (its.toArray.size * k.toNat) = true := by
    rw [notLongL hlen]
    exact Bool.false_ne_true
  have hnew : List.foldl (fun x1 x2 => x1 ++ x2) #[] (List.replicate (if its.toArray.isEmpty = true then 0 else k.toNat) its.toArray) = (List.replicate k.toNat its).flatten.toArray := by
    have f0 : ∀ m : Nat, List.foldl (fun x1 x2 => x1 ++ x2) #[] (List.replicate m its.toArray) = (List.replicate m its).flatten.toArray := fun m => by
      have := foldl_rep its m []
      rw [List.nil_append] at this
      exact this
    rw [f0]
    cases its with
    | nil => simp
    | cons a r' => rw [if_neg (by simp)]
  refine wpAny_binaryOp_repeat_ref (T := "list") (U := "int") (by decide) ⟨_, e, rfl⟩ (fun s' => typeIs_int s' k t) noFill_list_mul F.fills_int_mul F.slot_int_rmul repeat_list F.slot_int_index.lookup
    (call_meets F.slot_int_rmul (typeIs_int s k t) F.entry_int_rmul (F.args_int_rmul_2 _ _) (int___rmul___int_list k t l its.toArray n)
      ⟨e, rfl, ⟨_, e, rfl⟩, call_meets F.slot_list_mul ⟨_, e, rfl⟩ F.entry_list_mul (F.args_list_mul_2 _ _) (AutoListH.list___mul___list_int_3 l its.toArray n k t hfit hcap hlong) ⟨e, ?_⟩⟩)
  rw [hnew]
  exact ⟨.ref _, _, I.lnew (t' := s.toks) (r.rep k.toNat) (by rw [len_rep, Nat.mul_comm]; exact hz), rfl, q _ I.fresh⟩

/-! ### del xs[i] -/
end

/-! ### xs[a:b] = ys -/
section
variable {prog : Program} {w : World} {A : Around} {E : Value → Shared → Prop} {s : Shared}
set_option maxRecDepth 100000 in
end

section
variable {X : Cx}
end
end L2

namespace L2
open PySem PySem.Spec PyProof.Rows

theorem Vals.ints : ∀ {ns : List Int} {us : List Value}, Vals (ns.map V.int) us → IntsAre us ns
  | [], us, h => by
    rw [List.map_nil] at h
    cases h
    exact IntsAre.nil
  | n :: ns, us, h => by
    rw [List.map_cons] at h
    cases h with
    | cons r t =>
      obtain ⟨k, rfl⟩ := r
      exact IntsAre.cons n k (Vals.ints t)
theorem vals_of_ints : ∀ {us : List Value} {ns : List Int}, IntsAre us ns → Vals (ns.map V.int) us
  | _, _, .nil => by rw [List.map_nil]; exact Paired.nil
  | _, _, .cons n t h => by rw [List.map_cons]; exact Paired.cons (show RelV (V.int n) (Value.int n t) from ⟨t, rfl⟩) (vals_of_ints h)
theorem Vals.ref1 {a : Addr} {us : List Value} (r : Vals [V.ref a] us) : us = [Value.ref a] := by
  cases r with
  | cons r t =>
    cases t
    cases r
    rfl
/-! ### the library's walks over a list of ints, kept objects alone -/
section
variable {prog : Program} {w : World} {A : Around} {E : Value → Shared → Prop} {s : Shared} {l : Addr} {its : List Value} {ns : List Int} {Q : Value → Shared → Prop}
theorem sum_raw (hh : A.handled = none) (hl : s.heap.IsList l its.toArray) (hi : IntsAre its ns)
    (h : ∀ h' tk t', (∀ b o, s.heap.get? b = some o → h'.get? b = some o) → Q (.int ns.sum t') { s with heap := h', toks := tk }) : wpAny (model prog w) A (call (.builtin "sum") [.ref l]) Q E s := by
  obtain ⟨xs, e⟩ := hi.allInts.items
  have hn : numsOf (intItems xs).toList = ns := by rw [← e]; exact hi.numsOf
  rw [nums_intItems] at hn
  rw [e] at hl
  refine PySem.sum_intListG hh hl fun h' tk t' hk => ?_
  have := h h' tk t' hk
  rw [preSum_eq, List.take_of_length_le (by simp), hn]; exact this
theorem max_raw (hh : A.handled = none) (hl : s.heap.IsList l its.toArray) (hi : IntsAre its ns) (hne : 0 < ns.length)
    (h : ∀ h' tk M t', (∀ b o, s.heap.get? b = some o → h'.get? b = some o) → M ∈ ns → (∀ a, a ∈ ns → a ≤ M) → Q (.int M t') { s with heap := h', toks := tk }) : wpAny (model prog w) A (call (.builtin "max") [.ref l]) Q E s := by
  obtain ⟨xs, e⟩ := hi.allInts.items
  have hn : numsOf (intItems xs).toList = ns := by rw [← e]; exact hi.numsOf
  rw [nums_intItems] at hn
  subst hn
  rw [e] at hl
  have hsz : 0 < xs.size := by simpa using hne
  refine PySem.max_intList hh hl hsz fun v h' tk hv hk => ?_
  obtain ⟨t, rfl⟩ := intItems_at hv
  obtain ⟨h1, h2⟩ := argBest_gt (numAt xs) (xs.size - 1)
  refine h h' tk _ t hk ?_ fun a ha => ?_
  · rw [numAt_eq]; exact PySem.getD_mem (by rw [List.length_map, Array.length_toList]; omega)
  · obtain ⟨j, hj, rfl⟩ := mem_getD ha
    rw [List.length_map, Array.length_toList] at hj
    rw [← numAt_eq]; exact h2 j (by omega)
theorem min_raw (hh : A.handled = none) (hl : s.heap.IsList l its.toArray) (hi : IntsAre its ns) (hne : 0 < ns.length)
    (h : ∀ h' tk M t', (∀ b o, s.heap.get? b = some o → h'.get? b = some o) → M ∈ ns → (∀ a, a ∈ ns → M ≤ a) → Q (.int M t') { s with heap := h', toks := tk }) : wpAny (model prog w) A (call (.builtin "min") [.ref l]) Q E s := by
  obtain ⟨xs, e⟩ := hi.allInts.items
  have hn : numsOf (intItems xs).toList = ns := by rw [← e]; exact hi.numsOf
  rw [nums_intItems] at hn
  subst hn
  rw [e] at hl
  have hsz : 0 < xs.size := by simpa using hne
  refine PySem.min_intList hh hl hsz fun v h' tk hv hk => ?_
  obtain ⟨t, rfl⟩ := intItems_at hv
  obtain ⟨h1, h2⟩ := argBest_lt (numAt xs) (xs.size - 1)
  refine h h' tk _ t hk ?_ fun a ha => ?_
  · rw [numAt_eq]; exact PySem.getD_mem (by rw [List.length_map, Array.length_toList]; omega)
  · obtain ⟨j, hj, rfl⟩ := mem_getD ha
    rw [List.length_map, Array.length_toList] at hj
    rw [← numAt_eq]; exact h2 j (by omega)
end

/-! ### the calls, by values (CallR of 03t; MtR of 06l) -/
section
variable {X : Cx}
/-- sum(xs) of a list of ints -/
def rSum (K : PySem.W.Frag) : List V → Hp → VK → Prop := fun vs H Q => ∃ (a : Addr) (ns : List Int), vs = [V.ref a] ∧ SqL K H a (ns.map V.int) ∧ Q (.int ns.sum) H
/-- max(xs), min(xs) of a list of ints -/
def rMax (K : PySem.W.Frag) : List V → Hp → VK → Prop := fun vs H Q => ∃ (a : Addr) (ns : List Int), vs = [V.ref a] ∧ SqL K H a (ns.map V.int) ∧ 0 < ns.length ∧ ∀ m, m ∈ ns → (∀ y, y ∈ ns → y ≤ m) → Q (.int m) H
def rMin (K : PySem.W.Frag) : List V → Hp → VK → Prop := fun vs H Q => ∃ (a : Addr) (ns : List Int), vs = [V.ref a] ∧ SqL K H a (ns.map V.int) ∧ 0 < ns.length ∧ ∀ m, m ∈ ns → (∀ y, y ∈ ns → m ≤ y) → Q (.int m) H
theorem cr_sum (hc : X.calm = true) : CallR X (.builtin "sum") (rSum X.K) := by
  intro pins s σ H vs us Q I r h
  obtain ⟨a, ns, rfl, hs, q⟩ := h
  obtain ⟨its, rv, hl, _⟩ := I.list hs
  rw [Vals.ref1 r]
  exact sum_raw (I.ok.hd hc) hl.isList rv.ints fun h' tk t' hk => ⟨.int _, H, I.kept hk, ⟨_, rfl⟩, q⟩
theorem cr_max (hc : X.calm = true) : CallR X (.builtin "max") (rMax X.K) := by
  intro pins s σ H vs us Q I r h
  obtain ⟨a, ns, rfl, hs, hne, q⟩ := h
  obtain ⟨its, rv, hl, _⟩ := I.list hs
  rw [Vals.ref1 r]
  exact max_raw (I.ok.hd hc) hl.isList rv.ints hne fun h' tk m t' hk h1 h2 => ⟨.int _, H, I.kept hk, ⟨_, rfl⟩, q m h1 h2⟩
theorem cr_min (hc : X.calm = true) : CallR X (.builtin "min") (rMin X.K) := by
  intro pins s σ H vs us Q I r h
  obtain ⟨a, ns, rfl, hs, hne, q⟩ := h
  obtain ⟨its, rv, hl, _⟩ := I.list hs
  rw [Vals.ref1 r]
  exact min_raw (I.ok.hd hc) hl.isList rv.ints hne fun h' tk m t' hk h1 h2 => ⟨.int _, H, I.kept hk, ⟨_, rfl⟩, q m h1 h2⟩

/-! sorted, sort (fewer than 64 items: the library's own bound) -/
end

/-! ### list.index, flat items -/
section
variable {X : Cx}
def rIndex (K : PySem.W.Frag) : V → List V → Hp → VK → Prop := fun x xs H Q => ∃ (a : Addr) (ys : List V) (y : V) (j : Nat) (z : V), x = V.ref a ∧ xs = [y] ∧ SqL K H a ys ∧ flatV y = true ∧ ys.all flatV = true ∧ ys[j]? = some z ∧ eqV z y = true ∧
  (∀ (m : Nat) (z' : V), m < j → ys[m]? = some z' → eqV z' y = false) ∧ Q (.int (j : Nat)) H
theorem flat_at {ys : List V} (f : ys.all flatV = true) {j : Nat} {z : V} (h : ys[j]? = some z) : flatV z = true := List.all_eq_true.mp f z (List.mem_of_getElem? h)
theorem mt_index : MtR X "list.index" (rIndex X.K) := by
  intro pins s σ H x xs v us Q I rx rxs h
  obtain ⟨a, ys, y, j, z, rfl, rfl, hs, fy, fys, hz, hzj, hno, q⟩ := h
  cases rx
  cases rxs with
  | cons ry rt =>
    rename_i uy ut
    cases rt
    obtain ⟨its, rv, ⟨⟨cls, dd, data, sl⟩, n, ho, hc, hdn, hd⟩, hlen⟩ := I.list hs
    simp only at hc hd
    subst hc hd
    obtain ⟨u, hu, ru⟩ := rv.get hz
    obtain ⟨hjl, hje⟩ := List.getElem?_eq_some_iff.mp hu
    have hvl := rv.length
    have hj : j < its.toArray.size := by simpa using hjl
    have hsl := sizeLine_eq
    refine call_meets PySem.F.slot_list_index ⟨_, ho, rfl⟩ PySem.F.entry_list_index (PySem.F.args_list_index_2 _ _)
      (SeqAt.list_indexAt a its.toArray n dd sl uy (eqU y) j hj (by omega) ?_ ?_) ⟨ho, fun u' hu' => mem_eqAt ry fy rv fys u' (by simpa using hu'), ?_⟩
    · have e1 : its.toArray[j] = u := by simpa using hje
      rw [e1, eqU_of ru (flat_at fys hz)]
      exact hzj
    · intro m hm hmj
      have hml : m < its.length := by simpa using hm
      have hmy : m < ys.length := by omega
      have hy' : ys[m]? = some ys[m] := List.getElem?_eq_getElem hmy
      obtain ⟨u2, hu2, ru2⟩ := rv.get hy'
      obtain ⟨_, hme⟩ := List.getElem?_eq_some_iff.mp hu2
      have e1 : its.toArray[m] = u2 := by simpa using hme
      rw [e1, eqU_of ru2 (flat_at fys hy')]
      exact hno m _ hmj hy'
    · exact ⟨.int (j : Nat), H, I.tok _, ⟨_, rfl⟩, q⟩
end

/-! ### type(x) of an own instance; is, is not of a module's class -/
section
variable {X : Cx}
end

/-! ### any(xs), all(xs) of a list of bools -/
section
variable {X : Cx}
end

/-! ### == and != of data at any depth: none, bools, ints, texts, lists, tuples -/
mutual
inductive Dp (K : PySem.W.Frag) (H : Hp) : V → PyData → Prop
  | non : Dp K H .non .none
  | bl (b : Bool) : Dp K H (.bl b) (.bool b)
  | int (i : Int) : Dp K H (.int i) (.int i)
  | str (x : Str) : Dp K H (.str x) (.str x)
  | lst {a : Addr} {xs : List V} {ds : List PyData} : SqL K H a xs → DpAll K H xs ds → Dp K H (.ref a) (.list ds)
  | tup {a : Addr} {xs : List V} {ds : List PyData} : SqT K H a xs → DpAll K H xs ds → Dp K H (.ref a) (.tuple ds)
inductive DpAll (K : PySem.W.Frag) (H : Hp) : List V → List PyData → Prop
  | nil : DpAll K H [] []
  | cons {v : V} {vs : List V} {d : PyData} {ds : List PyData} : Dp K H v d → DpAll K H vs ds → DpAll K H (v :: vs) (d :: ds)
end
section
variable {X : Cx} {pins : List (Addr × Obj)} {σ : St} {H : Hp} {s : Shared}
mutual
theorem Dp.reads (I : Inv X pins σ H s) : ∀ (d : PyData) (v : V) (u : Value), Dp X.K H v d → RelV v u → ∃ as, Reads s.heap u d as
  | .none, _, _, h, r => by
    cases h
    cases r
    exact ⟨_, Reads.none⟩
  | .bool b, _, _, h, r => by
    cases h
    cases r
    exact ⟨_, Reads.bool b⟩
  | .int i, _, _, h, r => by
    cases h
    obtain ⟨t, rfl⟩ := r
    exact ⟨_, Reads.int i t⟩
  | .str x, _, _, h, r => by
    cases h
    obtain ⟨t, rfl⟩ := r
    exact ⟨_, Reads.str x t⟩
  | .list ds, _, _, h, r => by
    cases h with
    | lst hs ha =>
      cases r
      obtain ⟨its, rv, ⟨o, n, ho, hc, _, hd⟩, _⟩ := I.list hs
      obtain ⟨as, hr⟩ := Dp.readsAll I ds _ its ha rv
      exact ⟨_, Reads.list ho hc hd hr⟩
  | .tuple ds, _, _, h, r => by
    cases h with
    | tup hs ha =>
      cases r
      obtain ⟨its, rv, ⟨o, ho, hc, n, hd⟩, _⟩ := I.tuple hs
      obtain ⟨as, hr⟩ := Dp.readsAll I ds _ its ha rv
      exact ⟨_, Reads.tuple ho hc hd hr⟩
  | .dict _, _, _, h, _ => by cases h
theorem Dp.readsAll (I : Inv X pins σ H s) : ∀ (ds : List PyData) (vs : List V) (us : List Value), DpAll X.K H vs ds → Vals vs us → ∃ as, ReadsAll s.heap us ds as
  | [], _, _, h, r => by
    cases h
    cases r
    exact ⟨_, ReadsAll.nil⟩
  | d :: ds, _, _, h, r => by
    cases h with
    | cons h1 h2 =>
      cases r with
      | cons r1 r2 =>
        obtain ⟨as, q1⟩ := Dp.reads I d _ _ h1 r1
        obtain ⟨bs, q2⟩ := Dp.readsAll I ds _ _ h2 r2
        exact ⟨_, ReadsAll.cons q1 q2⟩
end
end
section
variable {X : Cx}
def rEqD (K : PySem.W.Frag) : R2 := fun x y H Q => ∃ d e, Dp K H x d ∧ Dp K H y e ∧ SeqAt.shaped d = true ∧ SeqAt.shaped e = true ∧ Q (.bl (PyData.eqv d e)) H
theorem op_eqD (hu : X.A.units + 64 < cLine) : OpR X (compareOp .Eq) (rEqD X.K) := by
  intro pins s σ H x y v u Q I rx ry h
  obtain ⟨d, e, hd, he, sd, se, q⟩ := h
  obtain ⟨as, r1⟩ := Dp.reads I d x v hd rx
  obtain ⟨bs, r2⟩ := Dp.reads I e y u he ry
  exact SeqAt.compareEq_shaped r1 r2 sd se hu ⟨.bl _, H, I, rfl, q⟩
end
end L2

namespace L2
open PySem PySem.Spec PyProof.Rows
abbrev CellAt (h : Heap) (c : Addr) (v : Option Value) : Prop := h.IsCell c v
def relS (scope sc : Scope) : Scope :=
  { scope with names := scope.names.map fun (n, k) => if (k == .free && sc.kind == .function && sc.names.lookup n == some .cell) then (n, .cell) else (n, k) }

def cloFrom (cells : List (Str × Addr)) : List (Str × NameKind) → List (Str × Addr) → List (Str × Addr)
  | [], acc => acc
  | (n, k) :: r, acc => if k == .free then cloFrom cells r ((n, (cells.lookup n).getD 0) :: acc) else cloFrom cells r acc

theorem closure_loop (env : Env) (f : Str × NameKind → List (Str × Addr) → Sem (ForInStep (List (Str × Addr))))
    (hf : ∀ n k c, f (n, k) c = if k == .free then (do let a ← cellOf env n; pure (.yield ((n, a) :: c))) else pure (.yield c)) :
    ∀ (names : List (Str × NameKind)) (acc : List (Str × Addr)), (∀ y ∈ names, y.2 = .free → ∃ c, env.cells.lookup y.1 = some c) → forIn names acc f = pure (cloFrom env.cells names acc)
  | [], acc, _ => by rw [List.forIn_nil]; rfl
  | (n, k) :: r, acc, h => by
    rw [List.forIn_cons, hf]
    have ih := fun acc => closure_loop env f hf r acc fun y hy => h y (List.mem_cons_of_mem _ hy)
    unfold cloFrom
    by_cases hk : (k == NameKind.free) = true
    · rw [if_pos hk, if_pos hk]
      obtain ⟨c, hc⟩ := h (n, k) List.mem_cons_self (by simpa using hk)
      have e : cellOf env n = pure c := by unfold cellOf; rw [hc]
      rw [e]
      have e2 : (env.cells.lookup n).getD 0 = c := by rw [hc]; rfl
      rw [e2]
      exact ih _
    · rw [if_neg hk, if_neg hk]
      exact ih _
theorem closure_ok {scope : Scope} {env : Env} (h : ∀ y ∈ scope.names, y.2 = .free → ∃ c, env.cells.lookup y.1 = some c) : closureFor scope env = pure (cloFrom env.cells scope.names []) := by
  simp only [closureFor]
  rw [closure_loop env _ (fun n k c => rfl) scope.names [] h]
  rfl

theorem mem_lookup {α : Type} : ∀ {l : List (Str × α)} {n : Str} {c : α}, (n, c) ∈ l → ∃ c', l.lookup n = some c'
  | (k, v) :: r, n, c, h => by
    rw [List.lookup_cons]
    cases hb : n == k with
    | true => exact ⟨_, rfl⟩
    | false =>
      rcases List.mem_cons.mp h with e | h
      · cases e; simp at hb
      · exact mem_lookup h

theorem cloFrom_mem {cells : List (Str × Addr)} : ∀ {names : List (Str × NameKind)} {acc : List (Str × Addr)} {n : Str} {c : Addr}, (n, c) ∈ cloFrom cells names acc → (n, c) ∈ acc ∨ ((n, .free) ∈ names ∧ c = (cells.lookup n).getD 0)
  | [], _, _, _, h => .inl h
  | (m, k) :: r, acc, n, c, h => by
    unfold cloFrom at h
    split at h
    · rename_i hk
      have hk : k = .free := by simpa using hk
      rcases cloFrom_mem h with h | ⟨h1, h2⟩
      · rcases List.mem_cons.mp h with e | h
        · cases e; exact .inr ⟨hk ▸ List.mem_cons_self, rfl⟩
        · exact .inl h
      · exact .inr ⟨List.mem_cons_of_mem _ h1, h2⟩
    · rcases cloFrom_mem h with h | ⟨h1, h2⟩
      · exact .inl h
      · exact .inr ⟨List.mem_cons_of_mem _ h1, h2⟩
theorem cloFrom_acc {cells : List (Str × Addr)} : ∀ {names : List (Str × NameKind)} {acc : List (Str × Addr)} {p : Str × Addr}, p ∈ acc → p ∈ cloFrom cells names acc
  | [], _, _, h => h
  | (m, k) :: r, acc, p, h => by
    unfold cloFrom
    split
    · exact cloFrom_acc (List.mem_cons_of_mem _ h)
    · exact cloFrom_acc h
theorem cloFrom_has {cells : List (Str × Addr)} : ∀ {names : List (Str × NameKind)} {acc : List (Str × Addr)} {n : Str}, (n, .free) ∈ names → (n, (cells.lookup n).getD 0) ∈ cloFrom cells names acc
  | (m, k) :: r, acc, n, h => by
    unfold cloFrom
    rcases List.mem_cons.mp h with e | h
    · cases e
      exact cloFrom_acc List.mem_cons_self
    · split
      · exact cloFrom_has h
      · exact cloFrom_has h

theorem cells_mem : ∀ {names : List (Str × NameKind)} {h : Heap} {acc : List (Str × Addr)} {x : Str} {c : Addr}, (x, c) ∈ cellsFrom h.objs.size names acc →
    (x, c) ∈ acc ∨ ((x, .cell) ∈ names ∧ h.objs.size ≤ c ∧ CellAt (pushCells h names) c none)
  | [], _, _, _, _, h => .inl h
  | (n, k) :: r, h, acc, x, c, hm => by
    unfold cellsFrom at hm
    unfold pushCells
    split at hm
    · rename_i hk
      rw [if_pos hk]
      have hk : k = .cell := by simpa using hk
      rw [← Heap.size_push h { cls := .type "cell", data := .cell none }] at hm
      rcases cells_mem hm with hm | ⟨h1, h2, h3⟩
      · rcases List.mem_cons.mp hm with e | hm
        · cases e
          exact .inr ⟨hk ▸ List.mem_cons_self, Nat.le_refl _, _, pushCells_keeps r _ _ _ (Heap.get?_push_size _ rfl), rfl⟩
        · exact .inl hm
      · rw [Heap.size_push] at h2
        exact .inr ⟨List.mem_cons_of_mem _ h1, Nat.le_of_succ_le h2, h3⟩
    · rename_i hk
      rw [if_neg hk]
      rcases cells_mem hm with hm | ⟨h1, h2, h3⟩
      · exact .inl hm
      · exact .inr ⟨List.mem_cons_of_mem _ h1, h2, h3⟩
theorem cells_acc : ∀ {names : List (Str × NameKind)} {n : Nat} {acc : List (Str × Addr)} {p : Str × Addr}, p ∈ acc → p ∈ cellsFrom n names acc
  | [], _, _, _, h => h
  | (m, k) :: r, n, acc, p, h => by
    unfold cellsFrom
    split
    · exact cells_acc (List.mem_cons_of_mem _ h)
    · exact cells_acc h
theorem cells_has : ∀ {names : List (Str × NameKind)} {n : Nat} {acc : List (Str × Addr)} {x : Str}, (x, .cell) ∈ names → ∃ c, (x, c) ∈ cellsFrom n names acc
  | (m, k) :: r, n, acc, x, h => by
    unfold cellsFrom
    rcases List.mem_cons.mp h with e | h
    · cases e
      exact ⟨n, cells_acc List.mem_cons_self⟩
    · split
      · exact cells_has h
      · exact cells_has h
theorem cells_inj : ∀ {names : List (Str × NameKind)} {h : Heap} {acc : List (Str × Addr)} {x y : Str} {c : Addr}, (∀ p ∈ acc, p.2 < h.objs.size) → (∀ x y c, (x, c) ∈ acc → (y, c) ∈ acc → x = y) →
    (x, c) ∈ cellsFrom h.objs.size names acc → (y, c) ∈ cellsFrom h.objs.size names acc → x = y
  | [], _, _, _, _, _, _, hi, h1, h2 => hi _ _ _ h1 h2
  | (n, k) :: r, h, acc, x, y, c, hl, hi, h1, h2 => by
    unfold cellsFrom at h1 h2
    split at h1
    · rename_i hk
      rw [if_pos hk] at h2
      rw [← Heap.size_push h { cls := .type "cell", data := .cell none }] at h1 h2
      refine cells_inj (h := h.push _) (fun p hp => ?_) (fun x y c a b => ?_) h1 h2
      · rw [Heap.size_push]
        rcases List.mem_cons.mp hp with rfl | hp
        · exact Nat.lt_succ_self _
        · exact Nat.lt_succ_of_lt (hl p hp)
      · rcases List.mem_cons.mp a with e | a <;> rcases List.mem_cons.mp b with e' | b
        · cases e; cases e'; rfl
        · cases e; exact absurd (hl _ b) (Nat.lt_irrefl _)
        · cases e'; exact absurd (hl _ a) (Nat.lt_irrefl _)
        · exact hi _ _ _ a b
    · rename_i hk
      rw [if_neg hk] at h2
      exact cells_inj hl hi h1 h2

theorem newEnv_comp {M : Model} {A : Around} {E : Value → Shared → Prop} {s : Shared} {scope : Scope} {globals : Addr} {closure : List (Str × Addr)} {qual : Str} {func : Option Addr} {code : Value} {around : Env} {builtins : Addr} {Q : Env → Shared → Prop}
    (h : Q (newEnv scope s.heap.objs.size globals (cellsFrom (s.heap.objs.size + 1) scope.names closure) qual func code (some around) builtins)
      { s with heap := pushCells (s.heap.push { cls := .type "dict", data := .dict #[] }) scope.names }) :
    wpAny M A (newFunctionEnv scope globals closure [] qual func code (some around) builtins) Q E s := by
  simp only [newFunctionEnv, Option.isSome_some, if_true]
  refine wpAny_bind (wpAny_alloc ?_)
  refine wpAny_bind (wpAny_layCells _ (fun n k c => rfl) scope.names closure _ _ ?_)
  rw [show ({ s with heap := s.heap.push { cls := .type "dict", data := .dict #[] } } : Shared).heap.objs.size = s.heap.objs.size + 1 from Heap.size_push ..]
  rw [List.forIn_nil]
  exact wpAny_bind (wpAny_pure (wpAny_pure h))

/-- every name of the written scope, in the scope that runs -/
theorem lookup_relS {sc : Scope} : ∀ {names : List (Str × NameKind)} {x : Str} {k : NameKind},
    (names.map fun (n, k) => if (k == NameKind.free && sc.kind == .function && sc.names.lookup n == some .cell) then (n, NameKind.cell) else (n, k)).lookup x = some k →
    ∃ k', names.lookup x = some k' ∧ (k = k' ∨ (k' = .free ∧ k = .cell))
  | [], _, _, h => by simp at h
  | (n, k₀) :: r, x, k, h => by
    have ih := @lookup_relS sc r x k
    have h' : List.lookup x ((if (k₀ == NameKind.free && sc.kind == .function && sc.names.lookup n == some .cell) = true then (n, NameKind.cell) else (n, k₀)) :: (r.map _)) = some k := h
    cases hx : x == n with
    | true =>
      simp only [List.lookup_cons, hx]
      by_cases hc : (k₀ == NameKind.free && sc.kind == .function && sc.names.lookup n == some .cell) = true
      · rw [if_pos hc] at h'
        simp only [List.lookup_cons, hx] at h'
        cases h'
        simp only [Bool.and_eq_true, beq_iff_eq] at hc
        exact ⟨k₀, rfl, .inr ⟨hc.1.1, rfl⟩⟩
      · rw [if_neg hc] at h'
        simp only [List.lookup_cons, hx] at h'
        cases h'
        exact ⟨_, rfl, .inl rfl⟩
    | false =>
      simp only [List.lookup_cons, hx]
      by_cases hc : (k₀ == NameKind.free && sc.kind == .function && sc.names.lookup n == some .cell) = true
      · rw [if_pos hc] at h'
        simp only [List.lookup_cons, hx] at h'
        exact ih h'
      · rw [if_neg hc] at h'
        simp only [List.lookup_cons, hx] at h'
        exact ih h'
/-- the names of a comprehension's block: its own (with their places in N), or captured -/
structure BlkOk (N : List Str) (sc scope : Scope) (own : List (Str × Nat)) : Prop where
  kind : scope.kind = .function
  uniq : ∀ y ∈ scope.names, scope.names.lookup y.1 = some y.2
  ix : ∀ p ∈ own, N[p.2]? = some p.1
  free : ∀ y ∈ scope.names, y.2 = .free → sc.names.lookup y.1 = some .cell ∨ sc.names.lookup y.1 = some .free
  own : ∀ y ∈ scope.names, y.2 = .local ∨ y.2 = .cell → y.1 ∈ own.map (·.1) ∨ y.1 ∉ N
/-- the slots of the block's own names forgotten -/
def wipe (σ : St) : List Nat → St
  | [] => σ
  | v :: vs => (wipe σ vs).set v none
theorem wipe_length (σ : St) : ∀ vs : List Nat, (wipe σ vs).length = σ.length
  | [] => rfl
  | v :: vs => by unfold wipe; rw [List.length_set, wipe_length σ vs]
theorem wipe_some {σ : St} {i : Nat} {x : V} : ∀ {vs : List Nat}, (wipe σ vs)[i]? = some (some x) → σ[i]? = some (some x) ∧ i ∉ vs
  | [], h => ⟨h, by simp⟩
  | v :: vs, h => by
    unfold wipe at h
    by_cases hi : v = i
    · subst hi
      by_cases hv : v < (wipe σ vs).length
      · rw [List.getElem?_set_self hv] at h; cases h
      · rw [List.getElem?_eq_none (by simpa using hv)] at h; cases h
    · rw [List.getElem?_set_ne hi] at h
      obtain ⟨h1, h2⟩ := wipe_some h
      exact ⟨h1, by simp only [List.mem_cons, not_or]; exact ⟨fun e => hi e.symm, h2⟩⟩

/-- the context of a block that starts at s, its iterator's objects at fp -/
abbrev Cx.blk (X : Cx) (s : Shared) (H : Hp) (scope : Scope) (cenv : Env) (fp : List Addr) : Cx := { X with s_0 := s, H_0 := H, env := cenv, outer := X.stack, ex := fp, fn := fun x => scope.names.lookup x == some .cell, pn := [], xe := fun _ _ => False }
section
variable {X : Cx} {pins : List (Addr × Obj)} {σ : St} {H : Hp} {s : Shared}
theorem block_start {scope : Scope} {own : List (Str × Nat)} {fp : List Addr} (I : Inv X pins σ H s) (ok : BlkOk X.N X.env.scope scope own) (hN : X.N.Nodup) (hfp : ∀ b ∈ fp, FpOk X pins H b ∧ b < s.heap.objs.size) :
    Inv (X.blk s H scope (compEnvC scope (cellsFrom (s.heap.objs.size + 1) scope.names (cloFrom X.env.cells scope.names [])) s.heap.objs.size X.env) fp) [] (wipe σ (own.map (·.2))) H { s with heap := pushCells (s.heap.push { cls := .type "dict", data := .dict #[] }) scope.names } := by
  have hfree : ∀ y ∈ scope.names, y.2 = .free → ∃ c, X.env.cells.lookup y.1 = some c := fun y hy e => by
    rcases ok.free y hy e with k | k
    · exact I.ok.has _ (.inl k)
    · exact I.ok.has _ (.inr k)
  generalize hcenv : compEnvC scope (cellsFrom (s.heap.objs.size + 1) scope.names (cloFrom X.env.cells scope.names [])) s.heap.objs.size X.env = cenv
  have kp : ∀ b o, s.heap.get? b = some o → (pushCells (s.heap.push { cls := .type "dict", data := .dict #[] }) scope.names).get? b = some o := fun b o e => pushCells_keeps _ _ _ _ (Heap.get?_push_of_some _ e)
  have hL : cenv.locals = s.heap.objs.size := by rw [← hcenv]; rfl
  have hcl : cenv.cells = cellsFrom (s.heap.objs.size + 1) scope.names (cloFrom X.env.cells scope.names []) := by rw [← hcenv]; rfl
  have hsc : cenv.scope = relS scope X.env.scope := by rw [← hcenv]; rfl
  rw [← Heap.size_push s.heap { cls := .type "dict", data := .dict #[] }] at hcl
  have cm : ∀ {y c}, (y, c) ∈ cloFrom X.env.cells scope.names [] → X.env.cells.lookup y = some c ∧ c < s.heap.objs.size := fun {y c} hm => by
    rcases cloFrom_mem hm with hm | ⟨h1, rfl⟩
    · cases hm
    · obtain ⟨c, hc⟩ := hfree _ h1 rfl
      rw [hc]
      obtain ⟨w, z⟩ := I.cell _ _ hc
      exact ⟨rfl, z.lt⟩
  have mem : ∀ {y c}, cenv.cells.lookup y = some c → (X.env.cells.lookup y = some c ∧ c < s.heap.objs.size) ∨ (s.heap.objs.size + 1 ≤ c ∧ CellAt (pushCells (s.heap.push { cls := .type "dict", data := .dict #[] }) scope.names) c none) := fun {y c} e => by
    rw [hcl] at e
    rcases cells_mem (PySem.mem_of_lookup e) with hm | ⟨_, h2, h3⟩
    · exact .inl (cm hm)
    · rw [Heap.size_push] at h2; exact .inr ⟨h2, h3⟩
  have look : ∀ {y}, scope.names.lookup y = some .free → ∃ c, cenv.cells.lookup y = some c ∧ X.env.cells.lookup y = some c := fun {y} hl => by
    have hy : (y, NameKind.free) ∈ scope.names := PySem.mem_of_lookup hl
    obtain ⟨c', e'⟩ := mem_lookup (cells_acc (names := scope.names) (n := (s.heap.push { cls := .type "dict", data := .dict #[] }).objs.size) (cloFrom_has (cells := X.env.cells) (acc := []) hy))
    rw [← hcl] at e'
    refine ⟨c', e', ?_⟩
    rw [hcl] at e'
    rcases cells_mem (PySem.mem_of_lookup e') with hm | ⟨h1, _, _⟩
    · exact (cm hm).1
    · have := ok.uniq _ h1
      rw [hl] at this; cases this
  have okB : (X.blk s H scope cenv fp).Ok := by
    refine ⟨I.ok.mod, by show cenv.scope.kind = _; rw [hsc]; exact ok.kind, by show cenv.globals = _; rw [← hcenv]; exact I.ok.glob, by show cenv.builtins = _; rw [← hcenv]; exact I.ok.blt, by show s.heap.objs.size ≤ cenv.locals; rw [hL]; exact Nat.le_refl _,
      fun y z c e1 e2 => ?_, fun y hy => ?_, fun y c z e => ?_, I.ok.hd, I.ok.frames, .inl rfl, fun b hb => ⟨?_, fun y c e z => ?_⟩, I.bs, Nat.le_trans I.ok.bsz I.sz, fun b o e hb => ?_, fun b hb z => ?_, I.stack, I.stkFree⟩
    · have e1 : cenv.cells.lookup y = some c := e1
      have e2 : cenv.cells.lookup z = some c := e2
      rw [hcl] at e1 e2
      refine cells_inj (fun p hp => ?_) (fun y z c a b => I.ok.inj y z c (cm a).1 (cm b).1) (PySem.mem_of_lookup e1) (PySem.mem_of_lookup e2)
      rw [Heap.size_push]
      exact Nat.lt_succ_of_lt (cm (y := p.1) (c := p.2) hp).2
    · show ∃ c, cenv.cells.lookup y = some c
      have key : ∀ k, cenv.kindOf y = some k → (k = .cell ∨ k = .free) → ∃ c, cenv.cells.lookup y = some c := fun k hk hk' => by
        unfold Env.kindOf at hk
        rw [hsc] at hk
        obtain ⟨k', e, r⟩ := lookup_relS hk
        have : k' = .cell ∨ k' = .free := by
          rcases r with rfl | ⟨rfl, _⟩
          · exact hk'
          · exact .inr rfl
        rcases this with rfl | rfl
        · obtain ⟨c, hm⟩ := cells_has (n := (s.heap.push { cls := .type "dict", data := .dict #[] }).objs.size) (acc := cloFrom X.env.cells scope.names []) (PySem.mem_of_lookup e)
          obtain ⟨c', e'⟩ := mem_lookup hm
          exact ⟨c', by rw [hcl]; exact e'⟩
        · obtain ⟨c, h1, _⟩ := look e
          exact ⟨c, h1⟩
      rcases hy with hy | hy
      · exact key _ hy (.inl rfl)
      · exact key _ hy (.inr rfl)
    · have z : (scope.names.lookup y == some NameKind.cell) = true := z
      have z : scope.names.lookup y = some .cell := by simpa using z
      have e : cenv.cells.lookup y = some c := e
      rw [hcl] at e
      rcases cells_mem (PySem.mem_of_lookup e) with hm | ⟨_, h2, _⟩
      · rcases cloFrom_mem hm with hm | ⟨h1, _⟩
        · cases hm
        · have q := ok.uniq _ h1
          rw [z] at q; cases q
      · rw [Heap.size_push] at h2
        exact Nat.le_of_succ_le h2
    · show b ≠ cenv.locals
      rw [hL]; exact Nat.ne_of_lt (hfp b hb).2
    · have e : cenv.cells.lookup y = some c := e
      rcases mem e with ⟨h1, _⟩ | ⟨h1, _⟩
      · exact (hfp b hb).1.2.2.2.2.1 y c h1 z
      · have h2 : s.heap.objs.size + 1 ≤ b := by rw [← z]; exact h1
        exact absurd (Nat.lt_of_lt_of_le (hfp b hb).2 (Nat.le_of_succ_le h2)) (Nat.lt_irrefl _)
    · rcases (hfp b hb).1.2.2.2.1 with z | z
      · exact I.ok.noex b o e z
      · exact absurd (Nat.lt_of_lt_of_le (Heap.lt_size e) (Nat.le_trans I.ok.bsz z)) (Nat.lt_irrefl _)
    · rcases List.mem_cons.mp (I.stkSub b z) with z | z
      · exact (hfp b hb).1.2.1 z
      · exact (hfp b hb).1.2.2.1 z
  refine ⟨okB, rfl, I.bare, Un.kept kp, ⟨fun _ => none, ?_, fun i y av e1 e2 e3 => ?_⟩, fun y c e => ?_, ?_, fun y c e => ?_, fun p hp => ?_, I.hok.kept kp, by rw [wipe_length]; exact I.len⟩
  · show Heap.Ns _ cenv.locals _
    rw [hL]
    exact Heap.Ns.keeps (Heap.Ns.new ..) fun b o e => pushCells_keeps _ _ _ _ e
  · obtain ⟨e2, hne⟩ := wipe_some e2
    have hfr : scope.names.lookup y = some .free ∧ (cenv.kindOf y = some .cell ∨ cenv.kindOf y = some .free) := by
      have key : ∀ k, cenv.scope.names.lookup y = some k → k = .local ∨ k = .cell ∨ k = .free → scope.names.lookup y = some .free ∧ (cenv.kindOf y = some .cell ∨ cenv.kindOf y = some .free) := fun k hk hk' => by
        have hk0 := hk
        rw [hsc] at hk
        obtain ⟨k', e, r⟩ := lookup_relS hk
        have no : ¬ (k' = .local ∨ k' = .cell) := fun hh => by
          rcases ok.own _ (PySem.mem_of_lookup e) hh with e' | e'
          · obtain ⟨p, hp, hpy⟩ := List.mem_map.mp e'
            have e3 := ok.ix p hp
            have : p.1 = y := hpy
            rw [this] at e3
            exact hne (List.mem_map.mpr ⟨p, hp, nodup_ix hN e3 e1⟩)
          · exact e' (List.mem_of_getElem? e1)
        rcases r with rfl | ⟨rfl, rfl⟩
        · rcases hk' with rfl | rfl | rfl
          · exact absurd (.inl rfl) no
          · exact absurd (.inr rfl) no
          · exact ⟨e, .inr hk0⟩
        · exact ⟨e, .inl hk0⟩
      have e3 : Vis cenv.scope y := e3
      rcases e3 with e3 | e3 | e3
      · exact key _ e3 (.inl rfl)
      · exact key _ e3 (.inr (.inl rfl))
      · exact key _ e3 (.inr (.inr rfl))
    obtain ⟨m, hn, hl⟩ := I.loc
    have hvis : Vis X.env.scope y := (ok.free _ (PySem.mem_of_lookup hfr.1) rfl).elim (fun k => .inr (.inl k)) (fun k => .inr (.inr k))
    obtain ⟨w, r, q⟩ := hl i y av e1 e2 hvis
    refine ⟨w, r, .inr ⟨hfr.2, ?_⟩⟩
    obtain ⟨c, h1, h2⟩ := look hfr.1
    rcases q with ⟨k, _⟩ | ⟨_, c', e', z⟩
    · have k : X.env.scope.names.lookup y = some .local := k
      rcases ok.free _ (PySem.mem_of_lookup hfr.1) rfl with k' | k' <;> rw [show X.env.scope.names.lookup y = _ from k'] at k <;> cases k
    · rw [h2] at e'; cases e'
      exact ⟨c, h1, z.keeps kp⟩
  · have e : cenv.cells.lookup y = some c := e
    rcases mem e with ⟨h1, _⟩ | ⟨_, z⟩
    · obtain ⟨w, z⟩ := I.cell y c h1
      exact ⟨w, z.keeps kp⟩
    · exact ⟨_, z⟩
  · show H cenv.locals = none
    rw [hL]; exact I.hok.fresh (Nat.le_refl _)
  · have e : cenv.cells.lookup y = some c := e
    rcases mem e with ⟨h1, _⟩ | ⟨h1, _⟩
    · exact I.freeC y c h1
    · exact I.hok.fresh (Nat.le_of_succ_le h1)
  · exact absurd (show p ∈ ([] : List (Addr × Obj)) ++ [] from hp) (by simp)

/-- an item appended to a tracked list -/
theorem app_ok {E : Value → Shared → Prop} {D : Addr} {xs : List V} {y : V} {v : Value} {Q : Value → Shared → Prop} (I : Inv X pins σ H s) (hD : H D = some (.lst xs)) (hz : xs.length < sizeLine) (r : RelV y v)
    (h : ∀ s', Inv X pins σ (upd H D (.lst (xs ++ [y]))) s' → Q .none s') : wpAny (model X.prog X.w) X.A (call (.builtin "list.append") [.ref D, v]) Q E s := by
  obtain ⟨hz', its, n, ri, e⟩ := I.hok D _ hD
  have hl := ri.length
  refine append_at (hsz := by rw [List.size_toArray]; omega) e fun h' sb ho' => ?_
  refine h { s with heap := h' } (I.write (t' := s.toks) (by rw [hD]; trivial) (.inl rfl) (fun b u hb q => (sb.2 b hb).trans q) ⟨_, ho'⟩ ⟨by rw [List.length_append]; exact hz, its ++ [v], n + 1, ri.append (.cons r .nil), ?_⟩)
  rw [ho']
  simp

/-- a clause's tests -/
def PTs (X : Cx) (ifs : List Expr) (t : TT) : Prop :=
  ∀ (pins : List (Addr × Obj)) (s : Shared) (σ : St) (H : Hp) (Q : Bool → Hp → Prop), Inv X pins σ H s → t σ H Q →
    wpAny (model X.prog X.w) X.A (forIn ifs true fun c r => if r = true then do let ok ← isTrue c X.env (eval c X.env); pure (ForInStep.yield ok) else pure (ForInStep.yield r)) (TP X pins σ Q) X.xe s
def tYes : TT := fun _ H Q => Q true H
theorem pts_nil : PTs X [] tYes := fun _ _ _ H _ I h => wpAny_tests_nil ⟨H, I, h⟩
theorem pts_one {c : Expr} {t : TT} (h : PT X c t) : PTs X [c] t := fun pins s σ H Q I hw => wpAny_tests_one (h pins s σ H Q I hw)
end

theorem thnF {α : Type} {t : Sem α} {Q Q' : α → Shared → Prop} {M : Model} {A : Around} {E : Value → Shared → Prop} {s : Shared} (h : wpAny M A t Q (fun _ _ => False) s) (hQ : ∀ a s, Q a s → Q' a s) : wpAny M A t Q' E s := wpAny_mono h hQ fun _ _ z => False.elim z

/-- the loop of a list comprehension's block, the target of any form (codeAny_compLoop_tests asks a target that no tuple goes to; statement and proof follow it, PyProof/CompMap.lean:41-61, with the step letOwnedTupleGo kept) -/
theorem compLoop_any {prog : Program} {w : World} {A : Around} {R : Result → Shared → Prop} {s : Shared} {elt target iter : Expr} {ifs : List Expr} {scope : Scope} {pos : Pos} {it acc : Value} {env : Env} (I : Nat → Shared → Prop)
    (turn : ∀ n s, I n s → wpAny (model prog w) A (pyNext it) (fun r s₁ => match r with
      | none => R (.ok .next) s₁
      | some v => wpAny (model prog w) A (letOwnedTupleGo target it v) (fun _ s₁' => wpAny (model prog w) A (assign target env v) (fun _ s₂ =>
          wpAny (model prog w) A (forIn ifs true fun c r => if r = true then do let ok ← isTrue c env (eval c env); pure (ForInStep.yield ok) else pure (ForInStep.yield r)) (fun ok s₃ =>
            if ok = true then wpAny (model prog w) A (eval elt env) (fun x s₄ =>
              wpAny (model prog w) A (call (.builtin "list.append") [acc, x]) (fun _ s₅ => ∃ m, m < n ∧ I m s₅) (notedBy (model prog w) A env fun e s' => R (.error e) s') s₄) (notedBy (model prog w) A env fun e s' => R (.error e) s') s₃
            else ∃ m, m < n ∧ I m s₃) (notedBy (model prog w) A env fun e s' => R (.error e) s') s₂) (notedBy (model prog w) A env fun e s' => R (.error e) s') s₁') (notedBy (model prog w) A env fun e s' => R (.error e) s') s₁) (notedBy (model prog w) A env fun e s' => R (.error e) s') s)
    (n : Nat) (h : I n s) :
    codeAny (model prog w) A (.compLoop (.ListComp elt [⟨target, iter, ifs, 0⟩] scope pos) 0 it acc env) R s := by
  refine codeAny_loop rfl I (fun n s hI => ?_) n h
  show wpAny _ A ((compTurn (.ListComp elt [⟨target, iter, ifs, 0⟩] scope pos) 0 it acc env).onRaise (fun x => do noteFrame x env; theTreesLotGoes x)) _ _ s
  refine wpAny_noted ?_
  rw [compTurn_list]
  refine wpAny_bind (wpAny_standAt (wpAny_bind (wpAny_mono (turn n s hI) (fun r s₁ h₁ => ?_) fun _ _ h' => h')))
  cases r with
  | none => exact wpAny_pure h₁
  | some v =>
    refine wpAny_bind (wpAny_mono h₁ (fun _ s₁' h₁' => ?_) fun _ _ h' => h')
    refine wpAny_bind (wpAny_mono h₁' (fun _ s₂ h₂ => wpAny_bind (wpAny_mono h₂ (fun ok s₃ h₃ => ?_) fun _ _ h' => h')) fun _ _ h' => h')
    cases ok with
    | false => exact wpAny_pure ⟨rfl, h₃⟩
    | true =>
      exact wpAny_bind (wpAny_bind (wpAny_mono h₃ (fun x s₄ h₄ => wpAny_bind (wpAny_mono h₄ (fun _ s₅ h₅ => wpAny_pure (wpAny_pure ⟨rfl, h₅⟩)) fun _ _ h' => h')) fun _ _ h' => h'))

section
variable {X : Cx}
/-- [elt for target in iter if ..]: D the new list; W by the turn and a measure, Nx what a turn is to reach -/
def tLc (wi : TI) (g : TG) (tt : TT) (te : TE) (vs : List Nat) : TE := fun σ H Q => wi σ H fun J H1 => ∀ D, H1 D = none → ∃ W : Nat → Nat → Hp → Prop, (∃ m, W 0 m (upd H1 D (.lst []))) ∧ ∀ i m H, W i m H →
  (J.stop i H ∧ Q (.ref D) H) ∨ (J.go i H ∧ ∃ Nx : Hp → Prop, (∀ H', Nx H' → ∃ m', m' < m ∧ W (i + 1) m' H') ∧ ∀ x H', J.yld i H x H' → g x (wipe σ vs) H' fun σ2 H2 => wipe σ2 vs = wipe σ vs ∧ tt σ2 H2 fun b H3 =>
    if b = true then te σ2 H3 fun y H4 => ∃ acc, H4 D = some (.lst acc) ∧ acc.length < sizeLine ∧ Nx (upd H4 D (.lst (acc ++ [y]))) else Nx H3)
theorem lc_core {pins : List (Addr × Obj)} {s : Shared} {σ : St} {H : Hp} {Q : VK} {elt tg iter : Expr} {ifs : List Expr} {scope : Scope} {own : List (Str × Nat)} {pos pos' : Pos} {wi : TI} {g : TG} {tt : TT} {te : TE} {use : Option (Value → Sem Unit)} {Qf : Value → Shared → Prop}
    (hc : X.calm = true) (hN : X.N.Nodup) (I : Inv X pins σ H s) (hi : PI X tg iter wi) (ok : BlkOk X.N X.env.scope scope own)
    (hg : ∀ (s : Shared) (H : Hp) (C : Addr) (cl : List (Str × Addr)) (fp : List Addr), PG (X.blk s H scope (compEnvC scope cl C X.env) fp) tg g) (ht : ∀ (s : Shared) (H : Hp) (C : Addr) (cl : List (Str × Addr)) (fp : List Addr), PTs (X.blk s H scope (compEnvC scope cl C X.env) fp) ifs tt)
    (he : ∀ (s : Shared) (H : Hp) (C : Addr) (cl : List (Str × Addr)) (fp : List Addr), PE (X.blk s H scope (compEnvC scope cl C X.env) fp) elt te) (hs : ∀ x, foldedSetIterable iter X.env x = pure x)
    (h : tLc wi g tt te (own.map (·.2)) σ H Q)
    (hRR : ∀ D C s' m H', Inv X pins σ H' s' → Q (.ref D) H' → s'.heap.Ns C m → FpOk X pins H' C → compPost (model X.prog X.w) X.A X.xe use Qf (.ref D) C (.ok .next) s') :
    wpAny (model X.prog X.w) X.A (comprehension (.ListComp elt [⟨tg, iter, ifs, 0⟩] scope pos) scope X.env pos' (newList []) false (eval iter X.env) use) Qf X.xe s := by
  have hfree : ∀ y ∈ scope.names, y.2 = .free → ∃ c, X.env.cells.lookup y.1 = some c := fun y hy e => by
    rcases ok.free y hy e with k | k
    · exact I.ok.has _ (.inl k)
    · exact I.ok.has _ (.inr k)
  refine wpAny_comprehension_free (use := use) rfl hs (closure_ok hfree) ok.kind (fun y hy e => by rw [ok.uniq y hy, e])
    (thn (hi pins s σ H _ I h) fun xv s1 hx => thn hx fun itv s2 h2 => ?_)
  obtain ⟨it, fp, tn, J, H2, e, I2, T, st2, f2, q⟩ := h2
  subst e
  refine wpAny_newObj_type (newEnv_comp ?_) (by show 0 ≤ sizeLine; decide)
  generalize hD : s2.heap.objs.size = D
  have hDn : H2 D = none := I2.hok.fresh (Nat.le_of_eq hD)
  obtain ⟨W, ⟨m0, w0⟩, turn⟩ := q D hDn
  -- the new list
  generalize hs3 : ({ s2 with heap := s2.heap.push { cls := .type "list", data := .seq ([] : List Value).toArray } } : Shared) = s3
  have I3 : Inv X pins σ (upd H2 D (.lst [])) s3 := by
    rw [← hs3]
    refine I2.laid (t' := s2.toks) (fun b o e => Heap.get?_push_of_some _ e) (Nat.le_of_eq hD) ⟨Nat.zero_le _, [], 0, .nil, ?_⟩
    rw [← hD]
    exact Heap.get?_push_size _ rfl
  have h3 : s3.heap = s2.heap.push { cls := .type "list", data := .seq ([] : List Value).toArray } := by rw [← hs3]
  have sz : ∀ b ∈ fp, b < s2.heap.objs.size := fun b hb => by
    obtain ⟨o, e, _⟩ := T.obj _ _ st2 b hb
    exact Heap.lt_size e
  have f3 : ∀ b ∈ fp, FpOk X pins (upd H2 D (.lst [])) b ∧ b < s3.heap.objs.size := fun b hb => by
    have hlt := sz b hb
    refine ⟨⟨?_, (f2 b hb).2⟩, by rw [h3, Heap.size_push]; exact Nat.lt_succ_of_lt hlt⟩
    rw [upd_ne (by rw [← hD]; exact Nat.ne_of_lt hlt)]
    exact (f2 b hb).1
  have st3 : tn 0 s3.heap := T.keep _ _ _ st2 fun b _ o e => by rw [h3]; exact Heap.get?_push_of_some _ e
  have I4 := block_start I3 ok hN f3
  have pg := hg s3 (upd H2 D (.lst [])) s3.heap.objs.size (cellsFrom (s3.heap.objs.size + 1) scope.names (cloFrom X.env.cells scope.names [])) fp
  have pt := ht s3 (upd H2 D (.lst [])) s3.heap.objs.size (cellsFrom (s3.heap.objs.size + 1) scope.names (cloFrom X.env.cells scope.names [])) fp
  have pe := he s3 (upd H2 D (.lst [])) s3.heap.objs.size (cellsFrom (s3.heap.objs.size + 1) scope.names (cloFrom X.env.cells scope.names [])) fp
  show codeAny _ _ (.compStart (.ListComp elt [⟨tg, iter, ifs, 0⟩] scope pos) 0 (.ref it) (.ref D) (compEnvC scope (cellsFrom (s3.heap.objs.size + 1) scope.names (cloFrom X.env.cells scope.names [])) s3.heap.objs.size X.env)) (compPost (model X.prog X.w) X.A X.xe use Qf (.ref D) s3.heap.objs.size) { s3 with heap := pushCells (s3.heap.push { cls := .type "dict", data := .dict #[] }) scope.names }
  have nfp : ∀ b ∈ fp, (upd H2 D (.lst [])) b = none := fun b hb => (f3 b hb).1.1
  generalize hce : compEnvC scope (cellsFrom (s3.heap.objs.size + 1) scope.names (cloFrom X.env.cells scope.names [])) s3.heap.objs.size X.env = ce at I4 pg pt pe ⊢
  have cL : ce.locals = s3.heap.objs.size := by subst hce; rfl
  generalize hH3 : upd H2 D (.lst []) = H3 at I3 I4 pg pt pe w0 nfp f3
  generalize hs4 : ({ s3 with heap := pushCells (s3.heap.push { cls := .type "dict", data := .dict #[] }) scope.names } : Shared) = s4 at I4 ⊢
  have st4 : tn 0 s4.heap := T.keep _ _ _ st3 fun b _ o e => by rw [← hs4]; exact pushCells_keeps _ _ _ _ (Heap.get?_push_of_some _ e)
  have stat : ∀ {σ' : St} {H' : Hp} {s' : Shared}, Inv (X.blk s3 H3 scope ce fp) [] σ' H' s' → (∀ b ∈ fp, H' b = none) → ∀ b ∈ fp, FpOk (X.blk s3 H3 scope ce fp) [] H' b := fun {σ' H' s'} I' hn b hb =>
    ⟨hn b hb, (I'.ok.exf b hb).1, I'.ok.exfs b hb, .inl hb, fun x c e => (I'.ok.exf b hb).2 x c e, fun p hp => absurd (show p ∈ ([] : List (Addr × Obj)) ++ [] from hp) (by simp)⟩
  have loop : codeAny (model X.prog X.w) X.A (.compLoop (.ListComp elt [⟨tg, iter, ifs, 0⟩] scope pos) 0 (.ref it) (.ref D) ce) (compPost (model X.prog X.w) X.A X.xe use Qf (.ref D) s3.heap.objs.size) s4 := by
    refine compLoop_any (fun n s' => ∃ i H', Inv (X.blk s3 H3 scope ce fp) [] (wipe σ (own.map (·.2))) H' s' ∧ tn i s'.heap ∧ (∀ b ∈ fp, H' b = none) ∧ W i n H') ?_ m0 ⟨0, H3, I4, st4, nfp, w0⟩
    rintro n s5 ⟨i, H5, I5, st5, n5, w5⟩
    rcases turn i n H5 w5 with ⟨stop, qq⟩ | ⟨go, Nx, hNx, step⟩
    · have td := T.done (X.blk s3 H3 scope ce fp) rfl rfl rfl hc i [] s5 _ H5 (fun _ _ => False) I5 (stat I5 n5) st5 stop
      refine thnF td fun r s6 ⟨hr, I6⟩ => ?_
      subst hr
      -- back in the def's context
      have I7 : Inv X pins σ H5 s6 := I3.call' (ch := fp) I6.os I6.base I6.hok I6.bare fun b hb => ⟨(f3 b hb).1.2.2.2.1, (f3 b hb).1.2.1, (f3 b hb).1.2.2.2.2.1, (f3 b hb).1.2.2.2.2.2⟩
      have nC : H5 s3.heap.objs.size = none := by
        have z : H5 ce.locals = none := I6.free
        rw [cL] at z
        exact z
      obtain ⟨m, hn, _⟩ := I6.loc
      have hn : s6.heap.Ns ce.locals m := hn
      rw [cL] at hn
      exact hRR D s3.heap.objs.size s6 m H5 I7 qq hn (I3.fpOk (Nat.le_refl _) nC)
    · have ti := T.item (X.blk s3 H3 scope ce fp) rfl rfl rfl hc i [] s5 _ H5 (fun _ _ => False) I5 (stat I5 n5) st5 go
      refine thnF ti fun r s6 ⟨u, hr, h6⟩ => ?_
      subst hr
      refine thnF h6 fun _ s7 ⟨x, H7, I7, r7, y7, st7, n7⟩ => ?_
      have I7' := I7.pinned (stat I7 n7) (T.obj _ _ st7)
      refine thnF (pg _ s7 _ H7 x u _ I7' r7 (step x H7 y7)) fun _ s8 ⟨σ8, H8, I8, hw8, q8⟩ => ?_
      refine thnF (pt _ s8 σ8 H8 _ I8 q8) fun b s9 ⟨H9, I9, q9⟩ => ?_
      -- the turn's end
      have fin : ∀ {s' : Shared} {H' : Hp}, Inv (X.blk s3 H3 scope ce fp) ([] ++ pinsAt fp s7.heap) σ8 H' s' → Nx H' → ∃ m, m < n ∧ ∃ i H', Inv (X.blk s3 H3 scope ce fp) [] (wipe σ (own.map (·.2))) H' s' ∧ tn i s'.heap ∧ (∀ b ∈ fp, H' b = none) ∧ W i m H' := fun {s' H'} I' nx => by
        obtain ⟨m', hm, w'⟩ := hNx H' nx
        have pin' : ∀ b ∈ fp, ∀ o, s7.heap.get? b = some o → s'.heap.get? b = some o ∧ H' b = none := fun b hb o e =>
          let z := I'.pin (b, o) (List.mem_append_right _ (List.mem_append_right _ (mem_pinsAt hb e)))
          ⟨z.1, z.2.1⟩
        have hl : (wipe σ (own.map (·.2))).length = σ8.length := by rw [← hw8, wipe_length]
        refine ⟨m', hm, i + 1, H', (I'.unpinned (pins := [])).weak hl (fun j v e => ?_), T.keep _ _ _ st7 fun b hb o e => (pin' b hb o e).1, fun b hb => ?_, w'⟩
        · rw [← hw8] at e
          exact (wipe_some e).1
        · obtain ⟨o, e, _⟩ := T.obj _ _ st7 b hb
          exact (pin' b hb o e).2
      cases b with
      | false =>
        simp only [Bool.false_eq_true, if_false] at q9 ⊢
        exact fin I9 q9
      | true =>
        simp only [if_true] at q9 ⊢
        refine thnF (pe _ s9 σ8 H9 _ I9 q9) fun z s10 ⟨yv, H10, I10, r10, acc, hD10, hz10, nx⟩ => ?_
        exact app_ok (X := X.blk s3 H3 scope ce fp) I10 hD10 hz10 r10 fun s11 I11 => fin I11 nx
  exact codeAny_compStart_list loop (T.self X.A 0 _ _ _ st4 loop)
/-- as a value -/
theorem pe_lc {elt tg iter : Expr} {ifs : List Expr} {scope : Scope} {own : List (Str × Nat)} {pos : Pos} {wi : TI} {g : TG} {tt : TT} {te : TE} (hc : X.calm = true) (hN : X.N.Nodup) (hi : PI X tg iter wi) (ok : BlkOk X.N X.env.scope scope own)
    (hg : ∀ (s : Shared) (H : Hp) (C : Addr) (cl : List (Str × Addr)) (fp : List Addr), PG (X.blk s H scope (compEnvC scope cl C X.env) fp) tg g) (ht : ∀ (s : Shared) (H : Hp) (C : Addr) (cl : List (Str × Addr)) (fp : List Addr), PTs (X.blk s H scope (compEnvC scope cl C X.env) fp) ifs tt)
    (he : ∀ (s : Shared) (H : Hp) (C : Addr) (cl : List (Str × Addr)) (fp : List Addr), PE (X.blk s H scope (compEnvC scope cl C X.env) fp) elt te) (hs : ∀ x, foldedSetIterable iter X.env x = pure x := by intro _; rfl) :
    PE X (.ListComp elt [⟨tg, iter, ifs, 0⟩] scope pos) (tLc wi g tt te (own.map (·.2))) := by
  intro pins s σ H Q I h
  rw [eval_ListComp]
  refine lc_core hc hN I hi ok hg ht he hs h fun D C s' m H' I' q hn f => ⟨m, hn, fun h'' sb => ?_⟩
  obtain ⟨f0, f1, f2, f3, f4, f5⟩ := f
  exact ⟨.ref D, H', I'.turned (t' := s'.toks) (fun b o hb e => (sb.2 b hb).trans e) f0 f1 f3 f4 f5, rfl, q⟩
end

/-! ### the forms one uses -/
/-- over a range: Pv by the turn and the heap (the new list at D within) -/
theorem lc_range {lo : Int} {n : Nat} {g : TG} {tt : TT} {te : TE} {vs : List Nat} {σ : St} {H1 : Hp} {D : Addr} {Qd : Hp → Prop} (Pv : Nat → Hp → Prop) (h0 : Pv 0 (upd H1 D (.lst [])))
    (hs : ∀ i H, i < n → Pv i H → g (.int (lo + i)) (wipe σ vs) H fun σ2 H2 => wipe σ2 vs = wipe σ vs ∧ tt σ2 H2 fun b H3 =>
      if b = true then te σ2 H3 fun y H4 => ∃ acc, H4 D = some (.lst acc) ∧ acc.length < sizeLine ∧ Pv (i + 1) (upd H4 D (.lst (acc ++ [y]))) else Pv (i + 1) H3) (hd : ∀ H, Pv n H → Qd H) :
    ∃ W : Nat → Nat → Hp → Prop, (∃ m, W 0 m (upd H1 D (.lst []))) ∧ ∀ i m H, W i m H →
      ((Itr lo n).stop i H ∧ Qd H) ∨ ((Itr lo n).go i H ∧ ∃ Nx : Hp → Prop, (∀ H', Nx H' → ∃ m', m' < m ∧ W (i + 1) m' H') ∧ ∀ x H', (Itr lo n).yld i H x H' → g x (wipe σ vs) H' fun σ2 H2 => wipe σ2 vs = wipe σ vs ∧ tt σ2 H2 fun b H3 =>
        if b = true then te σ2 H3 fun y H4 => ∃ acc, H4 D = some (.lst acc) ∧ acc.length < sizeLine ∧ Nx (upd H4 D (.lst (acc ++ [y]))) else Nx H3) := by
  refine ⟨fun i m H => m = n - i ∧ i ≤ n ∧ Pv i H, ⟨n, by simp, Nat.zero_le _, h0⟩, ?_⟩
  rintro i m H ⟨rfl, hi, p⟩
  by_cases hlt : i < n
  · refine .inr ⟨hlt, Pv (i + 1), fun H' p' => ⟨n - (i + 1), by omega, rfl, hlt, p'⟩, fun x H' y => ?_⟩
    obtain ⟨e, y⟩ := y
    subst e y
    exact hs i _ hlt p
  · have e : i = n := by omega
    subst e
    exact .inl ⟨Nat.le_refl _, hd H p⟩
/-- over a list that the block leaves as it is -/
theorem lc_list {K : PySem.W.Frag} {a : Addr} {xs : List V} {g : TG} {tt : TT} {te : TE} {vs : List Nat} {σ : St} {H1 : Hp} {D : Addr} {Qd : Hp → Prop} (Pv : Nat → Hp → Prop) (h0 : Pv 0 (upd H1 D (.lst []))) (hl : ∀ i H, i ≤ xs.length → Pv i H → SqL K H a xs)
    (hs : ∀ i x H, xs[i]? = some x → Pv i H → g x (wipe σ vs) H fun σ2 H2 => wipe σ2 vs = wipe σ vs ∧ tt σ2 H2 fun b H3 =>
      if b = true then te σ2 H3 fun y H4 => ∃ acc, H4 D = some (.lst acc) ∧ acc.length < sizeLine ∧ Pv (i + 1) (upd H4 D (.lst (acc ++ [y]))) else Pv (i + 1) H3) (hd : ∀ H, Pv xs.length H → Qd H) :
    ∃ W : Nat → Nat → Hp → Prop, (∃ m, W 0 m (upd H1 D (.lst []))) ∧ ∀ i m H, W i m H →
      ((Itl K a).stop i H ∧ Qd H) ∨ ((Itl K a).go i H ∧ ∃ Nx : Hp → Prop, (∀ H', Nx H' → ∃ m', m' < m ∧ W (i + 1) m' H') ∧ ∀ x H', (Itl K a).yld i H x H' → g x (wipe σ vs) H' fun σ2 H2 => wipe σ2 vs = wipe σ vs ∧ tt σ2 H2 fun b H3 =>
        if b = true then te σ2 H3 fun y H4 => ∃ acc, H4 D = some (.lst acc) ∧ acc.length < sizeLine ∧ Nx (upd H4 D (.lst (acc ++ [y]))) else Nx H3) := by
  refine ⟨fun i m H => m = xs.length - i ∧ i ≤ xs.length ∧ Pv i H, ⟨xs.length, by simp, Nat.zero_le _, h0⟩, ?_⟩
  rintro i m H ⟨rfl, hi, p⟩
  have q := hl i H hi p
  by_cases hlt : i < xs.length
  · refine .inr ⟨⟨xs, xs[i], q, by simp [hlt]⟩, Pv (i + 1), fun H' p' => ⟨xs.length - (i + 1), by omega, rfl, hlt, p'⟩, fun x H' y => ?_⟩
    obtain ⟨e, y⟩ := y
    subst e
    exact hs i x _ (y xs q) p
  · have e : i = xs.length := by omega
    subst e
    exact .inl ⟨⟨xs, q, Nat.le_refl _⟩, hd H p⟩
end L2

namespace L2
open PySem PySem.Spec PyProof.Rows

section
variable {prog : Program} {w : World} {A : Around} {R : Result → Shared → Prop} {s : Shared} {elt t0 i0 t1 i1 : Expr} {ifs0 ifs1 : List Expr} {scope : Scope} {pos : Pos} {it acc : Value} {env : Env}
end

section
variable {X : Cx}
end
end L2

namespace L2
open PySem PySem.Spec PyProof.Rows

/-! ### lists of pairs as tables -/
section
variable {κ : Type} [DecidableEq κ]
end


/-! ### a tracked dict, its keys ints and texts or tuples of these -/
section
variable {P : Program} {w : World} {H : Hp} {h : Heap} {a : Addr}
end

section
variable {X : Cx} {pins : List (Addr × Obj)} {σ : St} {H : Hp} {s : Shared} {a : Addr} {y v : V} {u r : Value} {o : Option V} {A : Around} {E : Value → Shared → Prop}

end

section
variable {X : Cx} {pins : List (Addr × Obj)} {σ : St} {H : Hp} {s : Shared} {a : Addr} {kvs : List (Key × V)} {k : Key} {u : Value} {A : Around} {E : Value → Shared → Prop}
end


/-! ### readings and rules -/
section
variable {X : Cx} {o i e value : Expr} {pos pos' tpos : Pos} {td ty tv : TE}
end


/-! ### displays -/
section
variable {X : Cx} {pos : Pos}
end

/-! ### methods -/
/-- a method call o.m(e) of a built-in, with one argument: what must be seen of the text -/
structure M1 (X : Cx) (o : Expr) (m : Str) (apos : Pos) (e : Expr) (cpos : Pos) : Prop where
  base : attributeBase o m X.env (eval o X.env) = eval o X.env
  few : ((backTo cpos (starEach [e] X.env)).all (fun x => !x.1) && (backToKw cpos (keywordEach [] X.env)).all (fun x => x.1.isSome)
    && decide (([e] : List Expr).length + ([] : List Keyword).length + (if ([] : List Keyword).isEmpty then 0 else 1) < 30)) = true
  line : (apos.endLine == cpos.line) = true
  trees : backTo cpos (starEach [e] X.env) = [(false, eval e X.env)]
structure M2 (X : Cx) (o : Expr) (m : Str) (apos : Pos) (e f : Expr) (cpos : Pos) : Prop where
  base : attributeBase o m X.env (eval o X.env) = eval o X.env
  few : ((backTo cpos (starEach [e, f] X.env)).all (fun x => !x.1) && (backToKw cpos (keywordEach [] X.env)).all (fun x => x.1.isSome)
    && decide (([e, f] : List Expr).length + ([] : List Keyword).length + (if ([] : List Keyword).isEmpty then 0 else 1) < 30)) = true
  line : (apos.endLine == cpos.line) = true
  trees : backTo cpos (starEach [e, f] X.env) = [(false, eval e X.env), (false, eval f X.env)]

section
variable {X : Cx} {pins : List (Addr × Obj)} {σ : St} {H : Hp} {s : Shared} {a : Addr} {y d : V} {u r : Value} {o : Option V} {A : Around} {E : Value → Shared → Prop}
end

section
variable {X : Cx} {o e f : Expr} {apos cpos : Pos} {td ty tx : TE}
end

/-! ### dict(d): a copy -/
section
variable {X : Cx} {pins : List (Addr × Obj)} {σ : St} {H : Hp} {s : Shared} {a : Addr} {kvs : List (Key × V)} {A : Around} {E : Value → Shared → Prop}
end


section
variable {X : Cx} {pins : List (Addr × Obj)} {σ : St} {H : Hp} {s : Shared} {a : Addr} {y : V} {u : Value} {A : Around} {E : Value → Shared → Prop}
end
end L2

namespace L2
open PySem PySem.Spec PyProof.Rows

section
variable {prog : Program} {w : World} {A : Around} {E : Value → Shared → Prop}
end

section
variable {X : Cx}
end
end L2

namespace L2
open PySem PySem.Spec PyProof.Rows

section
variable {X : Cx} {pins : List (Addr × Obj)} {σ : St} {H : Hp} {s : Shared} {h' : Heap}
/-! ### locking a thing while a statement runs -/
end
section
variable {X : Cx}
/-! ### one iterator just laid -/
theorem pi_one {tg : Expr} {pins : List (Addr × Obj)} {σ : St} {H : Hp} {s : Shared} {R : It → Hp → Prop} {J : It} {tn : Nat → Heap → Prop} {tk : Nat} (I : Inv X pins σ H s) (o : Obj)
    (T : Turn X.prog X.w X.K tg J [s.heap.objs.size] s.heap.objs.size tn) (st : tn 0 (s.heap.push o)) (q : R J H) : PIE X pins σ tg R (.ref s.heap.objs.size) { s with heap := s.heap.push o, toks := tk } := by
  refine ⟨s.heap.objs.size, [s.heap.objs.size], tn, J, H, rfl, I.kept fun b ob e => Heap.get?_push_of_some _ e, T, st, fun b hb => ?_, q⟩
  have e : b = s.heap.objs.size := by simpa using hb
  subst e
  exact I.fpOk (Nat.le_refl _) (I.hok.fresh (Nat.le_refl _))
end

/-! ### range with a step -/
/-- lo, lo + c, .. (n of them) -/
def Itc (lo c : Int) (n : Nat) : It := ⟨fun i _ => i < n, fun i H x H' => H' = H ∧ x = .int (lo + (i : Nat) * c), fun i _ => n ≤ i⟩
theorem turn_rangeC {P : Program} {w : World} {K : PySem.W.Frag} {tg : Expr} (it : Addr) (lo c : Int) (n : Nat) : Turn P w K tg (Itc lo c n) [it] it (fun i h => IsRangeIter h it (lo + (i : Nat) * c) ((n : Int) - (i : Nat)) c) where
  mem := by simp
  obj := fun i h st b hb => by
    have e : b = it := by simpa using hb
    subst e
    exact ⟨_, st, fun v z => nomatch z⟩
  keep := fun i h h' st k => k it (by simp) _ st
  item := by
    intro X hP hw hK hc i pins s σ H E I hf st hg
    subst hP hw hK
    obtain ⟨f0, f1, f2, f3, f4, f5⟩ := hf it (by simp)
    have W := Walks.range (prog := X.prog) (w := X.w) (I.ok.hd hc) it lo c n
    refine W.item i s _ _ hg st fun v h' tk hv st' kk => ?_
    obtain ⟨t, rfl⟩ := hv
    have I1 : Inv X pins σ H { s with heap := h', toks := tk } := I.turned (fun b o hb e => kk b o (by simpa using hb) e) f0 f1 f3 f4 f5
    exact ⟨_, rfl, go_of (s := { s with heap := h', toks := tk }) (n := "range_iterator") st' rfl rfl (by decide) ⟨.int (lo + (i : Nat) * c), H, I1, ⟨t, rfl⟩, ⟨rfl, rfl⟩, st', fun b hb => (hf b hb).1⟩⟩
  done := by
    intro X hP hw hK hc i pins s σ H E I hf st hg
    subst hP hw hK
    obtain ⟨f0, f1, f2, f3, f4, f5⟩ := hf it (by simp)
    exact wpAny_pyNext_range_end (I.ok.hd hc) st (by have : n ≤ i := hg; omega) fun h' eb => ⟨rfl, I.turned (t' := s.toks) (fun b o hb e => eb b o hb e) f0 f1 f3 f4 f5⟩
  self := fun A i s Q E st h => wpAny_pyIter_rangeiter st h
/-- range(i, j, c): small bounds, n items -/
def RgC (i j c : Int) (n : Nat) : Prop := c ≠ 0 ∧ c.natAbs < 1073741824 ∧ Builtin.Range.small i j c = true ∧ Builtin.Range.rangeSize i j c = n
def iRng3 (ta : TA) : TI := fun σ H R => ta σ H fun vs H1 => ∃ (i j c : Int) (n : Nat), vs = [.int i, .int j, .int c] ∧ RgC i j c n ∧ R (Itc i c n) H1
section
variable {X : Cx} {tg : Expr}
theorem pi_range3 {a b c : Expr} {ta : TA} {p pos : Pos} (hg : Gl X "range") (hm : X.mg "range" = none) (ha : PA X [a, b, c] ta)
    (hs : starEach [a, b, c] X.env = (false, eval a X.env) :: starEach [b, c] X.env := by rfl) (hpl : (backTo pos (starEach [b, c] X.env)).any (·.1) = false := by rfl) :
    PI X tg (.Call (.Name "range" p) [a, b, c] [] pos) (iRng3 ta) := by
  intro pins s σ H R I h
  refine Call_ (ld_blt I hg hm boot_range (PyProof.Rows.callWith_type1 (thn (ha pos pins s σ H _ I h) fun us s1 ⟨vs, H1, I1, r1, q1⟩ => ?_) hs hpl))
  obtain ⟨i, j, k, n, e, ⟨c0, c1, c2, c3⟩, q⟩ := q1
  subst e
  cases r1 with
  | cons r rr =>
    cases rr with
    | cons r' rr =>
      cases rr with
      | cons r'' rr =>
        cases rr
        obtain ⟨t, rfl⟩ := r
        obtain ⟨t', rfl⟩ := r'
        obtain ⟨t'', rfl⟩ := r''
        refine call_range_3 c0 ?_ (.inl (PyProof.noPylong_small c1))
        refine wpAny_pyIter_range (IsRange.new ..) c2 ?_
        have I2 : Inv X pins σ H1 { s1 with heap := s1.heap.push { cls := .type "range", data := .fields #[.int i t, .int j t', .int k t''] } } := I1.kept (t' := s1.toks) fun b o e => Heap.get?_push_of_some _ e
        refine pi_one (tk := s1.toks) I2 _ (turn_rangeC _ i k n) ?_ q
        have e1 : i + ((0 : Nat) : Int) * k = i := by simp
        have e2 : (n : Int) - ((0 : Nat) : Int) = Builtin.Range.rangeSize i j k := by rw [c3]; simp
        show IsRangeIter _ _ (i + ((0 : Nat) : Int) * k) ((n : Int) - ((0 : Nat) : Int)) k
        rw [e1, e2]
        exact Heap.get?_push_size _ rfl
end
/-- the turns of a step range, for the for loop -/
theorem for_rangeC {lo c : Int} {n : Nat} {g : TG} {tb : TS} {D : Ends} {σ : St} {H : Hp} (Pv : Nat → St → Hp → Prop) (h0 : Pv 0 σ H)
    (hs : ∀ i σ H, i < n → Pv i σ H → g (.int (lo + (i : Nat) * c)) σ H fun σ2 H2 => tb { D with nx := Pv (i + 1), ct := Pv (i + 1), bk := D.nx } σ2 H2) (hd : ∀ σ H, Pv n σ H → D.nx σ H) :
    ∃ W : Nat → Nat → St → Hp → Prop, (∃ m, W 0 m σ H) ∧ ∀ i m σ H, W i m σ H →
      ((Itc lo c n).stop i H ∧ D.nx σ H) ∨ ((Itc lo c n).go i H ∧ ∃ N : St → Hp → Prop, (∀ σ' H', N σ' H' → ∃ m', m' < m ∧ W (i + 1) m' σ' H') ∧ ∀ x H', (Itc lo c n).yld i H x H' → g x σ H' fun σ2 H2 => tb { D with nx := N, ct := N, bk := D.nx } σ2 H2) := by
  refine ⟨fun i m σ H => m = n - i ∧ i ≤ n ∧ Pv i σ H, ⟨n, by simp, Nat.zero_le _, h0⟩, ?_⟩
  rintro i m σ H ⟨rfl, hi, p⟩
  by_cases hlt : i < n
  · refine .inr ⟨hlt, Pv (i + 1), fun σ' H' p' => ⟨n - (i + 1), by omega, rfl, hlt, p'⟩, fun x H' y => ?_⟩
    obtain ⟨e, y⟩ := y
    subst e y
    exact hs i σ _ hlt p
  · have e : i = n := by omega
    subst e
    exact .inl ⟨Nat.le_refl _, hd σ H p⟩

/-! ### reversed(list) -/
section
variable {X : Cx} {tg : Expr}
end

/-! ### a str -/
/-! ### a dict's keys: any dict's entries -/
section
variable {prog : Program} {w : World} {A : Around} {E : Value → Shared → Prop} {s : Shared}
end

/-! ### a locked dict -/
section
variable {X : Cx} {pins : List (Addr × Obj)} {σ : St} {H : Hp} {s : Shared} {d : Addr} {o : Obj}
end

section
variable {P : Program} {w : World} {K : PySem.W.Frag} {tg : Expr} {d : Addr} {o : Obj} {es : Array DictEntry} {ep : Nat}
end

/-! ### for k in d, d.keys(), d.values(), d.items() -/
section
variable {X : Cx} {tg e : Expr} {td : TE} {apos cpos : Pos}
end

/-! ### enumerate(list) -/
/-! ### zip(list, list) -/
end L2

section 
namespace Bits
open PySem PyProof.Rows

end Bits
end 

section 
namespace TL
open PySem PySem.Builtin PySem.Builtin.Str PySem.StrLaws

/-! ### the list functions -/
/-! ### the model's split and partition are these -/
/-! ### computing spl and par -/
/-! ### digits -/
/-! ### words: x.split() -/
end TL
end 

namespace L2
open PySem PySem.Spec PyProof.Rows

section
variable {X : Cx} {pins : List (Addr × Obj)} {σ : St} {H : Hp} {s : Shared} {Q : VK}
end

section
variable {X : Cx}

/-! ### of a text alone -/
/-! ### of a text and a text -/
end

section
variable {X : Cx} {o e : Expr} {to te : TE}
end
end L2

namespace L2
open PySem PySem.Spec PyProof.Rows

section
variable {X : Cx}
end

/-! ### slices of a text -/
end L2

namespace Att
open PySem PySem.W PySem.Calls PyProof.Rows

/-! ### the script -/
/-! ### the attachment: holds_open's last premise (the goal 'hc' behind k_head) from a wpAny of the law's body -/
/-! ### rules over ANY heap (no ledger) from facts about the written part K: the library's own take a ledger (News) for what they write -/
section
variable {prog : Program} {w : World} {A : Around} {E : Value → Shared → Prop} {s : Shared} {K : Frag}

/-! the whole heap as the ledger: makes every rule that writes through a ledger a rule over any heap -/
end
end Att

namespace L2
open PySem PySem.Spec PyProof.Rows

end L2

namespace L2
open PySem PySem.Spec PyProof.Rows

end L2

/- THE LAST THEOREM (shape; LID, My.* are yours):
   My.Adr: a structure of the addresses that your layer names (classes, functions); My.Txt K t: a structure (Prop) of the equations over K;
   My.txt_mk : {K} {implicit addresses ..} (e1 : nsIn K mainGlobals "law" = some (some (.ref f))) (e2 : K.lookup f = some ⟨oc, od, .func (fnOf "law" "law" params body scope dV kV doc pm an cdv ct), sl⟩) (e3 : codeIn K cdv "law" = true) .. : ∃ t, My.Txt K t

set_option maxRecDepth 100000 in
set_option maxHeartbeats 0 in
theorem PySem.Challenge.cw_LID_holds : PySem.Challenge.rw_LID.Holds := by
  w_on; o_law; k_head; (case hw => w_witness2)
  k_fill
  refine L2.walk_of (l := PySem.Challenge.rw_LID) (n := 63) (k := 40) (x := "script") (CX := fun w => ..) (sp := fun _ => My.sp_law) rfl (by decide) rfl ⟨rfl, by decide, by decide⟩ (fun w h Y => PySem.W.kIn_of Y) ?F ?S ?C
  case F =>
    intro w mg fa h KX G hmg
    have T : ∃ t, My.Txt (L2.KOf KX) t := by
      dsimp only [L2.KOf]                          -- K must stand as «<heap const> w.params» for k_is
      refine' My.txt_mk ?e1 ?e2 ?e3 ..
      (case e1 => PySem.W.k_is)                    -- in the order: a name -> its address -> its object -> its parts
      (case e2 => PySem.W.k_is)
      ..
    obtain ⟨t, T⟩ := T
    have e0 := hmg.symm.trans (PySem.W.mg_of KX G T.law)
    cases e0                                       -- fa is the law's own address
    exact ⟨_, fun s u => .of_eq rfl, fun base kb nb => My.law_fn T kb nb⟩     -- if «.of_eq rfl» comes too early: refine' ⟨_, ?b, fun base kb nb => My.law_fn T kb nb⟩; exact fun s u => .of_eq rfl
  case S => exact fun w H a ns hl hO hS => ..
  case C => exact ..
(the tactic k_is has no namespace: write k_is) -/

/-! SHORT WORDS over the layer: a def of the text, its body, what a loop and a test want. -/
namespace L2
open PySem PySem.Spec PyProof.Rows

/-! ### the text by places -/
/-- the j-th statement of a class's body -/
def inClass (s : Stmt) (j : Nat) : Stmt := match s with
  | .ClassDef _ _ _ body _ _ _ _ _ _ _ => body.getD j (.Pass ⟨0, 0, 0, 0⟩)
  | _ => .Pass ⟨0, 0, 0, 0⟩
def defArgs (s : Stmt) : Arguments := match s with
  | .FunctionDef _ a _ _ _ _ _ _ _ _ => a
  | _ => { posonlyargs := [], args := [], vararg := none, kwonlyargs := [], kw_defaults := [], kwarg := none, defaults := [] }
def defBody (s : Stmt) : List Stmt := match s with
  | .FunctionDef _ _ b _ _ _ _ _ _ _ => b
  | _ => []
def defScope (s : Stmt) : Scope := match s with
  | .FunctionDef _ _ _ _ _ _ sc _ _ _ => sc
  | _ => { kind := .function, names := [], isGenerator := false, isCoroutine := false }

/-! ### no exception leaves a def -/
abbrev CX0 : CXT := fun _ _ _ _ _ _ => False
abbrev E0 : XK := fun _ _ _ => False
theorem pass0 {X : Cx} : Passes CX0 X E0 := fun _ _ _ _ _ _ _ h => h.elim

/-! ### a def (or method) of the text as it stands behind the top -/
structure Fun (K : PySem.W.Frag) (x qual : Str) (st : Stmt) (f : Addr) (fd : FuncData) : Prop where
  ex : ∃ (oc : Value) (od : Option Addr) (kV doc pm : Value) (an : Option Addr) (cdv ct : Value) (osl : Array (Option Value)),
    fd = PySem.W.fnOf x qual (defArgs st) (defBody st) (defScope st) .none kV doc pm an cdv ct ∧ K.lookup f = some ⟨oc, od, .func fd, osl⟩ ∧ PySem.W.codeIn K cdv qual = true
  kp : PySem.W.keepIn K (.ref f) = true
section
variable {P : Program} {w : World} {K : PySem.W.Frag} {mg : Str → Option Value} {base : Heap}
/-- THE RULE for a def: its body as a term of rules, and the reading of that term -/
theorem Fun.ok {x qual : Str} {st : Stmt} {f : Addr} {fd : FuncData} {N ps : List Str} {k : Nat} {sp : Sp} (F : Fun K x qual st f fd) (S : FnScope N ps (defScope st)) (len : ∀ vs H Q E, sp vs H Q E → vs.length = ps.length)
    (hbody : ∀ (cdv : Value) (A : Around) (outer : List Env) (s : Shared) (H : Hp) (vs : List V) (Q : VK) (E : XK), Room k (A.deeper (envOfC qual (defScope st) s.heap.objs.size f cdv)) → sp vs H Q E →
      ∃ t, PSs (cxOf CX0 P w K mg base N qual (defScope st) f cdv A outer s H E).nox (defBody st) t ∧ t { nx := fun _ H' => Q .non H', rt := Q } (start N vs) H) : FnOk P w K mg base CX0 (k + 1) f fd ps sp := by
  obtain ⟨oc, od, kV, doc, pm, an, cdv, ct, osl, rfl, lk, hcd⟩ := F.ex
  refine fn_of lk hcd S len fun A outer s H vs Q E hr hsp => ?_
  obtain ⟨t, h, q⟩ := hbody cdv A outer s H vs Q E hr hsp
  exact ⟨t, h.nox, q⟩
/-- how its arguments bind (no defaults): h is «fun _ _ _ _ _ _ us hl => match us, hl with | [_, _], _ => rfl», one _ a parameter -/
theorem Fun.binds {x qual : Str} {st : Stmt} {f : Addr} {fd : FuncData} {ps : List Str} (F : Fun K x qual st f fd)
    (h : ∀ (kV doc pm : Value) (an : Option Addr) (cdv ct : Value) (us : List Value), us.length = ps.length → bindArgs (PySem.W.fnOf x qual (defArgs st) (defBody st) (defScope st) .none kV doc pm an cdv ct) ⟨us, []⟩ = pure (ps.zip us)) : Binds K fd ps [] := by
  obtain ⟨oc, od, kV, doc, pm, an, cdv, ct, osl, rfl, lk, hcd⟩ := F.ex
  exact .all (h kV doc pm an cdv ct)
theorem fun_mk {x qual : Str} {st : Stmt} {f : Addr} {oc : Value} {od an : Option Addr} {osl : Array (Option Value)} {kV doc pm cdv ct : Value} (l : K.lookup f = some ⟨oc, od, .func (PySem.W.fnOf x qual (defArgs st) (defBody st) (defScope st) .none kV doc pm an cdv ct), osl⟩)
    (c : PySem.W.codeIn K cdv qual = true) (k : PySem.W.keepIn K (.ref f) = true) : Fun K x qual st f (PySem.W.fnOf x qual (defArgs st) (defBody st) (defScope st) .none kV doc pm an cdv ct) := ⟨⟨oc, od, kV, doc, pm, an, cdv, ct, osl, rfl, l, c⟩, k⟩
end
theorem small1000 {n : Nat} (h : n ≤ 1000) : n < sizeLine := Nat.lt_of_le_of_lt h (by decide)

/-! ### expressions in short: the name that stands in the i-th slot -/
section
variable {X : Cx}
theorem pv (i : Nat) {x : Str} {pos : Pos} (hN : X.N[i]? = some x := by rfl) (hv : Vis X.env.scope x := by first | exact Or.inl rfl | exact Or.inr (Or.inl rfl) | exact Or.inr (Or.inr rfl)) (hd : (x == ("__debug__" : Str)) = false := by decide)
    (hcd : (x == ("__classdict__" : Str)) = false := by decide) : PE X (.Name x pos) (tVar i) := pe_var hN hv hd hcd
end

/-! ### tests -/
theorem iteF {A B : Prop} (h : B) : if false = true then A else B := by
  rw [if_neg Bool.false_ne_true]
  exact h
theorem iteT {A B : Prop} (h : A) : if true = true then A else B := by
  rw [if_pos rfl]
  exact h
/-! ### heaps -/
/-- all that was tracked is as it was -/
def Same (H H' : Hp) : Prop := ∀ b o, H b = some o → H' b = some o
theorem Same.refl (H : Hp) : Same H H := fun _ _ h => h
theorem Same.trans {H H1 H2 : Hp} (a : Same H H1) (b : Same H1 H2) : Same H H2 := fun c o h => b c o (a c o h)
theorem Same.free {H H' : Hp} (e : Same H H') {l : Addr} (h : H' l = Option.none) : H l = Option.none := by
  cases q : H l with
  | none => rfl
  | some o =>
    rw [e l o q] at h
    cases h
theorem Same.seq {K : PySem.W.Frag} {H H' : Hp} {a : Addr} {xs : List V} (e : Same H H') (h : SqL K H a xs) : SqL K H' a xs := by
  rcases h with (h | ⟨o, h⟩) | h
  · exact .inl (.inl (e _ _ h))
  · exact .inl (.inr ⟨o, e _ _ h⟩)
  · exact .inr h

/-! ### a dict's pairs: keys that differ -/
section
variable {κ : Type} [DecidableEq κ]
end
/-! ### lists -/
theorem at_of {xs : List V} {z : Int} {j : Nat} {v : V} (e : z = (j : Int)) (h : xs[j]? = some v) : atI xs z = some v := by
  rw [e]
  exact atI_nat h
/-- a new instance and its __init__ leave all that was tracked as it was -/
theorem Same.made {H H1 : Hp} {x dx C : Addr} (nx : H x = Option.none) (nd : H dx = Option.none) (k : ∀ b o, (upd (upd H dx (.own x)) x (.ins C dx [])) b = some o → b ≠ x → H1 b = some o) : Same H H1 := fun b o e =>
  k b o (by rw [upd_ne (ne_of_none e nx), upd_ne (ne_of_none e nd)]; exact e) (ne_of_none e nx)
end L2

section
set_option Elab.async false
set_option linter.all false
set_option maxRecDepth 100000
set_option maxHeartbeats 2000000
namespace L2
open PySem PySem.Spec PyProof.Rows
open PySem.W (WData Codec OpenSpec Well WellAll ReadsW ReadsAllW)
/-! ### an answer as data -/
mutual
/-- x stands for the datum d, lists and tuples all the way -/
inductive Dw (K : PySem.W.Frag) (H : Hp) : V → WData → Prop
  | non : Dw K H .non .none
  | bl (b : Bool) : Dw K H (.bl b) (.bool b)
  | int (i : Int) : Dw K H (.int i) (.int i)
  | str (x : Str) : Dw K H (.str x) (.str x)
  | byt (b : Array UInt8) : Dw K H (.byt b) (.bytes b.toList)
  | lst {a : Addr} {xs : List V} {ds : List WData} : SqL K H a xs → DwAll K H xs ds → Dw K H (.ref a) (.list ds)
  | tup {a : Addr} {xs : List V} {ds : List WData} : SqT K H a xs → DwAll K H xs ds → Dw K H (.ref a) (.tuple ds)
inductive DwAll (K : PySem.W.Frag) (H : Hp) : List V → List WData → Prop
  | nil : DwAll K H [] []
  | cons {v : V} {vs : List V} {d : WData} {ds : List WData} : Dw K H v d → DwAll K H vs ds → DwAll K H (v :: vs) (d :: ds)
end
theorem dw_ints {K : PySem.W.Frag} {H : Hp} : ∀ ns : List Int, DwAll K H (ns.map V.int) (ns.map WData.int)
  | [] => .nil
  | n :: r => .cons (.int n) (dw_ints r)
theorem ints_dw {K : PySem.W.Frag} {H : Hp} : ∀ (ns : List Int) (xs : List V), DwAll K H xs (ns.map WData.int) → xs = ns.map V.int
  | [], xs, h => by
    cases h
    rfl
  | n :: r, xs, h => by
    cases h with
    | cons h1 h2 =>
      cases h1
      rw [ints_dw r _ h2] <;> rfl
section
variable {P : Program} {w : World} {K : PySem.W.Frag} {H : Hp} {h : Heap} {R : PySem.W.WRecords} {cl : Str → Option Addr}
theorem sqL_at {a : Addr} {xs : List V} (hok : HOk P w H h) (KX : K.In h) (q : SqL K H a xs) : ∃ (its : List Value) (o : Obj) (n : Nat), Vals xs its ∧ h.get? a = some o ∧ o.cls = .type "list" ∧ o.data = .seq its.toArray n := by
  rcases q with q | ⟨o, its, n, e, hc, _, hd, _, hv⟩
  · obtain ⟨_, its, n, hv, e⟩ := (show ObjOk P w H h a (.lst xs) from q.ok hok)
    exact ⟨its, _, n, hv, e, rfl, rfl⟩
  · exact ⟨its.toList, o, n, hv, KX _ _ e, hc, by simp [hd]⟩
theorem sqT_at {a : Addr} {xs : List V} (hok : HOk P w H h) (KX : K.In h) (q : SqT K H a xs) : ∃ (its : List Value) (o : Obj) (n : Nat), Vals xs its ∧ h.get? a = some o ∧ o.cls = .type "tuple" ∧ o.data = .seq its.toArray n := by
  rcases q with q | ⟨o, its, n, e, hc, hd, _, hv⟩
  · obtain ⟨_, its, hv, o, e, hc, n, hd⟩ := (show ObjOk P w H h a (.tup xs) from q.ok hok)
    exact ⟨its, o, n, hv, e, hc, hd⟩
  · exact ⟨its.toList, o, n, hv, KX _ _ e, hc, by simp [hd]⟩
mutual
theorem Dw.reads (hok : HOk P w H h) (KX : K.In h) : ∀ (d : WData) (v : V) (u : Value), Dw K H v d → RelV v u → ∃ as, ReadsW R cl h u d as
  | .none, _, _, x, r => by
    cases x
    cases r
    exact ⟨_, ReadsW.none⟩
  | .bool b, _, _, x, r => by
    cases x
    cases r
    exact ⟨_, ReadsW.bool b⟩
  | .int i, _, _, x, r => by
    cases x
    obtain ⟨t, rfl⟩ := r
    exact ⟨_, ReadsW.int i t⟩
  | .str s, _, _, x, r => by
    cases x
    obtain ⟨t, rfl⟩ := r
    exact ⟨_, ReadsW.str s t⟩
  | .bytes b, _, _, x, r => by
    cases x
    obtain ⟨t, rfl⟩ := r
    exact ⟨_, ReadsW.bytes _ t⟩
  | .list ds, _, _, x, r => by
    cases x with
    | lst hs ha =>
      cases r
      obtain ⟨its, o, n, rv, ho, hc, hd⟩ := sqL_at hok KX hs
      obtain ⟨as, hr⟩ := Dw.readsAll hok KX ds _ its ha rv
      exact ⟨_, ReadsW.list ho hc hd hr⟩
  | .tuple ds, _, _, x, r => by
    cases x with
    | tup hs ha =>
      cases r
      obtain ⟨its, o, n, rv, ho, hc, hd⟩ := sqT_at hok KX hs
      obtain ⟨as, hr⟩ := Dw.readsAll hok KX ds _ its ha rv
      exact ⟨_, ReadsW.tuple ho hc hd hr⟩
  | .float _, _, _, x, _ => by cases x
  | .dict _, _, _, x, _ => by cases x
  | .bytearray _, _, _, x, _ => by cases x
  | .set _, _, _, x, _ => by cases x
  | .frozenset _, _, _, x, _ => by cases x
  | .obj _ _, _, _, x, _ => by cases x
theorem Dw.readsAll (hok : HOk P w H h) (KX : K.In h) : ∀ (ds : List WData) (vs : List V) (us : List Value), DwAll K H vs ds → Vals vs us → ∃ as, ReadsAllW R cl h us ds as
  | [], _, _, x, r => by
    cases x
    cases r
    exact ⟨_, ReadsAllW.nil⟩
  | d :: ds, _, _, x, r => by
    cases x with
    | cons h1 h2 =>
      cases r with
      | cons r1 r2 =>
        obtain ⟨as, q1⟩ := Dw.reads hok KX d _ _ h1 r1
        obtain ⟨bs, q2⟩ := Dw.readsAll hok KX ds _ _ h2 r2
        exact ⟨_, ReadsAllW.cons q1 q2⟩
end
end
/-! ### the arguments -/
mutual
/-- data that a codec tells -/
def plW : WData → Bool
  | .none => true
  | .bool _ => true
  | .int _ => true
  | .str _ => true
  | .bytes _ => true
  | .list xs => plWs xs
  | .tuple xs => plWs xs
  | _ => false
def plWs : List WData → Bool
  | [] => true
  | x :: r => plW x && plWs r
end
theorem plWs_map {α : Type} {f : α → WData} (h : ∀ a, plW (f a) = true) : ∀ l : List α, plWs (l.map f) = true
  | [] => rfl
  | x :: r => by
    show (plW (f x) && plWs (r.map f)) = true
    rw [h x, plWs_map h r] <;> rfl
theorem pl_enc : ∀ (c : Codec) (a : c.denote), plW (c.enc a) = true
  | .unit, _ => rfl
  | .bool, _ => rfl
  | .int _ _, _ => rfl
  | .nat _ _, _ => rfl
  | .u8, _ => rfl
  | .bytes _ _, _ => rfl
  | .text _ _ _ _, _ => rfl
  | .list _ _ c, a => plWs_map (fun x => pl_enc c x) a
  | .pair c d, a => by
    show (plW (c.enc a.1) && (plW (d.enc a.2) && true)) = true
    rw [pl_enc c a.1, pl_enc d a.2] <;> rfl
  | .triple c d e, a => by
    show (plW (c.enc a.1) && (plW (d.enc a.2.1) && (plW (e.enc a.2.2) && true))) = true
    rw [pl_enc c a.1, pl_enc d a.2.1, pl_enc e a.2.2] <;> rfl
  | .option c, none => rfl
  | .option c, some x => pl_enc c x
theorem pl_encAll : ∀ (cs : List Codec) (a : Codec.denoteAll cs), plWs (Codec.encAll cs a) = true
  | [], _ => rfl
  | c :: cs, a => by
    show (plW (c.enc a.1) && plWs (Codec.encAll cs a.2)) = true
    rw [pl_enc c a.1, pl_encAll cs a.2] <;> rfl
theorem weight_mem : ∀ {xs : List WData} {d : WData}, d ∈ xs → d.weight ≤ WData.weightAll xs
  | [], d, h => absurd h (by simp)
  | x :: r, d, h => by
    show d.weight ≤ x.weight + 1 + WData.weightAll r
    rcases List.mem_cons.mp h with e | m
    · rw [e]
      omega
    · have z := weight_mem m
      omega
def toV : Value → V
  | .none => .non
  | .bool b => .bl b
  | .int i _ => .int i
  | .str x _ => .str x
  | .bytes b _ => .byt b
  | .ref a => .ref a
  | _ => .non
/-- a value of the arguments, its objects among A -/
def OkU (A : List Addr) : Value → Prop
  | .none => True
  | .bool _ => True
  | .int _ _ => True
  | .str _ _ => True
  | .bytes _ _ => True
  | .ref a => a ∈ A
  | _ => False
theorem OkU.mono {A B : List Addr} (h : ∀ a ∈ A, a ∈ B) : ∀ {u : Value}, OkU A u → OkU B u := fun {u} x => by
  cases u with
  | ref a => exact h a x
  | none => trivial
  | bool b => trivial
  | int i t => trivial
  | str s t => trivial
  | bytes b t => trivial
  | _ => exact False.elim x
theorem relV_toV {A : List Addr} {u : Value} (x : OkU A u) : RelV (toV u) u := by
  cases u with
  | ref a => rfl
  | none => rfl
  | bool b => rfl
  | int i t => exact ⟨t, rfl⟩
  | str s t => exact ⟨t, rfl⟩
  | bytes b t => exact ⟨t, rfl⟩
  | _ => exact False.elim x
theorem vals_toV {A : List Addr} : ∀ {vs : List Value}, (∀ u ∈ vs, OkU A u) → Vals (vs.map toV) vs
  | [], _ => .nil
  | u :: r, h => .cons (relV_toV (h u (List.mem_cons_self ..))) (vals_toV fun x hx => h x (List.mem_cons_of_mem _ hx))
/-- an object of the arguments -/
def ArgOb (h : Heap) (A : List Addr) (a : Addr) : Prop := ∃ vs : List Value, vs.length ≤ sizeLine ∧ (∀ u ∈ vs, OkU A u) ∧
  (h.get? a = some { cls := .type "list", data := .seq vs.toArray } ∨ h.get? a = some { cls := .type "tuple", data := .seq vs.toArray })
theorem ArgOb.mono {h : Heap} {A B : List Addr} {a : Addr} (k : ∀ a ∈ A, a ∈ B) (x : ArgOb h A a) : ArgOb h B a := by
  obtain ⟨vs, h1, h2, h3⟩ := x
  exact ⟨vs, h1, fun u hu => (h2 u hu).mono k, h3⟩
theorem wellAll_len {P : Params} {h : Heap} : ∀ {vs : List Value} {ds : List WData}, WellAll P h vs ds → vs.length = ds.length
  | _, _, .nil => rfl
  | _, _, .cons _ b => by
    show _ + 1 = _ + 1
    rw [wellAll_len b]
theorem well_list {P : Params} {h : Heap} {v : Value} {ds : List WData} (x : Well P h v (.list ds)) : ∃ (a : Addr) (vs : List Value), v = .ref a ∧ h.get? a = some { cls := .type "list", data := .seq vs.toArray } ∧ WellAll P h vs ds := by
  cases x with
  | list ho hall => exact ⟨_, _, rfl, ho, hall⟩
theorem well_tuple {P : Params} {h : Heap} {v : Value} {ds : List WData} (x : Well P h v (.tuple ds)) : ∃ (a : Addr) (vs : List Value), v = .ref a ∧ h.get? a = some { cls := .type "tuple", data := .seq vs.toArray } ∧ WellAll P h vs ds := by
  cases x with
  | tuple ho hall => exact ⟨_, _, rfl, ho, hall⟩
theorem well_cons {P : Params} {h : Heap} {us : List Value} {d : WData} {ds : List WData} (x : WellAll P h us (d :: ds)) : ∃ (v : Value) (vs : List Value), us = v :: vs ∧ Well P h v d ∧ WellAll P h vs ds := by
  cases x with
  | cons a b => exact ⟨_, _, rfl, a, b⟩
theorem line_of {n : Nat} (h : n ≤ 1048576) : n ≤ sizeLine := Nat.le_trans h (by decide)
section
variable {P : Params} {h : Heap}
mutual
theorem area_one : ∀ (d : WData) (v : Value), Well P h v d → plW d = true → d.weight ≤ 1048576 → ∃ A : List Addr, OkU A v ∧ ∀ a ∈ A, ArgOb h A a
  | .none, _, x, _, _ => by
    cases x
    exact ⟨[], trivial, fun a m => absurd m (by simp)⟩
  | .bool b, _, x, _, _ => by
    cases x
    exact ⟨[], trivial, fun a m => absurd m (by simp)⟩
  | .int i, _, x, _, _ => by
    cases x
    exact ⟨[], trivial, fun a m => absurd m (by simp)⟩
  | .str s, _, x, _, _ => by
    cases x
    exact ⟨[], trivial, fun a m => absurd m (by simp)⟩
  | .bytes b, _, x, _, _ => by
    cases x
    exact ⟨[], trivial, fun a m => absurd m (by simp)⟩
  | .list ds, _, x, p, z => by
    obtain ⟨a, vs, rfl, ho, hall⟩ := well_list x
    have z2 : WData.weightAll ds ≤ 1048576 := z
    obtain ⟨A, h1, h2⟩ := area_all ds _ hall p fun d hd => Nat.le_trans (weight_mem hd) z2
    have k : ∀ b ∈ A, b ∈ a :: A := fun b hb => List.mem_cons_of_mem _ hb
    refine ⟨a :: A, List.mem_cons_self .., fun b hb => ?_⟩
    rcases List.mem_cons.mp hb with e | m
    · rw [e]
      exact ⟨vs, line_of (by rw [wellAll_len hall]; exact Nat.le_trans (PySem.W.length_le_weightAllW ds) z2), fun u hu => (h1 u hu).mono k, .inl ho⟩
    · exact (h2 b m).mono k
  | .tuple ds, _, x, p, z => by
    obtain ⟨a, vs, rfl, ho, hall⟩ := well_tuple x
    have z2 : WData.weightAll ds ≤ 1048576 := z
    obtain ⟨A, h1, h2⟩ := area_all ds _ hall p fun d hd => Nat.le_trans (weight_mem hd) z2
    have k : ∀ b ∈ A, b ∈ a :: A := fun b hb => List.mem_cons_of_mem _ hb
    refine ⟨a :: A, List.mem_cons_self .., fun b hb => ?_⟩
    rcases List.mem_cons.mp hb with e | m
    · rw [e]
      exact ⟨vs, line_of (by rw [wellAll_len hall]; exact Nat.le_trans (PySem.W.length_le_weightAllW ds) z2), fun u hu => (h1 u hu).mono k, .inr ho⟩
    · exact (h2 b m).mono k
  | .float _, _, _, p, _ => Bool.noConfusion (show false = true from p)
  | .dict _, _, _, p, _ => Bool.noConfusion (show false = true from p)
  | .bytearray _, _, _, p, _ => Bool.noConfusion (show false = true from p)
  | .set _, _, _, p, _ => Bool.noConfusion (show false = true from p)
  | .frozenset _, _, _, p, _ => Bool.noConfusion (show false = true from p)
  | .obj _ _, _, _, p, _ => Bool.noConfusion (show false = true from p)
theorem area_all : ∀ (ds : List WData) (vs : List Value), WellAll P h vs ds → plWs ds = true → (∀ d ∈ ds, d.weight ≤ 1048576) → ∃ A : List Addr, (∀ u ∈ vs, OkU A u) ∧ ∀ a ∈ A, ArgOb h A a
  | [], _, x, _, _ => by
    cases x
    exact ⟨[], fun u m => absurd m (by simp), fun a m => absurd m (by simp)⟩
  | d :: ds, _, x, p, z => by
    obtain ⟨v, vs, rfl, x1, x2⟩ := well_cons x
    have q : plW d = true ∧ plWs ds = true := Bool.and_eq_true_iff.mp p
    obtain ⟨A, a1, a2⟩ := area_one d v x1 q.1 (z d (List.mem_cons_self ..))
    obtain ⟨B, b1, b2⟩ := area_all ds vs x2 q.2 fun e he => z e (List.mem_cons_of_mem _ he)
    have kA : ∀ b ∈ A, b ∈ A ++ B := fun b hb => List.mem_append.mpr (.inl hb)
    have kB : ∀ b ∈ B, b ∈ A ++ B := fun b hb => List.mem_append.mpr (.inr hb)
    refine ⟨A ++ B, fun u hu => ?_, fun b hb => ?_⟩
    · rcases List.mem_cons.mp hu with e | m
      · rw [e]
        exact a1.mono kA
      · exact (b1 u m).mono kB
    · rcases List.mem_append.mp hb with m | m
      · exact (a2 b m).mono kA
      · exact (b2 b m).mono kB
end
end
/-- what is tracked of an argument's object -/
def hoOf (o : Obj) : Option HO := match o.data with
  | .seq vs _ => if (o.cls == Value.type "list") = true then some (.frz o (.lst (vs.toList.map toV))) else some (.frz o (.tup (vs.toList.map toV)))
  | _ => none
def argH (K : PySem.W.Frag) (h : Heap) (A : List Addr) : Hp := fun b => if b ∈ A then (if (K.lookup b).isNone = true then (h.get? b).bind hoOf else none) else none
/-- nothing is tracked but what is known to the object -/
def OnlyF (H : Hp) : Prop := ∀ b, H b = none ∨ ∃ o u, H b = some (.frz o u)
theorem hoOf_lst (vs : List Value) : hoOf { cls := .type "list", data := .seq vs.toArray } = some (.frz { cls := .type "list", data := .seq vs.toArray } (.lst (vs.map toV))) := by
  show (if (Value.type "list" == Value.type "list") = true then some (HO.frz { cls := .type "list", data := .seq vs.toArray } (.lst (vs.toArray.toList.map toV))) else some (HO.frz { cls := .type "list", data := .seq vs.toArray } (.tup (vs.toArray.toList.map toV)))) = _
  rw [if_pos (beq_self_eq_true _)]
theorem hoOf_tup (vs : List Value) : hoOf { cls := .type "tuple", data := .seq vs.toArray } = some (.frz { cls := .type "tuple", data := .seq vs.toArray } (.tup (vs.map toV))) := by
  show (if (Value.type "tuple" == Value.type "list") = true then some (HO.frz { cls := .type "tuple", data := .seq vs.toArray } (.lst (vs.toArray.toList.map toV))) else some (HO.frz { cls := .type "tuple", data := .seq vs.toArray } (.tup (vs.toArray.toList.map toV)))) = _
  rw [if_neg (by decide)]
section
variable {P : Program} {w : World} {K : PySem.W.Frag} {h : Heap} {A : List Addr}
theorem argH_at {b : Addr} {o : Obj} (hb : b ∈ A) (hk : K.lookup b = none) (e : h.get? b = some o) : argH K h A b = hoOf o := by
  unfold argH
  rw [if_pos hb, hk, if_pos (show (none : Option Obj).isNone = true from rfl), e] <;> rfl
theorem of_argH {b : Addr} {u : HO} (q : argH K h A b = some u) : b ∈ A ∧ K.lookup b = none := by
  unfold argH at q
  by_cases hb : b ∈ A
  · rw [if_pos hb] at q
    cases hk : K.lookup b with
    | none => exact ⟨hb, rfl⟩
    | some o =>
      rw [hk, if_neg (by simp)] at q
      cases q
  · rw [if_neg hb] at q
    cases q
/-- what stands tracked -/
theorem argH_is (ar : ∀ a ∈ A, ArgOb h A a) {b : Addr} {u : HO} (q : argH K h A b = some u) : K.lookup b = none ∧ ∃ vs : List Value, vs.length ≤ sizeLine ∧ (∀ u ∈ vs, OkU A u) ∧
    ((h.get? b = some { cls := .type "list", data := .seq vs.toArray } ∧ u = .frz { cls := .type "list", data := .seq vs.toArray } (.lst (vs.map toV))) ∨
     (h.get? b = some { cls := .type "tuple", data := .seq vs.toArray } ∧ u = .frz { cls := .type "tuple", data := .seq vs.toArray } (.tup (vs.map toV)))) := by
  obtain ⟨hb, hk⟩ := of_argH q
  obtain ⟨vs, h1, h2, h3⟩ := ar b hb
  refine ⟨hk, vs, h1, h2, ?_⟩
  rcases h3 with e | e
  · rw [argH_at hb hk e, hoOf_lst] at q
    exact .inl ⟨e, (Option.some.inj q).symm⟩
  · rw [argH_at hb hk e, hoOf_tup] at q
    exact .inr ⟨e, (Option.some.inj q).symm⟩
theorem argH_only (ar : ∀ a ∈ A, ArgOb h A a) : OnlyF (argH K h A) := fun b => by
  cases q : argH K h A b with
  | none => exact .inl rfl
  | some u =>
    obtain ⟨_, vs, _, _, ⟨_, e⟩ | ⟨_, e⟩⟩ := argH_is ar q
    · exact .inr ⟨_, _, by rw [e]⟩
    · exact .inr ⟨_, _, by rw [e]⟩
theorem argH_ok (ar : ∀ a ∈ A, ArgOb h A a) : HOk P w (argH K h A) h := fun b u q => by
  obtain ⟨_, vs, h1, h2, ⟨e, rfl⟩ | ⟨e, rfl⟩⟩ := argH_is ar q
  · exact ⟨e, by rw [List.length_map]; exact h1, vs, _, vals_toV h2, e⟩
  · exact ⟨e, by rw [List.length_map]; exact h1, vs, vals_toV h2, _, e, rfl, _, rfl⟩
theorem seq_inj {c c' : Value} {vs us : List Value} (e : (some { cls := c, data := .seq vs.toArray } : Option Obj) = some { cls := c', data := .seq us.toArray }) : c = c' ∧ vs = us := by
  have e1 := Option.some.inj e
  have e2 : c = c' := congrArg Obj.cls e1
  have e3 : Data.seq vs.toArray = Data.seq us.toArray := congrArg Obj.data e1
  injection e3 with e4
  refine ⟨e2, ?_⟩
  have e5 := congrArg Array.toList e4
  simpa using e5
/-- a list argument -/
theorem argL (KX : K.In h) (ar : ∀ a ∈ A, ArgOb h A a) {a : Addr} {vs : List Value} (ha : a ∈ A) (e : h.get? a = some { cls := .type "list", data := .seq vs.toArray }) : (∀ u ∈ vs, OkU A u) ∧ SqL K (argH K h A) a (vs.map toV) := by
  obtain ⟨us, h1, h2, h3⟩ := ar a ha
  have hu : us = vs := by
    rcases h3 with q | q
    · rw [e] at q
      exact (seq_inj q).2.symm
    · rw [e] at q
      exact absurd (Value.type.inj (seq_inj q).1) (by decide)
  subst hu
  refine ⟨h2, ?_⟩
  cases hk : K.lookup a with
  | none => exact .inl (.inr ⟨_, by rw [argH_at ha hk e, hoOf_lst]⟩)
  | some o =>
    have e2 := KX a o hk
    rw [e] at e2
    obtain rfl := Option.some.inj e2
    exact .inr ⟨_, us.toArray, _, hk, rfl, rfl, rfl, by rw [List.size_toArray]; exact h1, by simpa using vals_toV h2⟩
theorem argT (KX : K.In h) (ar : ∀ a ∈ A, ArgOb h A a) {a : Addr} {vs : List Value} (ha : a ∈ A) (e : h.get? a = some { cls := .type "tuple", data := .seq vs.toArray }) : (∀ u ∈ vs, OkU A u) ∧ SqT K (argH K h A) a (vs.map toV) := by
  obtain ⟨us, h1, h2, h3⟩ := ar a ha
  have hu : us = vs := by
    rcases h3 with q | q
    · rw [e] at q
      exact absurd (Value.type.inj (seq_inj q).1) (by decide)
    · rw [e] at q
      exact (seq_inj q).2.symm
  subst hu
  refine ⟨h2, ?_⟩
  cases hk : K.lookup a with
  | none => exact .inl (.inr ⟨_, by rw [argH_at ha hk e, hoOf_tup]⟩)
  | some o =>
    have e2 := KX a o hk
    rw [e] at e2
    obtain rfl := Option.some.inj e2
    exact .inr ⟨_, us.toArray, _, hk, rfl, rfl, by rw [List.size_toArray]; exact h1, by simpa using vals_toV h2⟩
mutual
theorem dw_one {Pm : Params} (KX : K.In h) (ar : ∀ a ∈ A, ArgOb h A a) : ∀ (d : WData) (v : Value), Well Pm h v d → plW d = true → OkU A v → Dw K (argH K h A) (toV v) d
  | .none, _, x, _, _ => by
    cases x
    exact .non
  | .bool b, _, x, _, _ => by
    cases x
    exact .bl b
  | .int i, _, x, _, _ => by
    cases x
    exact .int i
  | .str s, _, x, _, _ => by
    cases x
    exact .str s
  | .bytes b, _, x, _, _ => by
    cases x
    have z := Dw.byt (K := K) (H := argH K h A) b.toArray
    exact z
  | .list ds, _, x, p, hu => by
    obtain ⟨a, vs, rfl, ho, hall⟩ := well_list x
    obtain ⟨h2, hs⟩ := argL KX ar hu ho
    exact .lst hs (dw_all KX ar ds _ hall p h2)
  | .tuple ds, _, x, p, hu => by
    obtain ⟨a, vs, rfl, ho, hall⟩ := well_tuple x
    obtain ⟨h2, hs⟩ := argT KX ar hu ho
    exact .tup hs (dw_all KX ar ds _ hall p h2)
  | .float _, _, _, p, _ => Bool.noConfusion (show false = true from p)
  | .dict _, _, _, p, _ => Bool.noConfusion (show false = true from p)
  | .bytearray _, _, _, p, _ => Bool.noConfusion (show false = true from p)
  | .set _, _, _, p, _ => Bool.noConfusion (show false = true from p)
  | .frozenset _, _, _, p, _ => Bool.noConfusion (show false = true from p)
  | .obj _ _, _, _, p, _ => Bool.noConfusion (show false = true from p)
theorem dw_all {Pm : Params} (KX : K.In h) (ar : ∀ a ∈ A, ArgOb h A a) : ∀ (ds : List WData) (vs : List Value), WellAll Pm h vs ds → plWs ds = true → (∀ u ∈ vs, OkU A u) → DwAll K (argH K h A) (vs.map toV) ds
  | [], _, x, _, _ => by
    cases x
    exact .nil
  | d :: ds, _, x, p, hu => by
    obtain ⟨v, vs, rfl, x1, x2⟩ := well_cons x
    have q : plW d = true ∧ plWs ds = true := Bool.and_eq_true_iff.mp p
    exact .cons (dw_one KX ar d v x1 q.1 (hu _ (List.mem_cons_self ..))) (dw_all KX ar ds vs x2 q.2 fun u m => hu u (List.mem_cons_of_mem _ m))
end
end
/-! ### the call -/
theorem spec_call {P : Program} {w : World} {K : PySem.W.Frag} {mg mb : Str → Option Value} {CX : CXT} {k : Nat} {fa : Addr} {fd : FuncData} {ps : List Str} {sp : Sp} {s₁ : Shared} {vals : List Value} {ds : List WData} {R : PySem.W.WRecords} {cl : Str → Option Addr} {d0 : WData}
    (KX : K.In s₁.heap) (hns : s₁.heap.Ns mainGlobals mg) (hb : s₁.heap.Ns builtinsNs mb) (hbb : ∀ x : Str, x ≠ "__name__" → mb x = bootBuiltins x) (hlim : s₁.heap.NoLimit) (hg : s₁.gens = #[])
    (hwl : WellAll w.params s₁.heap vals ds) (hpl : plWs ds = true) (hwt : ∀ d ∈ ds, d.weight ≤ 1048576) (hr : Room k callerA)
    (F : ∀ base : Heap, K.In base → base.Ns mainGlobals mg → FnOk P w K mg base CX k fa fd ps sp) (hbind : ∀ (s : Shared) (us : List Value), us.length = ps.length → BindsTo s fd ⟨us, []⟩ (ps.zip us)) (hlen : ds.length = ps.length)
    (hsp : ∀ (H : Hp) (xs : List V), OnlyF H → DwAll K H xs ds → sp xs H (fun v H' => Dw K H' v d0) fun _ _ _ => False)
    (hCX : ∀ H e s', CX [] H s₁ (fun _ _ _ => False) e s' → False) :
    codeAny (model P w) callerA (.call (.ref fa) ⟨vals, []⟩) (fun r s' => ∃ u as, r = .ok (.ret u) ∧ ReadsW R cl s'.heap u d0 as ∧ OldK s₁.heap s'.heap ∧ s'.os = s₁.os ∧ AllBare s'.gens) s₁ := by
  obtain ⟨A, ho, ar⟩ := area_all ds vals hwl hpl hwt
  have hO : OnlyF (argH K s₁.heap A) := argH_only ar
  have hok : HOk P w (argH K s₁.heap A) s₁.heap := argH_ok ar
  have hS := dw_all KX ar ds vals hwl hpl ho
  have hV := vals_toV ho
  have hK : ∀ b u, argH K s₁.heap A b = some u → K.lookup b = none := fun b u q => (argH_is ar q).1
  have noA : ∀ {b : Addr} {o : Obj} {es : Array DictEntry} {ep : Nat}, s₁.heap.get? b = some o → o.data = .dict es ep → argH K s₁.heap A b = none := fun {b o es ep} e d => by
    cases q : argH K s₁.heap A b with
    | none => rfl
    | some u =>
      obtain ⟨_, vs, _, _, ⟨e2, _⟩ | ⟨e2, _⟩⟩ := argH_is ar q
      · rw [e2] at e
        cases e
        have d' : Data.seq vs.toArray _ = Data.dict es ep := d
        cases d'
      · rw [e2] at e
        cases e
        have d' : Data.seq vs.toArray _ = Data.dict es ep := d
        cases d'
  generalize argH K s₁.heap A = H at hO hok hS hK noA
  have base_of : ∀ {b : Addr} {o : Obj}, s₁.heap.get? b = some o → H b = none → (hidT s₁.heap H).get? b = some o := fun e n => hidT_get e n
  have nsK : ∀ {b : Addr} {m : Str → Option Value}, s₁.heap.Ns b m → (hidT s₁.heap H).Ns b m := fun {b m} ⟨o, es, ep, e, d, r⟩ => ⟨o, es, ep, base_of e (noA e d), d, r⟩
  have nK : ∀ b o, K.lookup b = some o → H b = none := fun b o e => by
    cases q : H b with
    | none => rfl
    | some u =>
      rw [hK b u q] at e
      cases e
  have hKb : K.In (hidT s₁.heap H) := fun b o e => base_of (KX b o e) (nK b o e)
  have hM : Mod K mg (hidT s₁.heap H) := ⟨hKb, nsK hns, ⟨mb, nsK hb, hbb⟩, let ⟨mc, h1, h2⟩ := hlim; ⟨mc, nsK h1, h2⟩⟩
  have e0 : Env0 P w K mg (hidT s₁.heap H) callerA [] s₁ H := ⟨rfl, hM, fun b o e => of_hidT e, Nat.le_of_eq (hidT_size _ _), trivial, fun b hb => absurd (show b ∈ ([] : List Addr) from hb) (by simp), hok, .of_eq hg⟩
  have hl : vals.length = ps.length := by rw [wellAll_len hwl]; exact hlen
  refine codeAny_mono ((F _ hKb (nsK hns)).run callerA [] s₁ H ⟨vals, []⟩ vals (vals.map toV) _ _ hr e0 (hbind s₁ vals hl) hV (hsp H _ hO hS)) fun r s' x => ?_
  cases r with
  | error e => exact (hCX H e s' x).elim
  | ok fl =>
    cases fl with
    | next => exact False.elim x
    | brk => exact False.elim x
    | cont => exact False.elim x
    | ret u =>
      obtain ⟨v, H', os, bare, un, hok', r', q⟩ := x
      have kept : ∀ b o, s₁.heap.get? b = some o → s'.heap.get? b = some o := fun b o e => by
        cases q2 : H b with
        | none => exact un.keep b o e q2 (by intro z; exact absurd (show b ∈ ([] : List Addr) from z) (by simp)) (by simp)
        | some u2 =>
          rcases hO b with z | ⟨ob, u3, z⟩
          · rw [q2] at z
            cases z
          · have z2 := un.frzs b ob _ z
            obtain ⟨e1, _⟩ := hok b _ z
            obtain ⟨e2, _⟩ := hok' b _ z2
            rw [e] at e1
            cases e1
            exact e2
      have KX' : K.In s'.heap := fun b o e => kept b o (KX b o e)
      obtain ⟨as, hrd⟩ := Dw.reads (R := R) (cl := cl) hok' KX' d0 v u q r'
      exact ⟨u, as, rfl, hrd, OldK.of_keep kept, os, bare⟩
/-! ### the row -/
theorem layable_weight {ds : List WData} (h : WData.layableAll ds = true) : ∀ d ∈ ds, d.weight ≤ 1048576 := fun d hd =>
  (PySem.W.layableW_iff.mp (List.all_eq_true.mp h d hd)).2.2
theorem encAll_len : ∀ (cs : List Codec) (a : Codec.denoteAll cs), (Codec.encAll cs a).length = cs.length
  | [], _ => rfl
  | c :: cs, a => by
    show (Codec.encAll cs a.2).length + 1 = cs.length + 1
    rw [encAll_len cs a.2]
/-- the goal that k_headS leaves (case hc), from the promise of the row's def: whatever the arguments that the codecs let and the row asks for, the def gives what stands for enc (f ..) -/
theorem walk_spec {r : OpenSpec} {k : Nat} {q : Program} {loose : List Str} {XP : (Str → Option Value) → Heap → Prop} {YP : World → Heap → Prop} {d : DefRec} {K : Params → PySem.W.Frag} {CX : World → CXT} {ps : List Str} {sp : World → Sp}
    (hwell : r.wellSaid = true) (hdf : d.params.defaults = []) (hlen : r.args.length = ps.length) (hr : Room k callerA)
    (hY : ∀ (w : World) (h : Heap), YP w h → (K w.params).In h)
    (F : ∀ (w : World) (mg : Str → Option Value) (fa : Addr) (h : Heap), YP w h → (K w.params).In h → h.Ns mainGlobals mg → mg d.name = some (.ref fa) →
      ∃ fd : FuncData, (∀ (s : Shared) (us : List Value), us.length = ps.length → BindsTo s fd ⟨us, []⟩ (ps.zip us)) ∧
        ∀ base : Heap, (K w.params).In base → base.Ns mainGlobals mg → FnOk r.prog w (K w.params) mg base (CX w) k fa fd ps (sp w))
    (hsp : ∀ (w : World) (H : Hp) (xs : List V) (a : Codec.denoteAll r.args), OnlyF H → Codec.withinAll r.args a = true → Codec.app r.args r.asked a = true → DwAll (K w.params) H xs (Codec.encAll r.args a) →
      sp w xs H (fun v H' => Dw (K w.params) H' v (r.ret.enc (Codec.app r.args r.f a))) fun _ _ _ => False)
    (hCX : ∀ (w : World) (H : Hp) (s : Shared) (e : Value) (s' : Shared), CX w [] H s (fun _ _ _ => False) e s' → False) :
    PySem.W.WalkOS q loose XP YP r d [] (fun f vs => PySem.call f vs) := by
  intro w s_0 s₁ mg mb G Y fa o pm cd doc dV kV ho hd hcd hD hmg hg args vals as hpre hlay hrd hwl hlo
  obtain ⟨a, e1, e2⟩ := PySem.W.os_pre_some hpre
  obtain ⟨e3, hwi⟩ := Codec.encAll_of_decAll r.args args a e1
  subst e3
  have KX := hY w _ Y
  obtain ⟨fd, hb, hF⟩ := F w mg fa _ Y KX G.T.g hmg
  refine PySem.W.enter_call (codeAny_mono (spec_call (R := []) (cl := classAt s_0.heap) (d0 := r.ret.enc (Codec.app r.args r.f a)) KX G.T.g G.T.b G.T.builtins G.T.nolimit hg hwl (pl_encAll _ _) (layable_weight hlay) hr hF hb (by rw [encAll_len]; exact hlen)
    (fun H xs hO hS => hsp w H xs a hO hwi e2 hS) fun H e s' => hCX w H s₁ e s') fun r' s' hq => ?_)
  obtain ⟨u, as', rfl, h1, h2, h3, h4⟩ := hq
  exact ⟨.inl ⟨u, _, as', rfl, fun _ => rfl, h1, (OpenSpec.post_iff hwell hwi _ _).mpr rfl, fun z => Bool.noConfusion (show false = true from z)⟩, h2, h3, h4⟩
/-- the same where the promise hangs on the written part alone -/
theorem walk_specK {r : OpenSpec} {k : Nat} {q : Program} {loose : List Str} {XP : (Str → Option Value) → Heap → Prop} {YP : World → Heap → Prop} {d : DefRec} {K : Params → PySem.W.Frag} {CX : CXT} {ps : List Str} {sp : PySem.W.Frag → Sp}
    (hwell : r.wellSaid = true) (hdf : d.params.defaults = []) (hlen : r.args.length = ps.length) (hr : Room k callerA)
    (hY : ∀ (w : World) (h : Heap), YP w h → (K w.params).In h)
    (F : ∀ (w : World) (mg : Str → Option Value) (fa : Addr) (h : Heap), YP w h → (K w.params).In h → h.Ns mainGlobals mg → mg d.name = some (.ref fa) →
      ∃ fd : FuncData, (∀ (s : Shared) (us : List Value), us.length = ps.length → BindsTo s fd ⟨us, []⟩ (ps.zip us)) ∧
        ∀ base : Heap, (K w.params).In base → base.Ns mainGlobals mg → FnOk r.prog w (K w.params) mg base CX k fa fd ps (sp (K w.params)))
    (hsp : ∀ (K : PySem.W.Frag) (H : Hp) (xs : List V) (a : Codec.denoteAll r.args), OnlyF H → Codec.withinAll r.args a = true → Codec.app r.args r.asked a = true → DwAll K H xs (Codec.encAll r.args a) →
      sp K xs H (fun v H' => Dw K H' v (r.ret.enc (Codec.app r.args r.f a))) fun _ _ _ => False)
    (hCX : ∀ (H : Hp) (s : Shared) (e : Value) (s' : Shared), CX [] H s (fun _ _ _ => False) e s' → False) :
    PySem.W.WalkOS q loose XP YP r d [] (fun f vs => PySem.call f vs) :=
  walk_spec (K := K) (CX := fun _ => CX) (sp := fun w => sp (K w.params)) hwell hdf hlen hr hY F (fun w H xs a h1 h2 h3 h4 => hsp (K w.params) H xs a h1 h2 h3 h4) fun _ H s e s' => hCX H s e s'
end L2
-- rests on (row put in by the clerk, for the bench that shows a file only what it spells): KE.SpHead KE.OsShapes
end

set_option Elab.async false
set_option maxRecDepth 100000
/-! The mathematics: powers by a prime, roots, indexes. Nothing of the program. -/
namespace Pw

/-! ### lists -/
/-- different items, all among m, as many as m: the same up to order -/
theorem perm_of {l m : List Nat} (hl : l.Nodup) (hm : m.Nodup) (hs : ∀ x ∈ l, x ∈ m) (hn : m.length ≤ l.length) : l.Perm m := by
  refine (List.perm_ext_iff_of_nodup hl hm).mpr fun a => ⟨hs a, fun ha => ?_⟩
  cases Classical.em (a ∈ l) with
  | inl h => exact h
  | inr h =>
    have h1 : (a :: l).Nodup := List.nodup_cons.mpr ⟨h, hl⟩
    have h2 : (a :: l) ⊆ m := fun x hx => by
      rcases List.mem_cons.mp hx with e | e
      · rw [e]; exact ha
      · exact hs x e
    have h3 := List.Nodup.length_le_of_subset h1 h2
    rw [List.length_cons] at h3
    omega
theorem nd_iff {α : Type} {l : List α} : l.Nodup ↔ ∀ i j, i < j → j < l.length → l[i]? ≠ l[j]? := by
  unfold List.Nodup
  rw [List.pairwise_iff_getElem]
  constructor
  · intro h i j hij hj e
    rw [List.getElem?_eq_getElem (by omega), List.getElem?_eq_getElem hj] at e
    exact h i j (by omega) hj hij (Option.some.inj e)
  · intro h i j hi hj hij e
    refine h i j hij hj ?_
    rw [List.getElem?_eq_getElem hi, List.getElem?_eq_getElem hj, e]
/-- 1 to n -/
def oneTo (n : Nat) : List Nat := (List.range n).map fun i => i + 1
theorem mem_oneTo {n x : Nat} : x ∈ oneTo n ↔ 1 ≤ x ∧ x ≤ n := by
  unfold oneTo
  rw [List.mem_map]
  constructor
  · rintro ⟨a, ha, rfl⟩
    have := List.mem_range.mp ha
    omega
  · rintro ⟨h1, h2⟩
    exact ⟨x - 1, List.mem_range.mpr (by omega), by omega⟩
theorem oneTo_sorted (n : Nat) : (oneTo n).Pairwise (· < ·) := List.Pairwise.map _ (fun a b h => by omega) List.pairwise_lt_range
theorem nodup_of_lt {l : List Nat} (h : l.Pairwise (· < ·)) : l.Nodup := List.Pairwise.imp (fun {a b} h => by omega) h
theorem oneTo_nodup (n : Nat) : (oneTo n).Nodup := nodup_of_lt (oneTo_sorted n)
theorem oneTo_length (n : Nat) : (oneTo n).length = n := by unfold oneTo; rw [List.length_map, List.length_range]
theorem oneTo_get {n i : Nat} (h : i < n) : (oneTo n)[i]? = some (i + 1) := by
  unfold oneTo
  rw [List.getElem?_map, List.getElem?_range h]
  rfl

/-! ### the prime -/
structure Pr (p : Nat) : Prop where
  ge : 3 ≤ p
  lt : p < 200
  no : ∀ d, 2 ≤ d → d < p → p % d ≠ 0
theorem pr_of {p : Nat} (h : Kp302.okP p = true) : Pr p := by
  unfold Kp302.okP Kp297.okP Kp297.prime at h
  simp only [Bool.and_eq_true, decide_eq_true_eq, List.all_eq_true, List.mem_range, Bool.or_eq_true, bne_iff_ne, ne_eq] at h
  obtain ⟨h1, h2, h3, h4, h5, h6⟩ := h
  refine ⟨h2, h1, fun d hd hp => ?_⟩
  rcases h6 d hp with q | q
  · omega
  · exact q
theorem Pr.cop {p a : Nat} (P : Pr p) (h : a % p ≠ 0) : Nat.Coprime p a := by
  have hd : Nat.gcd p a ∣ p := Nat.gcd_dvd_left p a
  have hda : Nat.gcd p a ∣ a := Nat.gcd_dvd_right p a
  have h3 := P.ge
  have hpos : 0 < p := by omega
  have hle : Nat.gcd p a ≤ p := Nat.le_of_dvd hpos hd
  have h0 : Nat.gcd p a ≠ 0 := fun e => by
    rw [e] at hd
    have := Nat.eq_zero_of_zero_dvd hd
    omega
  unfold Nat.Coprime
  by_cases h1 : Nat.gcd p a = 1
  · exact h1
  · exfalso
    by_cases h2 : Nat.gcd p a = p
    · rw [h2] at hda
      exact h (Nat.mod_eq_zero_of_dvd hda)
    · exact P.no (Nat.gcd p a) (by omega) (by omega) (Nat.mod_eq_zero_of_dvd hd)
theorem Pr.mul {p a b : Nat} (P : Pr p) (ha : a % p ≠ 0) (hb : b % p ≠ 0) : a * b % p ≠ 0 := fun e => by
  have h1 : p ∣ a * b := Nat.dvd_of_mod_eq_zero e
  exact hb (Nat.mod_eq_zero_of_dvd ((P.cop ha).dvd_of_dvd_mul_left h1))
theorem Pr.pow {p a : Nat} (P : Pr p) (ha : a % p ≠ 0) : ∀ n, a ^ n % p ≠ 0
  | 0 => by
    have := P.ge
    rw [Nat.pow_zero, Nat.mod_eq_of_lt (by omega)]
    omega
  | n + 1 => by
    rw [Nat.pow_succ]
    exact P.mul (P.pow ha n) ha
/-- what is multiplied by something that leaves something can be told by what it leaves -/
theorem Pr.cancel {p a x y : Nat} (P : Pr p) (ha : a % p ≠ 0) (h : a * x % p = a * y % p) : x % p = y % p := by
  have key : ∀ {x y : Nat}, x ≤ y → a * x % p = a * y % p → x % p = y % p := fun {x y} hxy h => by
    have h1 : (a * y - a * x) % p = 0 := Nat.sub_mod_eq_zero_of_mod_eq h.symm
    rw [← Nat.mul_sub] at h1
    have h2 : p ∣ y - x := (P.cop ha).dvd_of_dvd_mul_left (Nat.dvd_of_mod_eq_zero h1)
    obtain ⟨c, hc⟩ := h2
    have : y = x + p * c := by omega
    rw [this, Nat.add_mul_mod_self_left]
  rcases Nat.le_total x y with q | q
  · exact key q h
  · exact (key q h.symm).symm

/-! ### powers -/
theorem powersUp_length (p g : Nat) : ∀ n v, (Kp302.powersUp p g n v).length = n
  | 0, _ => rfl
  | n + 1, v => by
    show (v :: Kp302.powersUp p g n (v * g % p)).length = n + 1
    rw [List.length_cons, powersUp_length p g n]
theorem powersUp_get (p g : Nat) : ∀ n v k, v < p → k < n → (Kp302.powersUp p g n v)[k]? = some (v * g ^ k % p)
  | 0, _, _, _, h => by omega
  | n + 1, v, 0, hv, _ => by
    show some v = _
    rw [Nat.pow_zero, Nat.mul_one, Nat.mod_eq_of_lt hv]
  | n + 1, v, k + 1, hv, h => by
    show (Kp302.powersUp p g n (v * g % p))[k]? = _
    rw [powersUp_get p g n _ k (Nat.mod_lt _ (by omega)) (by omega), Nat.pow_succ', ← Nat.mul_assoc]
    congr 1
    conv => rhs; rw [Nat.mul_mod]
    conv => lhs; rw [Nat.mul_mod, Nat.mod_mod]
theorem powers_length (p g : Nat) : (Kp302.powers p g).length = p - 1 := powersUp_length p g _ _
theorem powers_get {p g k : Nat} (hp : 1 < p) (h : k < p - 1) : (Kp302.powers p g)[k]? = some (g ^ k % p) := by
  unfold Kp302.powers
  rw [powersUp_get p g _ _ _ hp h, Nat.one_mul]
theorem mem_powers {p g x : Nat} (hp : 1 < p) : x ∈ Kp302.powers p g ↔ ∃ k, k < p - 1 ∧ x = g ^ k % p := by
  constructor
  · intro h
    obtain ⟨k, hk⟩ := List.getElem?_of_mem h
    have hl : k < p - 1 := by
      have := (List.getElem?_eq_some_iff.mp hk).1
      rw [powers_length] at this
      exact this
    rw [powers_get hp hl] at hk
    exact ⟨k, hl, (Option.some.inj hk).symm⟩
  · rintro ⟨k, hk, rfl⟩
    exact List.mem_of_getElem? (powers_get hp hk)

/-- g leaves all by the prime p -/
structure Rt (p g : Nat) : Prop where
  pr : Pr p
  nz : g % p ≠ 0
  one : ∀ k, 0 < k → k < p - 1 → g ^ k % p ≠ 1
theorem leaves_iff {p g : Nat} (P : Pr p) : Kp302.leavesAll p g = true ↔ Rt p g := by
  have hp : 1 < p := by have := P.ge; omega
  unfold Kp302.leavesAll
  rw [Bool.and_eq_true, bne_iff_ne, Bool.not_eq_true']
  constructor
  · rintro ⟨h1, h2⟩
    refine ⟨P, h1, fun k k0 kp e => ?_⟩
    have : ((Kp302.powers p g).drop 1).contains 1 = true := by
      rw [List.contains_iff_mem]
      refine List.mem_of_getElem? (i := k - 1) ?_
      rw [List.getElem?_drop, show 1 + (k - 1) = k by omega, powers_get hp kp, e]
    rw [h2] at this
    cases this
  · rintro ⟨_, h1, h2⟩
    refine ⟨h1, ?_⟩
    cases e : ((Kp302.powers p g).drop 1).contains 1 with
    | false => rfl
    | true =>
      exfalso
      rw [List.contains_iff_mem] at e
      obtain ⟨k, hk⟩ := List.getElem?_of_mem e
      rw [List.getElem?_drop] at hk
      have hl : 1 + k < p - 1 := by
        have := (List.getElem?_eq_some_iff.mp hk).1
        rw [powers_length] at this
        exact this
      rw [powers_get hp hl] at hk
      exact h2 (1 + k) (by omega) hl (Option.some.inj hk)
theorem Rt.inj {p g : Nat} (R : Rt p g) {i j : Nat} (hi : i < p - 1) (hj : j < p - 1) (h : g ^ i % p = g ^ j % p) : i = j := by
  have key : ∀ {i j : Nat}, i ≤ j → j < p - 1 → g ^ i % p = g ^ j % p → i = j := fun {i j} hij hj h => by
    by_cases e : i = j
    · exact e
    · exfalso
      have e1 : g ^ i * 1 % p = g ^ i * g ^ (j - i) % p := by
        rw [Nat.mul_one, ← Nat.pow_add, show i + (j - i) = j by omega]
        exact h
      have e2 := R.pr.cancel (R.pr.pow R.nz i) e1
      have := R.pr.ge
      rw [Nat.mod_eq_of_lt (show 1 < p by omega)] at e2
      exact R.one (j - i) (by omega) (by omega) e2.symm
  rcases Nat.le_total i j with q | q
  · exact key q hj h
  · exact (key q hi h.symm).symm
theorem Rt.nodup {p g : Nat} (R : Rt p g) : (Kp302.powers p g).Nodup := by
  have hp : 1 < p := by have := R.pr.ge; omega
  rw [nd_iff]
  intro i j hij hj
  rw [powers_length] at hj
  rw [powers_get hp (by omega), powers_get hp hj]
  intro e
  have := R.inj (by omega) hj (Option.some.inj e)
  omega
theorem Rt.perm {p g : Nat} (R : Rt p g) : (Kp302.powers p g).Perm (oneTo (p - 1)) := by
  have hp : 1 < p := by have := R.pr.ge; omega
  refine perm_of R.nodup (oneTo_nodup _) (fun x hx => ?_) (by rw [oneTo_length, powers_length]; exact Nat.le_refl _)
  obtain ⟨k, hk, rfl⟩ := (mem_powers hp).mp hx
  have h1 := R.pr.pow R.nz k
  have h2 : g ^ k % p < p := Nat.mod_lt _ (by omega)
  exact mem_oneTo.mpr ⟨by omega, by omega⟩
/-- the powers are 1 to p - 1 in some order just if g leaves all -/
theorem perm_iff {p g : Nat} (P : Pr p) : (Kp302.powers p g).Perm (oneTo (p - 1)) ↔ Rt p g := by
  have hp : 1 < p := by have := P.ge; omega
  have h3 := P.ge
  refine ⟨fun h => ?_, fun R => R.perm⟩
  have nd : (Kp302.powers p g).Nodup := h.nodup_iff.mpr (oneTo_nodup _)
  rw [nd_iff] at nd
  refine ⟨P, fun e => ?_, fun k k0 kp e => ?_⟩
  · have m : g ^ 1 % p ∈ Kp302.powers p g := (mem_powers hp).mpr ⟨1, by omega, rfl⟩
    have := mem_oneTo.mp (h.mem_iff.mp m)
    rw [Nat.pow_one] at this
    omega
  · refine nd 0 k k0 (by rw [powers_length]; exact kp) ?_
    rw [powers_get hp (by omega), powers_get hp kp, e, Nat.pow_zero, Nat.mod_eq_of_lt hp]
/-- each remainder is some power -/
theorem Rt.ex {p g x : Nat} (R : Rt p g) (hx : x % p ≠ 0) : ∃ k, k < p - 1 ∧ g ^ k % p = x % p := by
  have hp : 1 < p := by have := R.pr.ge; omega
  have h2 : x % p < p := Nat.mod_lt _ (by omega)
  have m : x % p ∈ Kp302.powers p g := R.perm.mem_iff.mpr (mem_oneTo.mpr ⟨by omega, by omega⟩)
  obtain ⟨k, hk, e⟩ := (mem_powers hp).mp m
  exact ⟨k, hk, e.symm⟩
/-- multiplied by itself p - 1 times it leaves 1 -/
theorem Rt.full {p g : Nat} (R : Rt p g) : g ^ (p - 1) % p = 1 := by
  have h3 := R.pr.ge
  obtain ⟨k, hk, e⟩ := R.ex (R.pr.pow R.nz (p - 1))
  by_cases k0 : k = 0
  · rw [← e, k0, Nat.pow_zero, Nat.mod_eq_of_lt (by omega)]
  · exfalso
    have e1 : g ^ k * 1 % p = g ^ k * g ^ (p - 1 - k) % p := by
      rw [Nat.mul_one, ← Nat.pow_add, show k + (p - 1 - k) = p - 1 by omega]
      exact e
    have e2 := R.pr.cancel (R.pr.pow R.nz k) e1
    rw [Nat.mod_eq_of_lt (show 1 < p by omega)] at e2
    exact R.one (p - 1 - k) (by omega) (by omega) e2.symm
theorem Rt.pow_mod {p g : Nat} (R : Rt p g) (n : Nat) : g ^ n % p = g ^ (n % (p - 1)) % p := by
  have h3 := R.pr.ge
  have e : n = (p - 1) * (n / (p - 1)) + n % (p - 1) := (Nat.div_add_mod n (p - 1)).symm
  conv => lhs; rw [e, Nat.pow_add, Nat.pow_mul, Nat.mul_mod, Nat.pow_mod, R.full, Nat.one_pow, Nat.mod_eq_of_lt (show 1 < p by omega), Nat.one_mul, Nat.mod_mod]
theorem Rt.mod {p g : Nat} (P : Pr p) : Rt p (g % p) ↔ Rt p g := by
  have key : ∀ k, (g % p) ^ k % p = g ^ k % p := fun k => (Nat.pow_mod g k p).symm
  constructor
  · rintro ⟨_, h1, h2⟩
    exact ⟨P, by rw [Nat.mod_mod] at h1; exact h1, fun k a b => by rw [← key]; exact h2 k a b⟩
  · rintro ⟨_, h1, h2⟩
    exact ⟨P, by rw [Nat.mod_mod]; exact h1, fun k a b => by rw [key]; exact h2 k a b⟩
theorem powers_mod {p g : Nat} (P : Pr p) : Kp302.powers p (g % p) = Kp302.powers p g := by
  have hp : 1 < p := by have := P.ge; omega
  refine List.ext_getElem? fun k => ?_
  by_cases h : k < p - 1
  · rw [powers_get hp h, powers_get hp h, ← Nat.pow_mod]
  · rw [List.getElem?_eq_none (by rw [powers_length]; omega), List.getElem?_eq_none (by rw [powers_length]; omega)]
end Pw

set_option Elab.async false
set_option maxRecDepth 100000
namespace Pw
/-! ### the index -/
theorem idx_of {c : Kp302.Classes} {x k : Nat} (R : Rt c.p c.g) (hk : k < c.p - 1) (h : c.g ^ k % c.p = x % c.p) : Kp302.index c x = k := by
  have hp : 1 < c.p := by have := R.pr.ge; omega
  have hl : k < (Kp302.powers c.p c.g).length := by rw [powers_length]; exact hk
  unfold Kp302.index
  rw [List.findIdx_eq hl]
  have at_ : ∀ j, (hj : j < (Kp302.powers c.p c.g).length) → (Kp302.powers c.p c.g)[j] = c.g ^ j % c.p := fun j hj => by
    have := powers_get (g := c.g) hp (show j < c.p - 1 by rw [powers_length] at hj; exact hj)
    rw [List.getElem?_eq_getElem hj] at this
    exact Option.some.inj this
  refine ⟨?_, fun j hj => ?_⟩
  · rw [at_ k hl, h]
    exact beq_self_eq_true _
  · rw [at_ j (by omega)]
    refine beq_eq_false_iff_ne.mpr fun e => ?_
    have := R.inj (i := j) (j := k) (by omega) hk (by rw [e, h])
    omega
theorem idx_ok {c : Kp302.Classes} {x : Nat} (R : Rt c.p c.g) (hx : x % c.p ≠ 0) : Kp302.index c x < c.p - 1 ∧ c.g ^ Kp302.index c x % c.p = x % c.p := by
  obtain ⟨k, hk, e⟩ := R.ex hx
  rw [idx_of R hk e]
  exact ⟨hk, e⟩
theorem idx_pow {c : Kp302.Classes} (R : Rt c.p c.g) (n : Nat) : Kp302.index c (c.g ^ n) = n % (c.p - 1) := by
  have := R.pr.ge
  exact idx_of R (Nat.mod_lt _ (by omega)) (R.pow_mod n).symm
theorem idx_mod {c : Kp302.Classes} (x : Nat) : Kp302.index c (x % c.p) = Kp302.index c x := by
  unfold Kp302.index
  rw [Nat.mod_mod]
theorem idx_mul {c : Kp302.Classes} {x y : Nat} (R : Rt c.p c.g) (hx : x % c.p ≠ 0) (hy : y % c.p ≠ 0) : Kp302.index c (x * y) = (Kp302.index c x + Kp302.index c y) % (c.p - 1) := by
  have := R.pr.ge
  refine idx_of R (Nat.mod_lt _ (by omega)) ?_
  rw [← R.pow_mod, Nat.pow_add, Nat.mul_mod, (idx_ok R hx).2, (idx_ok R hy).2, ← Nat.mul_mod]
/-- where x stands among the powers: there first -/
theorem idx_place {c : Kp302.Classes} {x : Nat} (R : Rt c.p c.g) (hx : x % c.p ≠ 0) : (Kp302.powers c.p c.g)[Kp302.index c x]? = some (x % c.p) ∧ ∀ m, m < Kp302.index c x → (Kp302.powers c.p c.g)[m]? ≠ some (x % c.p) := by
  have hp : 1 < c.p := by have := R.pr.ge; omega
  obtain ⟨h1, h2⟩ := idx_ok R hx
  refine ⟨by rw [powers_get hp h1, h2], fun m hm e => ?_⟩
  rw [powers_get hp (by omega)] at e
  have := R.inj (i := m) (j := Kp302.index c x) (by omega) h1 (by rw [Option.some.inj e, h2])
  omega

/-! ### a power by halving -/
theorem powUp_eq {p : Nat} (hp : 1 < p) : ∀ (f a e : Nat), e < 2 ^ f → Kp298.powUp p f a e = a ^ e % p
  | 0, a, e, h => by
    have : e = 0 := by simpa using h
    subst this
    rfl
  | f + 1, a, e, h => by
    unfold Kp298.powUp
    by_cases h0 : e = 0
    · rw [if_pos h0, h0, Nat.pow_zero]
    · rw [if_neg h0]
      have h2 : e / 2 < 2 ^ f := by rw [Nat.pow_succ] at h; omega
      have ih := powUp_eq hp f (a * a % p) (e / 2) h2
      have sq : (a * a % p) ^ (e / 2) % p = a ^ (2 * (e / 2)) % p := by
        rw [← Nat.pow_mod, Nat.pow_mul, Nat.pow_two]
      show (if e % 2 = 1 then Kp298.powUp p f (a * a % p) (e / 2) * a % p else Kp298.powUp p f (a * a % p) (e / 2)) = _
      rw [ih, sq]
      by_cases h1 : e % 2 = 1
      · rw [if_pos h1]
        have e1 : e = 2 * (e / 2) + 1 := by omega
        conv => rhs; rw [e1, Nat.pow_succ, Nat.mul_mod]
        conv => lhs; rw [Nat.mul_mod, Nat.mod_mod]
      · rw [if_neg h1]
        have e1 : 2 * (e / 2) = e := by omega
        rw [e1]
theorem pow_eq {p g n : Nat} (hp : 1 < p) (h : n < 4294967296) : Kp298.pow p g n = g ^ n % p := by
  unfold Kp298.pow
  rw [powUp_eq hp 40 _ _ (Nat.lt_trans h (by decide)), ← Nat.pow_mod]
theorem pow_place {p g n : Nat} (R : Rt p g) (h : n < 4294967296) : (Kp302.powers p g)[n % (p - 1)]? = some (Kp298.pow p g n) := by
  have := R.pr.ge
  rw [powers_get (by omega) (Nat.mod_lt _ (by omega)), pow_eq (by omega) h, ← R.pow_mod]

/-! ### roots -/
theorem least_leaves : ∀ p, Kp302.okP p = true → Kp302.leavesAll p (Kp302.leastRoot p) = true := by
  have h : ∀ p < 200, Kp302.okP p = true → Kp302.leavesAll p (Kp302.leastRoot p) = true := by decide +kernel
  exact fun p hp => h p (pr_of hp).lt hp
theorem not_zero (p : Nat) : Kp302.leavesAll p 0 = false := by
  unfold Kp302.leavesAll
  rw [Nat.zero_mod]
  rfl
theorem least_spec {p : Nat} (hp : Kp302.okP p = true) : Rt p (Kp302.leastRoot p) ∧ Kp302.leastRoot p < p ∧ 1 ≤ Kp302.leastRoot p ∧ ∀ r, r < Kp302.leastRoot p → Kp302.leavesAll p r = false := by
  have P := pr_of hp
  have h := least_leaves p hp
  have nz : Kp302.leastRoot p ≠ 0 := fun e => by
    rw [e, not_zero] at h
    cases h
  refine ⟨(leaves_iff P).mp h, ?_, by omega, ?_⟩
  all_goals
    unfold Kp302.leastRoot at nz ⊢
    cases e : (List.range p).find? (Kp302.leavesAll p) with
    | none =>
      rw [e] at nz
      exact absurd rfl nz
    | some r0 => ?_
  · exact List.mem_range.mp (List.mem_of_find?_eq_some e)
  · intro r hr
    have hr : r < r0 := hr
    obtain ⟨_, as, bs, e1, e2⟩ := List.find?_eq_some_iff_append.mp e
    have hlen : as.length = r0 := by
      have h1 : (List.range p)[as.length]? = some r0 := by
        rw [e1, List.getElem?_append_right (Nat.le_refl _)]
        simp
      have hlt : as.length < p := by
        have := (List.getElem?_eq_some_iff.mp h1).1
        rw [List.length_range] at this
        exact this
      rw [List.getElem?_range hlt] at h1
      exact Option.some.inj h1
    have hm : r ∈ as := by
      refine List.mem_of_getElem? (i := r) ?_
      have h1 : (List.range p)[r]? = as[r]? := by rw [e1, List.getElem?_append_left (by omega)]
      have hlt : r < p := by
        have : r0 < p := List.mem_range.mp (List.mem_of_find?_eq_some e)
        omega
      rw [← h1, List.getElem?_range hlt]
    have := e2 r hm
    simpa using this
theorem roots_eq {p : Nat} (hp : 1 ≤ p) : Kp302.roots p = (oneTo (p - 1)).filter (Kp302.leavesAll p) := by
  unfold Kp302.roots oneTo
  obtain ⟨n, rfl⟩ : ∃ n, p = n + 1 := ⟨p - 1, by omega⟩
  rw [List.range_succ_eq_map, List.filter_cons, not_zero]
  rfl

/-! ### the prime by odd divisors -/
theorem odd_prime {n : Nat} (h3 : 3 ≤ n) (h2 : n < 200) (ho : n % 2 ≠ 0) : Kp302.okP n = true ↔ ∀ d, 3 ≤ d → d % 2 = 1 → d < n → n % d ≠ 0 := by
  constructor
  · intro h d hd _ hn
    exact (pr_of h).no d (by omega) hn
  · intro h
    unfold Kp302.okP Kp297.okP Kp297.prime
    simp only [Bool.and_eq_true, decide_eq_true_eq, List.all_eq_true, List.mem_range, Bool.or_eq_true, bne_iff_ne, ne_eq, beq_iff_eq]
    refine ⟨h2, h3, by omega, by omega, by omega, fun d hd => ?_⟩
    by_cases hd2 : d < 2
    · exact .inl hd2
    · refine .inr fun e => ?_
      by_cases ev : d % 2 = 0
      · have h1 : d ∣ n := Nat.dvd_of_mod_eq_zero e
        have h2 : 2 ∣ n := Nat.dvd_trans (Nat.dvd_of_mod_eq_zero ev) h1
        exact ho (Nat.mod_eq_zero_of_dvd h2)
      · exact h d (by omega) (by omega) hd e
theorem okP_lt {n : Nat} (h : Kp302.okP n = true) : 3 ≤ n ∧ n < 200 ∧ n % 2 = 1 := by
  unfold Kp302.okP Kp297.okP at h
  simp only [Bool.and_eq_true, decide_eq_true_eq, beq_iff_eq] at h
  omega
theorem okE_iff {p e : Nat} : Kp302.okE p e = true ↔ 2 ≤ e ∧ e ≤ 8 ∧ (p - 1) % e = 0 := by
  unfold Kp302.okE
  simp only [Bool.and_eq_true, decide_eq_true_eq, beq_iff_eq]

/-! ### classes -/
/-- a state that a begin may make -/
structure Ok (c : Kp302.Classes) : Prop where
  p : Kp302.okP c.p = true
  e : Kp302.okE c.p c.e = true
  g : Rt c.p c.g
  lt : c.g < c.p
theorem nums_eq (c : Kp302.Classes) : Kp302.nums c = oneTo (c.p - 1) := rfl
theorem mem_members {c : Kp302.Classes} {i x : Nat} : x ∈ Kp302.members c i ↔ 1 ≤ x ∧ x ≤ c.p - 1 ∧ Kp302.index c x % c.e = i := by
  unfold Kp302.members Kp302.cls
  rw [List.mem_filter, nums_eq, mem_oneTo, beq_iff_eq, and_assoc]
theorem members_sorted (c : Kp302.Classes) (i : Nat) : (Kp302.members c i).Pairwise (· < ·) := List.Pairwise.filter _ (oneTo_sorted _)
theorem members_nodup (c : Kp302.Classes) (i : Nat) : (Kp302.members c i).Nodup := nodup_of_lt (members_sorted c i)
theorem members_length (c : Kp302.Classes) (i : Nat) : (Kp302.members c i).length ≤ c.p - 1 := by
  have := List.length_filter_le (fun x => Kp302.cls c x == i) (Kp302.nums c)
  rw [nums_eq, oneTo_length] at this
  exact this
/-- xs[i::e], as many as n -/
def stride {α : Type} (l : List α) (i e n : Nat) : List α := (List.range n).filterMap fun k => l[i + k * e]?
theorem stride_perm {c : Kp302.Classes} (O : Ok c) {i : Nat} (hi : i < c.e) {n : Nat} (hn : ∀ k, k < n ↔ i + k * c.e < c.p - 1) :
    (stride (Kp302.powers c.p c.g) i c.e n).Perm (Kp302.members c i) := by
  have R := O.g
  have hp : 1 < c.p := by have := R.pr.ge; omega
  have mem : ∀ x, x ∈ stride (Kp302.powers c.p c.g) i c.e n ↔ ∃ k, k < n ∧ x = c.g ^ (i + k * c.e) % c.p := fun x => by
    unfold stride
    rw [List.mem_filterMap]
    constructor
    · rintro ⟨k, hk, e⟩
      have hk := List.mem_range.mp hk
      rw [powers_get hp ((hn k).mp hk)] at e
      exact ⟨k, hk, (Option.some.inj e).symm⟩
    · rintro ⟨k, hk, e⟩
      exact ⟨k, List.mem_range.mpr hk, by rw [powers_get hp ((hn k).mp hk), e]⟩
  refine (List.perm_ext_iff_of_nodup ?_ (members_nodup c i)).mpr fun x => ?_
  · have ed : ∀ n, (∀ k, k < n → i + k * c.e < c.p - 1) → (stride (Kp302.powers c.p c.g) i c.e n).Nodup := by
      intro n
      induction n with
      | zero => intro _; exact List.nodup_nil
      | succ n ih =>
        intro h
        have e1 : stride (Kp302.powers c.p c.g) i c.e (n + 1) = stride (Kp302.powers c.p c.g) i c.e n ++ [c.g ^ (i + n * c.e) % c.p] := by
          unfold stride
          rw [List.range_succ, List.filterMap_append]
          congr 1
          rw [List.filterMap_cons, powers_get hp (h n (by omega))]
          rfl
        rw [e1, List.nodup_append]
        refine ⟨ih fun k hk => h k (by omega), by simp, fun a ha b hb e => ?_⟩
        have hb := List.mem_singleton.mp hb
        subst hb
        subst e
        unfold stride at ha
        obtain ⟨k, hk, e⟩ := List.mem_filterMap.mp ha
        have hk := List.mem_range.mp hk
        rw [powers_get hp (h k (by omega))] at e
        have := R.inj (h k (by omega)) (h n (by omega)) (Option.some.inj e)
        have e0 : 0 < c.e := by omega
        have : k * c.e < n * c.e := Nat.mul_lt_mul_of_pos_right hk e0
        omega
    exact ed n fun k hk => (hn k).mp hk
  · rw [mem, mem_members]
    constructor
    · rintro ⟨k, hk, rfl⟩
      have hk' := (hn k).mp hk
      have h1 := R.pr.pow R.nz (i + k * c.e)
      have h2 : c.g ^ (i + k * c.e) % c.p < c.p := Nat.mod_lt _ (by omega)
      refine ⟨by omega, by omega, ?_⟩
      rw [idx_mod, idx_pow R, Nat.mod_eq_of_lt hk', Nat.add_mul_mod_self_right, Nat.mod_eq_of_lt hi]
    · rintro ⟨h1, h2, h3⟩
      have hx : x % c.p ≠ 0 := by rw [Nat.mod_eq_of_lt (by omega)]; omega
      obtain ⟨a, b⟩ := idx_ok R hx
      have e1 : i + Kp302.index c x / c.e * c.e = Kp302.index c x := by
        rw [← h3, Nat.mul_comm]
        exact Nat.mod_add_div _ _
      refine ⟨Kp302.index c x / c.e, (hn _).mpr (by rw [e1]; exact a), ?_⟩
      rw [e1, b, Nat.mod_eq_of_lt (by omega)]
/-- a class is not empty -/
theorem members_ne {c : Kp302.Classes} (O : Ok c) {i : Nat} (hi : i < c.e) : Kp302.members c i ≠ [] := by
  have R := O.g
  have h3 := R.pr.ge
  obtain ⟨e2, e8, ed⟩ := okE_iff.mp O.e
  have hle : c.e ≤ c.p - 1 := Nat.le_of_dvd (by omega) (Nat.dvd_of_mod_eq_zero ed)
  have h1 := R.pr.pow R.nz i
  have h2 : c.g ^ i % c.p < c.p := Nat.mod_lt _ (by omega)
  have m : c.g ^ i % c.p ∈ Kp302.members c i := by
    refine mem_members.mpr ⟨by omega, by omega, ?_⟩
    rw [idx_mod, idx_pow R, Nat.mod_eq_of_lt (show i < c.p - 1 by omega), Nat.mod_eq_of_lt hi]
  exact List.ne_nil_of_mem m
/-- two rising lists with the same items -/
theorem sorted_eq {l m : List Nat} (h : l.Perm m) (hl : l.Pairwise (· ≤ ·)) (hm : m.Pairwise (· < ·)) : l = m :=
  List.Perm.eq_of_pairwise (le := (· ≤ ·)) (fun a b _ _ h1 h2 => by omega) hl (List.Pairwise.imp (fun {a b} h => by omega) hm) h
end Pw

set_option Elab.async false
set_option maxRecDepth 100000
namespace Pw
theorem Ok.two {c : Kp302.Classes} (O : Ok c) : 2 ≤ c.e ∧ c.e ∣ c.p - 1 := by
  obtain ⟨e2, _, ed⟩ := okE_iff.mp O.e
  exact ⟨e2, Nat.dvd_of_mod_eq_zero ed⟩
/-- a member is a remainder -/
theorem members_lt {c : Kp302.Classes} {i x : Nat} (O : Ok c) (h : x ∈ Kp302.members c i) : 1 ≤ x ∧ x < c.p ∧ x % c.p = x ∧ x % c.p ≠ 0 := by
  obtain ⟨h1, h2, _⟩ := mem_members.mp h
  have := O.g.pr.ge
  have e : x % c.p = x := Nat.mod_eq_of_lt (by omega)
  exact ⟨h1, by omega, e, by omega⟩
/-- right behind -/
theorem behind_iff {c : Kp302.Classes} {i j x : Nat} (O : Ok c) (h : x ∈ Kp302.members c i) : ((x + 1) % c.p != 0 && Kp302.cls c (x + 1) == j) = decide (x + 1 ∈ Kp302.members c j) := by
  obtain ⟨h1, h2, _, _⟩ := members_lt O h
  rw [Bool.eq_iff_iff, decide_eq_true_eq, Bool.and_eq_true, bne_iff_ne, beq_iff_eq, mem_members]
  unfold Kp302.cls
  by_cases e : x + 1 = c.p
  · rw [e, Nat.mod_self]
    constructor
    · rintro ⟨z, _⟩
      exact absurd rfl z
    · rintro ⟨_, z, _⟩
      have := O.g.pr.ge
      omega
  · rw [Nat.mod_eq_of_lt (by omega)]
    constructor
    · rintro ⟨_, z⟩
      exact ⟨by omega, by omega, z⟩
    · rintro ⟨_, _, z⟩
      exact ⟨by omega, z⟩
/-- of which class a product is -/
theorem cls_mul {c : Kp302.Classes} {x a : Nat} (O : Ok c) (hx : x % c.p ≠ 0) (ha : a % c.p ≠ 0) : Kp302.index c (x * a) % c.e = (Kp302.index c x % c.e + Kp302.index c a) % c.e := by
  rw [idx_mul O.g hx ha, Nat.mod_mod_of_dvd _ O.two.2, Nat.mod_add_mod]
theorem times_of {c : Kp302.Classes} {i x a : Nat} (O : Ok c) (h : x ∈ Kp302.members c i) (ha : a % c.p ≠ 0) : Kp302.index c (x * a) % c.e = Kp302.times c i a := by
  rw [cls_mul O (members_lt O h).2.2.2 ha, (mem_members.mp h).2.2]
  rfl
theorem neg_one {c : Kp302.Classes} (O : Ok c) : (c.p - 1) % c.p ≠ 0 := by
  have := O.g.pr.ge
  rw [Nat.mod_eq_of_lt (by omega)]
  omega
theorem opposite_of {c : Kp302.Classes} {i x : Nat} (O : Ok c) (h : x ∈ Kp302.members c i) : Kp302.index c (c.p - x) % c.e = Kp302.times c i (c.p - 1) := by
  obtain ⟨h1, h2, _, _⟩ := members_lt O h
  rw [← times_of O h (neg_one O), ← idx_mod (c := c) (c.p - x), ← idx_mod (c := c) (x * (c.p - 1))]
  congr 2
  have e : x * (c.p - 1) = (c.p - x) + c.p * (x - 1) := by
    obtain ⟨p, hp⟩ : ∃ p, c.p = p + 1 := ⟨c.p - 1, by omega⟩
    obtain ⟨y, rfl⟩ : ∃ y, x = y + 1 := ⟨x - 1, by omega⟩
    rw [hp]
    have e1 : p + 1 - 1 = p := rfl
    have e2 : y + 1 - 1 = y := rfl
    rw [e1, e2, Nat.succ_mul, Nat.succ_mul, Nat.mul_comm p y]
    omega
  rw [e, Nat.add_mul_mod_self_left]
/-- the sum -/
theorem foldl_sum : ∀ (l : List Nat) (a : Nat), l.foldl (fun (a b : Nat) => a + b) a = a + l.sum
  | [], a => by simp
  | x :: l, a => by
    rw [List.foldl_cons, foldl_sum l, List.sum_cons]
    omega
theorem sum_eq (l : List Nat) : Kp302.sum l = l.sum := by
  unfold Kp302.sum
  rw [foldl_sum, Nat.zero_add]
theorem sum_cast : ∀ l : List Nat, ((l.map fun (n : Nat) => (n : Int)).sum) = ((l.sum : Nat) : Int)
  | [] => rfl
  | x :: l => by
    rw [List.map_cons, List.sum_cons, List.sum_cons, sum_cast l]
    omega
/-! ### differences -/
/-- what s less d leaves -/
def less (p s d : Nat) : Nat := (s + p - d % p) % p
theorem less_lt {p s d : Nat} (hp : 0 < p) : less p s d < p := Nat.mod_lt _ hp
theorem less_int {p s d : Nat} (hp : 0 < p) : ((s : Int) - (d : Int)) % (p : Int) = ((less p s d : Nat) : Int) := by
  have hd : d % p < p := Nat.mod_lt _ hp
  unfold less
  have e : ((s + p - d % p : Nat) : Int) = (s : Int) - (d : Int) + (p : Int) * ((d / p : Nat) + 1 : Int) := by
    have h1 : (d : Int) = (p : Int) * ((d / p : Nat) : Int) + ((d % p : Nat) : Int) := by
      have := Nat.div_add_mod d p
      rw [← Int.natCast_mul, ← Int.natCast_add, this]
    rw [Int.mul_add, Int.mul_one]
    omega
  rw [Int.natCast_emod, e, Int.add_mul_emod_self_left]
/-- t is s less d just if s less t leaves what d does -/
theorem less_iff {p s t d : Nat} (hs : s < p) (ht : t < p) : t = less p s d ↔ less p s t = d % p := by
  have hp : 0 < p := by omega
  have hd : d % p < p := Nat.mod_lt _ hp
  have key : ∀ a b : Nat, a < p → b < p → (a + p - b) % p = if b ≤ a then a - b else a + p - b := fun a b ha hb => by
    by_cases h : b ≤ a
    · rw [if_pos h, show a + p - b = (a - b) + p by omega, Nat.add_mod_right, Nat.mod_eq_of_lt (by omega)]
    · rw [if_neg h, Nat.mod_eq_of_lt (by omega)]
  unfold less
  rw [Nat.mod_eq_of_lt ht, key s (d % p) hs hd, key s t hs ht]
  split <;> split <;> omega
theorem filter_one {l : List Nat} (h : l.Nodup) (y : Nat) : (l.filter fun t => t == y).length = if l.contains y = true then 1 else 0 := by
  induction l with
  | nil => rfl
  | cons a l ih =>
    obtain ⟨h1, h2⟩ := List.nodup_cons.mp h
    have ih := ih h2
    rw [List.filter_cons, List.contains_cons]
    by_cases e : a = y
    · subst e
      have hc : l.contains a = false := by
        cases z : l.contains a with
        | false => rfl
        | true => exact absurd (List.contains_iff_mem.mp z) h1
      rw [hc] at ih
      simp only [beq_self_eq_true, if_true, List.length_cons, Bool.true_or]
      rw [ih]
      rfl
    · have e1 : (a == y) = false := beq_eq_false_iff_ne.mpr e
      have e2 : (y == a) = false := beq_eq_false_iff_ne.mpr fun z => e z.symm
      rw [e1, e2, Bool.false_or]
      exact ih
/-- how many of l stand as the second of a pair with s -/
theorem pairs_one {p : Nat} {l : List Nat} (hl : l.Nodup) (hp : ∀ x ∈ l, x < p) {s : Nat} (hs : s < p) (d : Nat) : (l.filter fun t => less p s t == d % p).length = if l.contains (less p s d) = true then 1 else 0 := by
  rw [← filter_one hl]
  congr 1
  refine List.filter_congr fun t ht => ?_
  rw [Bool.eq_iff_iff, beq_iff_eq, beq_iff_eq]
  exact (less_iff hs (hp t ht)).symm
/-- the specification's count is the count of ordered pairs -/
theorem differs_pairs {p : Nat} {l : List Nat} (hl : l.Nodup) (hp : ∀ x ∈ l, x < p) (d : Nat) : Kp302.differs p l d = (l.map fun s => (l.filter fun t => less p s t == d % p).length).sum := by
  have key : ∀ m : List Nat, (∀ x ∈ m, x < p) → (m.filter fun s => l.contains (less p s d)).length = (m.map fun s => (l.filter fun t => less p s t == d % p).length).sum := by
    intro m
    induction m with
    | nil => intro _; rfl
    | cons a m ih =>
      intro hm
      have ih := ih fun x hx => hm x (List.mem_cons_of_mem _ hx)
      rw [List.map_cons, List.sum_cons, ← ih, pairs_one hl hp (hm a List.mem_cons_self), List.filter_cons]
      cases l.contains (less p a d) with
      | true =>
        rw [if_pos rfl, if_pos rfl, List.length_cons]
        omega
      | false =>
        rw [if_neg Bool.false_ne_true, if_neg Bool.false_ne_true]
        omega
  exact key l hp
end Pw

set_option Elab.async false
set_option maxRecDepth 100000
namespace Pw
/-! ### counts of differences -/
/-- how often each number below p comes in L -/
def hist (p : Nat) (L : List Nat) : List Nat := (List.range p).map fun d => L.count d
theorem hist_length (p : Nat) (L : List Nat) : (hist p L).length = p := by
  unfold hist
  rw [List.length_map, List.length_range]
theorem hist_get {p : Nat} (L : List Nat) {d : Nat} (h : d < p) : (hist p L)[d]? = some (L.count d) := by
  unfold hist
  rw [List.getElem?_map, List.getElem?_range h]
  rfl
theorem hist_nil (p : Nat) : hist p [] = List.replicate p 0 := by
  unfold hist
  refine List.ext_getElem? fun i => ?_
  rw [List.getElem?_map, List.getElem?_replicate]
  by_cases h : i < p
  · rw [List.getElem?_range h, if_pos h]
    rfl
  · rw [if_neg h, List.getElem?_eq_none (by rw [List.length_range]; omega)]
    rfl
theorem hist_snoc {p : Nat} (L : List Nat) {x : Nat} (h : x < p) : hist p (L ++ [x]) = (hist p L).set x (L.count x + 1) := by
  refine List.ext_getElem? fun i => ?_
  by_cases hi : i < p
  · rw [hist_get _ hi, List.getElem?_set, List.count_append]
    by_cases e : x = i
    · subst e
      rw [if_pos rfl, if_pos (by rw [hist_length]; exact h)]
      congr 1
      rw [List.count_singleton_self]
    · rw [if_neg e, hist_get _ hi]
      congr 1
      rw [List.count_singleton, if_neg (by rw [beq_iff_eq]; exact e)]
      rfl
  · rw [List.getElem?_eq_none (by rw [hist_length]; omega), List.getElem?_eq_none (by rw [List.length_set, hist_length]; omega)]
/-- all differences, pair by pair -/
def diffs (p : Nat) (l : List Nat) (m : List Nat) : List Nat := m.flatMap fun s => l.map (less p s)
theorem diffs_snoc (p : Nat) (l : List Nat) {m : List Nat} {i s : Nat} (h : m[i]? = some s) : diffs p l (m.take (i + 1)) = diffs p l (m.take i) ++ l.map (less p s) := by
  have : m.take (i + 1) = m.take i ++ [s] := by rw [List.take_succ, h]; rfl
  rw [this]
  unfold diffs
  rw [List.flatMap_append, List.flatMap_cons, List.flatMap_nil, List.append_nil]
theorem map_snoc {α β : Type} (f : α → β) {m : List α} {i : Nat} {s : α} (h : m[i]? = some s) : (m.take (i + 1)).map f = (m.take i).map f ++ [f s] := by
  have : m.take (i + 1) = m.take i ++ [s] := by rw [List.take_succ, h]; rfl
  rw [this, List.map_append]
  rfl
theorem count_map (f : Nat → Nat) (d : Nat) : ∀ l : List Nat, (l.map f).count d = (l.filter fun t => f t == d).length
  | [] => rfl
  | x :: l => by
    rw [List.map_cons, List.count_cons, count_map f d l, List.filter_cons]
    cases f x == d with
    | true => rw [if_pos rfl, if_pos rfl, List.length_cons]
    | false => rw [if_neg Bool.false_ne_true, if_neg Bool.false_ne_true, Nat.add_zero]
theorem diffs_count {p : Nat} {l : List Nat} (hl : l.Nodup) (hp : ∀ x ∈ l, x < p) {d : Nat} (hd : d < p) : (diffs p l l).count d = Kp302.differs p l d := by
  rw [differs_pairs hl hp, Nat.mod_eq_of_lt hd]
  have key : ∀ m : List Nat, (diffs p l m).count d = (m.map fun s => (l.filter fun t => less p s t == d).length).sum := by
    intro m
    induction m with
    | nil => rfl
    | cons s m ih =>
      have : diffs p l (s :: m) = l.map (less p s) ++ diffs p l m := rfl
      rw [this, List.count_append, ih, count_map, List.map_cons, List.sum_cons]
  exact key l
theorem differs_mod (p : Nat) (l : List Nat) (d : Nat) : Kp302.differs p l (d % p) = Kp302.differs p l d := by
  unfold Kp302.differs
  rw [Nat.mod_mod]
/-- the differences but 0 -/
theorem hist_tail {p : Nat} {l : List Nat} (hl : l.Nodup) (hp : ∀ x ∈ l, x < p) : (hist p (diffs p l l)).drop 1 = (List.range (p - 1)).map fun k => Kp302.differs p l (k + 1) := by
  refine List.ext_getElem? fun i => ?_
  rw [List.getElem?_drop, List.getElem?_map]
  by_cases h : i < p - 1
  · rw [hist_get _ (by omega), List.getElem?_range h, diffs_count hl hp (by omega), Nat.add_comm]
    rfl
  · rw [List.getElem?_eq_none (by rw [hist_length]; omega), List.getElem?_eq_none (by rw [List.length_range]; omega)]
    rfl
theorem even_iff {p : Nat} {l : List Nat} {lo hi : Int} (h2 : 1 < p) (m1 : lo ∈ ((List.range (p - 1)).map fun k => Kp302.differs p l (k + 1)).map fun (n : Nat) => (n : Int)) (m2 : hi ∈ ((List.range (p - 1)).map fun k => Kp302.differs p l (k + 1)).map fun (n : Nat) => (n : Int))
    (a1 : ∀ y ∈ ((List.range (p - 1)).map fun k => Kp302.differs p l (k + 1)).map fun (n : Nat) => (n : Int), lo ≤ y) (a2 : ∀ y ∈ ((List.range (p - 1)).map fun k => Kp302.differs p l (k + 1)).map fun (n : Nat) => (n : Int), y ≤ hi) : decide (lo = hi) = Kp302.even p l := by
  have at_ : ∀ k, k < p - 1 → ((Kp302.differs p l (k + 1) : Nat) : Int) ∈ ((List.range (p - 1)).map fun k => Kp302.differs p l (k + 1)).map fun (n : Nat) => (n : Int) := fun k hk =>
    List.mem_map_of_mem (List.mem_map_of_mem (f := fun k => Kp302.differs p l (k + 1)) (List.mem_range.mpr hk))
  have of_ : ∀ z : Int, z ∈ ((List.range (p - 1)).map fun k => Kp302.differs p l (k + 1)).map (fun (n : Nat) => (n : Int)) → ∃ k, k < p - 1 ∧ z = (Kp302.differs p l (k + 1) : Nat) := fun z hz => by
    obtain ⟨n, hn, rfl⟩ := List.mem_map.mp hz
    obtain ⟨k, hk, rfl⟩ := List.mem_map.mp hn
    exact ⟨k, List.mem_range.mp hk, rfl⟩
  rw [Bool.eq_iff_iff, decide_eq_true_eq]
  unfold Kp302.even
  rw [List.all_eq_true]
  constructor
  · intro e k hk
    have hk := List.mem_range.mp hk
    have b1 := a1 _ (at_ k hk)
    have b2 := a2 _ (at_ k hk)
    have b3 := a1 _ (at_ 0 (by omega))
    have b4 := a2 _ (at_ 0 (by omega))
    rw [Nat.zero_add] at b3 b4
    exact beq_iff_eq.mpr (by omega)
  · intro h
    obtain ⟨k, hk, rfl⟩ := of_ lo m1
    obtain ⟨j, hj, rfl⟩ := of_ hi m2
    have e1 := beq_iff_eq.mp (h k (List.mem_range.mpr hk))
    have e2 := beq_iff_eq.mp (h j (List.mem_range.mpr hj))
    rw [e1, e2]
/-! ### with 0 -/
theorem zero_nodup {c : Kp302.Classes} {i : Nat} : (0 :: Kp302.members c i).Nodup := by
  refine List.nodup_cons.mpr ⟨fun h => ?_, members_nodup c i⟩
  have := (mem_members.mp h).1
  omega
/-! ### right behind -/
theorem behind_eq {c : Kp302.Classes} (O : Ok c) (i j : Nat) : ((Kp302.members c i).filter fun x => (Kp302.members c j).contains (x + 1)).length = Kp302.behind c i j := by
  unfold Kp302.behind
  congr 1
  refine List.filter_congr fun x hx => ?_
  rw [behind_iff O hx, Bool.eq_iff_iff, decide_eq_true_eq, List.contains_iff_mem]
theorem row_length (c : Kp302.Classes) (i : Nat) : (Kp302.row c i).length = c.e := by
  unfold Kp302.row
  rw [List.length_map, List.length_range]
theorem row_get (c : Kp302.Classes) (i : Nat) {j : Nat} (h : j < c.e) : (List.range c.e)[j]? = some j := List.getElem?_range h
theorem rows_snoc (c : Kp302.Classes) {i : Nat} (h : i < c.e) : ((List.range c.e).take (i + 1)).flatMap (Kp302.row c) = ((List.range c.e).take i).flatMap (Kp302.row c) ++ Kp302.row c i := by
  have : (List.range c.e).take (i + 1) = (List.range c.e).take i ++ [i] := by rw [List.take_succ, List.getElem?_range h]; rfl
  rw [this, List.flatMap_append, List.flatMap_cons, List.flatMap_nil, List.append_nil]
theorem rows_length (c : Kp302.Classes) : ∀ m : List Nat, (m.flatMap (Kp302.row c)).length = m.length * c.e
  | [] => by simp
  | i :: m => by
    rw [List.flatMap_cons, List.length_append, rows_length c m, row_length, List.length_cons, Nat.succ_mul]
    omega
end Pw

set_option Elab.async false
set_option linter.all false
set_option maxRecDepth 100000
namespace L2
open PySem PySem.Spec PyProof.Rows
theorem bt_list : bootBuiltins "list" = some (.type "list") := by decide +kernel
theorem bt_sorted : bootBuiltins "sorted" = some (.builtin "sorted") := by decide +kernel
section
variable {X : Cx}
/-! ### sorted(xs), any length -/
def rSortedA (K : PySem.W.Frag) : List V → Hp → VK → Prop := fun vs H Q => ∃ (a : Addr) (ns : List Int), vs = [V.ref a] ∧ SqL K H a (ns.map V.int) ∧
  ∀ (ns' : List Int) (p : Addr), ns'.Perm ns → ns'.Pairwise (· ≤ ·) → H p = none → Q (.ref p) (upd H p (.lst (ns'.map V.int)))
theorem cr_sortedA : CallR X (.builtin "sorted") (rSortedA X.K) := by
  intro pins s σ H vs us Q I r h
  obtain ⟨a, ns, rfl, hs, q⟩ := h
  obtain ⟨its, rv, hl, hz⟩ := I.list hs
  rw [Vals.ref1 r]
  have hi := rv.ints
  have hlen := rv.length
  refine PyProof.Rows.sorted_intsAny hl.isList hi (by rw [← hlen]; exact hz) fun out ns' h1 h2 h3 => ?_
  obtain ⟨ep, he'⟩ := PyProof.Rows.sortedAll_at s.heap its out
  have hlen : (ns'.map V.int).length ≤ sizeLine := by
    rw [List.length_map] at hz ⊢
    rw [h2.length_eq]
    exact hz
  exact ⟨.ref _, upd H (s.heap.objs.size + 1) (.lst (ns'.map V.int)), I.laid (t' := s.toks) (fun _ _ => PyProof.Rows.sortedAll_old) (Nat.le_succ _) ⟨hlen, out.toList, ep, vals_of_ints h1, he'⟩, rfl, q ns' _ h2 h3 (I.hok.fresh (Nat.le_succ _))⟩

/-! ### list(range(a, b)) -/
theorem vals_items {a : Int} : ∀ {n : Nat} {acc : Array Value}, ItemsOf (fun i v => ∃ t, v = Value.int (a + i * 1) t) acc n → Vals ((List.range n).map fun i => V.int (a + (i : Nat))) acc.toList := by
  intro n acc h
  obtain ⟨h1, h2⟩ := h
  have key : ∀ (l : List Value) (k : Nat), (∀ (i : Nat) (v : Value), l[i]? = some v → ∃ t, v = Value.int (a + ((k + i : Nat) : Int)) t) → Vals ((List.range' k l.length).map fun i => V.int (a + (i : Nat))) l := by
    intro l
    induction l with
    | nil => intro k _; exact .nil
    | cons u l ih =>
      intro k hk
      rw [List.length_cons, List.range'_succ, List.map_cons]
      refine .cons (hk 0 u rfl) (ih (k + 1) fun i v e => ?_)
      obtain ⟨t, ht⟩ := hk (i + 1) v e
      exact ⟨t, by rw [ht]; congr 2; omega⟩
  have := key acc.toList 0 fun i v e => by
    rw [Array.getElem?_toList] at e
    obtain ⟨t, ht⟩ := h2 i v e
    exact ⟨t, by rw [ht]; congr 1 <;> omega⟩
  rw [Array.length_toList, h1] at this
  rw [List.range_eq_range']
  exact this
def tListR2 (ta : TA) : TE := fun σ H Q => ta σ H fun vs H1 => ∃ i j : Int, vs = [.int i, .int j] ∧ (-(2 ^ 62) ≤ i ∧ i < 2 ^ 62 ∧ -(2 ^ 62) ≤ j ∧ j < 2 ^ 62) ∧ (j - i).toNat ≤ 2 ^ 24 ∧
  ∀ p, H1 p = none → Q (.ref p) (upd H1 p (.lst ((List.range (j - i).toNat).map fun k => V.int (i + (k : Nat)))))
theorem pe_listRange2 {a b : Expr} {ta : TA} {p p' pos pos' : Pos} (hc : X.calm = true) (hgl : Gl X "list") (hml : X.mg "list" = none) (hg : Gl X "range") (hm : X.mg "range" = none) (ha : PA X [a, b] ta)
    (hs : starEach [a, b] X.env = [(false, eval a X.env), (false, eval b X.env)] := by rfl) (hs2 : starEach [b] X.env = [(false, eval b X.env)] := by rfl)
    (hs3 : starEach [.Call (.Name "range" p) [a, b] [] pos] X.env = [(false, eval (.Call (.Name "range" p) [a, b] [] pos) X.env)] := by rfl) :
    PE X (.Call (.Name "list" p') [.Call (.Name "range" p) [a, b] [] pos] [] pos') (tListR2 ta) := by
  intro pins s σ H Q I h
  refine wpAny_Call_Name_kw (ld_blt I hgl hml bt_list ?_)
  refine PyProof.Rows.callWith_type1 (e := .Call (.Name "range" p) [a, b] [] pos) (rest := []) ?_ (by rw [hs3]; rfl) rfl
  rw [hs3]
  refine Calls.spliced_cons ?_
  refine Call_ (ld_blt I hg hm boot_range (PyProof.Rows.callWith_type1 (thn (ha pos pins s σ H _ I h) fun us s1 ⟨vs, H1, I1, r1, q1⟩ => ?_) (by rw [hs, hs2]) (by rw [hs2]; rfl)))
  obtain ⟨i, j, e, ⟨q1, q2, q3, q4⟩, hz, q⟩ := q1
  subst e
  cases r1 with
  | cons r rr =>
    cases rr with
    | cons r' rr =>
      cases rr
      obtain ⟨t, rfl⟩ := r
      obtain ⟨t', rfl⟩ := r'
      refine call_range_2 ?_
      refine Calls.spliced_nil ?_
      have e2 : Builtin.Range.rangeSize i j 1 = (((j - i).toNat : Nat) : Int) := by rw [rangeSize_one]; split <;> omega
      refine call_list_range (I.ok.hd hc) (IsRange.new ..) (small_one q1 q2 q3 q4) e2 hz fun h' tk acc' c' hk hS hacc => ?_
      have I2 : Inv X pins σ H1 { s1 with heap := s1.heap.push { cls := .type "range", data := .fields #[.int i t, .int j t', .int 1 s1.toks] }, toks := s1.toks + 1 } := I1.kept fun b o e => Heap.get?_push_of_some _ e
      refine ⟨.ref _, _, I2.laid (o := .lst ((List.range (j - i).toNat).map fun k => V.int (i + (k : Nat)))) hk (Nat.le_refl _) ?_, rfl, q _ (I2.hok.fresh (Nat.le_refl _))⟩
      refine ⟨by rw [List.length_map, List.length_range, sizeLine_eq]; exact hz, acc'.toList, c', vals_items hacc, ?_⟩
      simpa using hS

/-! ### xs[lo:hi:st] of a list, st not 0 -/
def pickV (xs : List V) (lo hi st : Option Int) : List V :=
  (sliceRange (sliceBounds lo hi st xs.length).1 (sliceBounds lo hi st xs.length).2.1 (sliceBounds lo hi st xs.length).2.2).filterMap (xs[·]?)
theorem Vals.places {xs : List V} {us : List Value} (h : Vals xs us) : ∀ js : List Nat, Vals (js.filterMap (xs[·]?)) (js.filterMap (us[·]?))
  | [] => .nil
  | j :: js => by
    have ih := Vals.places h js
    cases hx : xs[j]? with
    | some x =>
      obtain ⟨u, hu, ru⟩ := h.get hx
      simp only [List.filterMap_cons, hx, hu]
      exact .cons ru ih
    | none =>
      have hu : us[j]? = none := by
        rw [List.getElem?_eq_none_iff] at hx ⊢
        rw [← h.length]; exact hx
      simp only [List.filterMap_cons, hx, hu]
      exact ih
def tSl3 (K : PySem.W.Frag) (te : TE) (tl th ts : TO) : TE := fun σ H Q => te σ H fun x H1 => tl σ H1 fun l H2 => th σ H2 fun u H3 => ts σ H3 fun k H4 =>
  ∃ a xs, x = .ref a ∧ k ≠ some 0 ∧ SqL K H4 a xs ∧ ∀ p, H4 p = none → Q (.ref p) (upd H4 p (.lst (pickV xs l u k)))
theorem pe_slice3 {e : Expr} {te : TE} {lo hi : Option Expr} {st : Expr} {tl th ts : TO} {pos p2 : Pos} (he : PE X e te) (hl : PO X lo tl) (hu : PO X hi th) (hk : PO X (some st) ts) : PE X (.Subscript e (.Slice lo hi (some st) p2) pos) (tSl3 X.K te tl th ts) := by
  intro pins s σ H Q I h
  refine Subscript_ (thn (he pins s σ H _ I h) fun v s1 ⟨x, H1, I1, r1, q1⟩ => ?_)
  refine wpAny_Slice (thn (hl pins s1 σ H1 _ I1 q1) fun vl s2 ⟨l, H2, I2, pl, q2⟩ => thn (hu pins s2 σ H2 _ I2 q2) fun vu s3 ⟨u, H3, I3, pu, q3⟩ => thn (hk pins s3 σ H3 _ I3 q3) fun vk s4 ⟨k, H4, I4, pk, q4⟩ => ?_)
  obtain ⟨a, xs, rfl, k0, hx, q⟩ := q4
  cases r1
  have I5 : Inv X pins σ H4 { s4 with heap := s4.heap.push { cls := .type "slice", data := .fields #[vl, vu, vk] } } := I4.kept (t' := s4.toks) fun b ob q => Heap.get?_push_of_some _ q
  obtain ⟨its, r, ht, hz⟩ := I5.list hx
  have hlen := r.length
  show wpAny (model X.prog X.w) X.A (subscriptTail e (.Slice lo hi (some st) p2) (.ref a) (.ref s4.heap.objs.size)) (EP X pins σ Q) X.xe { s4 with heap := s4.heap.push { cls := .type "slice", data := .fields #[vl, vu, vk] } }
  refine tail_any (ops := [.ref a, .ref s4.heap.objs.size]) ht.isList.typeIs slot_list_getitem.lookup (wpAny_getItem_list_slice ht.isList (Heap.IsSliceOf.new ..) pl pu pk k0 ?_ (by rw [List.size_toArray] <;> omega)) (by with_unfolding_all rfl)
  have hp : slicePick its.toArray l u k = ((sliceRange (sliceBounds l u k xs.length).1 (sliceBounds l u k xs.length).2.1 (sliceBounds l u k xs.length).2.2).filterMap (its[·]?)).toArray := by
    simp [slicePick, hlen]
  have hv := Vals.places r (sliceRange (sliceBounds l u k xs.length).1 (sliceBounds l u k xs.length).2.1 (sliceBounds l u k xs.length).2.2)
  have hs : (pickV xs l u k).length ≤ sizeLine := by
    have e1 := hv.length
    have e2 := slicePick_size_le its.toArray l u k
    rw [hp, List.size_toArray, List.size_toArray] at e2
    unfold pickV
    omega
  rw [hp]
  exact ⟨.ref _, _, I5.laid (t' := s4.toks) (o := .lst (pickV xs l u k)) (fun b ob q => Heap.get?_push_of_some _ q) (Nat.le_refl _) ⟨hs, _, 0, hv, Heap.get?_push_size _ rfl⟩, rfl, q _ (I5.hok.fresh (Nat.le_refl _))⟩

/-! ### a call of a def that a local name holds -/
/-- a def that may be called with values, at a depth of k -/
structure Callee (P : Program) (w : World) (K : PySem.W.Frag) (mg : Str → Option Value) (base : Heap) (k : Nat) (f : Addr) (sp : Sp) : Prop where
  ex : ∃ (fd : FuncData) (ps : List Str) (k0 : Nat), Binds K fd ps [] ∧ PySem.W.keepIn K (.ref f) = true ∧ k0 ≤ k ∧ FnOk P w K mg base CX0 k0 f fd ps sp
def tCallV (X : Cx) (k i : Nat) (t : TA) : TE := fun σ H Q => ∃ f sp, σ[i]? = some (some (.ref f)) ∧ Callee X.prog X.w X.K X.mg X.base k f sp ∧ t σ H fun vs H1 => sp vs H1 Q E0
theorem pe_callV {k i : Nat} {x : Str} {p pos : Pos} {e : Expr} {es : List Expr} {t : TA} (hr : Room k X.A) (hN : X.N[i]? = some x) (hv : Vis X.env.scope x) (ha : PA X (e :: es) t)
    (he : starEach (e :: es) X.env = (false, eval e X.env) :: starEach es X.env := by rfl) (hpl : (backTo pos (starEach es X.env)).any (·.1) = false := by rfl)
    (hd : (x == ("__debug__" : Str)) = false := by decide) (hcd : (x == ("__classdict__" : Str)) = false := by decide) :
    PE X (.Call (.Name x p) (e :: es) [] pos) (tCallV X k i t) := by
  intro pins s σ H Q I h
  obtain ⟨f, sp, hf, ⟨fd, ps, k0, hb, hk, hk0, F⟩, h⟩ := h
  refine wpAny_Call_Name_kw (thn (pe_var (i := i) (pos := p) hN hv hd hcd pins s σ H (fun v H1 => v = .ref f ∧ t σ H1 fun vs H1 => sp vs H1 Q E0) I ⟨_, hf, rfl, h⟩) fun v s1 ⟨y, H1, I1, r1, e1, q1⟩ => ?_)
  subst e1
  cases r1
  refine PySem.W.callWith_K (h₀ := X.base) I.ok.mod.kin hk (thn (ha pos pins s1 σ H1 _ I1 q1) fun us s2 ⟨vs, H2, I2, r, q2⟩ => ⟨I2.kIn, ?_⟩) he hpl
  exact run_fn (dvs := []) (ds := []) (E := E0) F (hr.mono hk0) hb .nil pass0 I2 r (by rw [List.append_nil]; exact q2)

/-! ### a def of the module by its name -/
structure Has (P : Program) (w : World) (K : PySem.W.Frag) (mg : Str → Option Value) (base : Heap) (k : Nat) (x : Str) (sp : Sp) : Prop where
  ex : ∃ (f : Addr) (fd : FuncData) (ps : List Str), mg x = some (.ref f) ∧ PySem.W.keepIn K (.ref f) = true ∧ Binds K fd ps [] ∧ FnOk P w K mg base CX0 k f fd ps sp
def tFn (sp : Sp) (t : TA) : TE := fun σ H Q => t σ H fun vs H1 => sp vs H1 Q E0
theorem pe_fn {k : Nat} {x : Str} {sp : Sp} {p pos : Pos} {e : Expr} {es : List Expr} {t : TA} (F : Has X.prog X.w X.K X.mg X.base k x sp) (hr : Room k X.A) (hg : Gl X x) (ha : PA X (e :: es) t)
    (hdb : (x == ("__debug__" : Str)) = false := by decide) (he : starEach (e :: es) X.env = (false, eval e X.env) :: starEach es X.env := by rfl) (hpl : (backTo pos (starEach es X.env)).any (·.1) = false := by rfl) :
    PE X (.Call (.Name x p) (e :: es) [] pos) (tFn sp t) := by
  obtain ⟨f, fd, ps, hm, hk, hb, F⟩ := F.ex
  have h := pe_call (p := p) (pos := pos) (E := E0) F hr hg hm hk hb .nil pass0 ha hdb he hpl
  intro pins s σ H Q I q
  refine h pins s σ H Q I ?_
  have : tFn sp t = tCall sp [] E0 t := by
    unfold tFn tCall
    simp only [List.append_nil]
  rw [this] at q
  exact q

/-! ### two lists of ints compared -/
def rEqL (K : PySem.W.Frag) : R2 := fun x y H Q => ∃ (a b : Addr) (ns ms : List Int), x = .ref a ∧ y = .ref b ∧ SqL K H a (ns.map V.int) ∧ SqL K H b (ms.map V.int) ∧ Q (.bl (decide (ns = ms))) H
theorem dp_ints {K : PySem.W.Frag} {H : Hp} : ∀ ns : List Int, DpAll K H (ns.map V.int) (ns.map PyData.int)
  | [] => .nil
  | n :: ns => .cons (.int n) (dp_ints ns)
theorem op_eqL (hu : X.A.units + 64 < cLine) : OpR X (compareOp .Eq) (rEqL X.K) := by
  intro pins s σ H x y v u Q I rx ry h
  obtain ⟨a, b, ns, ms, rfl, rfl, ha, hb, q⟩ := h
  refine op_eqD hu pins s σ H _ _ v u Q I rx ry ⟨_, _, .lst ha (dp_ints ns), .lst hb (dp_ints ms), PySem.W.ke_shaped_ints _, PySem.W.ke_shaped_ints _, ?_⟩
  rw [show PyData.eqv (.list (ns.map PyData.int)) (.list (ms.map PyData.int)) = decide (ns = ms) from PySem.W.ked_eqvAll ns ms]
  exact q

/-! ### % and // of two numbers that are not below 0 -/
theorem op_modn : OpR X (binaryOp .Mod) (fun x y H Q => ∃ i j : Nat, x = .int i ∧ y = .int j ∧ 0 < j ∧ Q (.int ((i % j : Nat) : Int)) H) := by
  intro pins s σ H x y v u Q I rx ry h
  obtain ⟨i, j, rfl, rfl, hj, q⟩ := h
  refine op_mod pins s σ H _ _ v u Q I rx ry ⟨i, j, rfl, rfl, by show (0 : Int) < j; omega, ?_⟩
  show Q (.int ((i : Int) % (j : Int))) H
  rw [← Int.natCast_emod]
  exact q
theorem op_divn : OpR X (binaryOp .FloorDiv) (fun x y H Q => ∃ i j : Nat, x = .int i ∧ y = .int j ∧ (0 < j ∧ j < 1073741824) ∧ Q (.int ((i / j : Nat) : Int)) H) := by
  intro pins s σ H x y v u Q I rx ry h
  obtain ⟨i, j, rfl, rfl, ⟨hj, hj2⟩, q⟩ := h
  refine op_fdiv pins s σ H _ _ v u Q I rx ry ⟨i, j, rfl, rfl, ⟨by omega, by omega⟩, ?_⟩
  show Q (.int ((i : Int) / (j : Int))) H
  rw [← Int.natCast_ediv]
  exact q
end
end L2

set_option Elab.async false
set_option linter.all false
set_option maxRecDepth 100000
set_option maxHeartbeats 2000000
namespace Pw
open PySem PySem.Spec PyProof.Rows L2
/-! ### the text by places -/
def top (i : Nat) : Stmt := PySem.Challenge.pw_powerclasses_s01_answers.main.body.getD i (.Pass ⟨0, 0, 0, 0⟩)
abbrev sPrime : Stmt := top 6
abbrev sPowers : Stmt := top 7
abbrev sLeaves : Stmt := top 8
abbrev sLeast : Stmt := top 9
abbrev sRoots : Stmt := top 10
/-! ### what the module's part remainders has -/
structure TR (mg : Str → Option Value) : Prop where
  range : mg "range" = none
  lst : mg "list" = none
  sorted : mg "sorted" = none
  bound : ∃ t, mg "PRIME_BOUND" = some (.int 200 t)
abbrev natsV (l : List Nat) : List V := l.map fun (n : Nat) => V.int (n : Int)
theorem pe_gint {X : Cx} {x : Str} {z : Int} {t : Tok} {pos : Pos} (hg : Gl X x) (hm : X.mg x = some (.int z t)) (hd : (x == ("__debug__" : Str)) = false := by decide) : PE X (.Name x pos) (tC (.int z)) := pe_glob hg hm ⟨t, rfl⟩ hd
theorem iteD {c A B : Prop} [Decidable c] (h1 : c → A) (h2 : ¬ c → B) : if decide c = true then A else B := by
  by_cases h : c
  · rw [decide_eq_true h]
    exact iteT (h1 h)
  · rw [decide_eq_false h]
    exact iteF (h2 h)
theorem iteI {i j : Int} {A B : Prop} (h1 : i = j → A) (h2 : ¬ i = j → B) : if decide (V.int i = V.int j) = true then A else B := by
  by_cases h : i = j
  · rw [decide_eq_true (congrArg V.int h)]
    exact iteT (h1 h)
  · rw [decide_eq_false (fun e => h (V.int.inj e))]
    exact iteF (h2 h)
theorem range_two {n : Nat} (h : 3 ≤ n) (h2 : n < 200) : RgC 3 (n : Int) 2 ((n - 2) / 2) := by
  refine ⟨by decide, by decide, ?_, ?_⟩
  · have : ∀ m < 200, Builtin.Range.small 3 ((m : Nat) : Int) 2 = true := by decide +kernel
    exact this n h2
  · unfold Builtin.Range.rangeSize
    rw [if_pos (by decide)]
    split <;> omega
/-! ### promises -/
def spPrime : Sp := fun vs H Q _ => ∃ n : Nat, vs = [.int n] ∧ n < 4294967296 ∧ ∀ H', Same H H' → Q (.bl (Kp302.okP n)) H'
def spPowers : Sp := fun vs H Q _ => ∃ g p : Nat, vs = [.int g, .int p] ∧ 1 < p ∧ p < 200 ∧ ∀ H' q, Same H H' → H q = none → H' q = some (.lst (natsV (Kp302.powers p g))) → Q (.ref q) H'
def spLeaves : Sp := fun vs H Q _ => ∃ g p : Nat, vs = [.int g, .int p] ∧ Pr p ∧ ∀ H', Same H H' → Q (.bl (Kp302.leavesAll p g)) H'
def spLeast : Sp := fun vs H Q _ => ∃ p : Nat, vs = [.int p] ∧ Kp302.okP p = true ∧ ∀ H', Same H H' → Q (.int (Kp302.leastRoot p)) H'
def spRoots : Sp := fun vs H Q _ => ∃ p : Nat, vs = [.int p] ∧ Pr p ∧ ∀ H' q, Same H H' → H q = none → H' q = some (.lst (natsV (Kp302.roots p))) → Q (.ref q) H'
section
variable {P : Program} {w : World} {K : PySem.W.Frag} {mg : Str → Option Value} {base : Heap}
theorem scPrime : FnScope ["number", "divisor"] ["number"] (defScope sPrime) := ⟨rfl, rfl, rfl, by decide +kernel, rfl, by decide +kernel, by decide +kernel⟩
theorem ok_prime {f : Addr} {fd : FuncData} (F : Fun K "is_odd_prime" "is_odd_prime" sPrime f fd) (T : TR mg) : FnOk P w K mg base CX0 1 f fd ["number"] spPrime := by
  refine F.ok scPrime (fun vs H Q E h => ?_) (fun cdv A outer s H vs Q E hr h => ?_)
  · obtain ⟨n, rfl, _⟩ := h
    rfl
  · obtain ⟨n, rfl, hn, k⟩ := h
    obtain ⟨tb, hb⟩ := T.bound
    refine ⟨_, pss_cons (ps_if (PW.pt (pw_or (pt_cmpR op_lt (pv 0) pe_int (nomark _)) (pw_or (pt_cmpR op_ge (pv 0) (pe_gint rfl hb) (nomark _)) (pw_or1 (pt_cmpR op_eq (pe_op op_mod (pv 0) pe_int) pe_int (nomark _))))))
        (pss_one (ps_ret pe_bl)) pss_nil)
      (pss_cons (ps_for PassesOwn.never rfl (pi_range3 rfl T.range (pa_cons pe_int (pa_cons (pv 0) (pa_cons pe_int pa_nil)))) (pg_name (i := 1) scPrime.nd rfl (Or.inl rfl))
        (pss_one (ps_if (pt_cmpR op_eq (pe_op op_mod (pv 0) (pv 1)) pe_int (nomark _)) (pss_one (ps_ret pe_bl)) pss_nil)))
      (pss_one (ps_ret pe_bl))), ?_⟩
    have no : Kp302.okP n = false → Q (V.bl false) H := fun e => by
      have := k H (Same.refl H)
      rw [e] at this
      exact this
    have bad : ¬ (3 ≤ n ∧ n < 200 ∧ n % 2 = 1) → Q (V.bl false) H := fun z => no (by
      cases e : Kp302.okP n with
      | false => rfl
      | true => exact absurd (okP_lt e) z)
    refine ⟨_, rfl, _, _, rfl, rfl, _, rfl, iteD (fun h1 => iteT (bad (by omega))) fun h1 => ?_⟩
    refine ⟨_, rfl, _, _, rfl, rfl, _, rfl, iteD (fun h2 => iteT (bad (by omega))) fun h2 => ?_⟩
    refine ⟨_, rfl, _, _, rfl, rfl, (by show (0 : Int) < 2; decide), rfl, _, rfl, iteI (fun h3 => bad (by omega)) fun h3 => ?_⟩
    have odd := odd_prime (n := n) (by omega) (by omega) (by omega)
    refine ⟨_, rfl, 3, n, 2, (n - 2) / 2, rfl, range_two (by omega) (by omega), for_rangeC (n := (n - 2) / 2) (fun i σ H' => (∃ v : Option V, σ = [some (.int n), v]) ∧ H' = H ∧ ∀ j, j < i → n % (3 + 2 * j) ≠ 0) ⟨⟨none, rfl⟩, rfl, fun j hj => absurd hj (Nat.not_lt_zero _)⟩ ?_ ?_⟩
    · rintro i σ H' hi ⟨⟨v, rfl⟩, rfl, hd⟩
      refine ⟨_, rfl, _, rfl, _, _, rfl, rfl, (by show (0 : Int) < 3 + (i : Nat) * 2; omega), rfl, _, rfl, iteI (fun h4 => ?_) fun h4 => ?_⟩
      all_goals
        rw [show (3 : Int) + (i : Nat) * 2 = ((3 + 2 * i : Nat) : Int) by omega, ← Int.natCast_emod] at h4
      · refine no ?_
        cases e : Kp302.okP n with
        | false => rfl
        | true => exact absurd (by omega) (odd.mp e (3 + 2 * i) (by omega) (by omega) (by omega))
      · refine ⟨⟨_, rfl⟩, rfl, fun j hj => ?_⟩
        by_cases e : j = i
        · subst e
          exact fun z => h4 (by rw [z]; rfl)
        · exact hd j (by omega)
    · rintro σ H' ⟨⟨v, rfl⟩, rfl, hd⟩
      have e : Kp302.okP n = true := odd.mpr fun d h3 ho hn => by
        have := hd ((d - 3) / 2) (by omega)
        rw [show 3 + 2 * ((d - 3) / 2) = d by omega] at this
        exact this
      have := k H' (Same.refl H')
      rw [e] at this
      exact this

theorem Same.upd {H H' : Hp} {q : Addr} {o : HO} (e : Same H H') (hq : H q = none) : Same H (upd H' q o) := fun b o' h => by
  rw [upd_ne (ne_of_none h hq)]
  exact e b o' h
theorem natsV_take {l : List Nat} {i x : Nat} (h : l[i]? = some x) : natsV (l.take (i + 1)) = natsV (l.take i) ++ [V.int x] := by
  have : l.take (i + 1) = l.take i ++ [x] := by rw [List.take_succ, h]; rfl
  rw [this]
  show (l.take i ++ [x]).map _ = _
  rw [List.map_append]
  rfl
theorem scPowers : FnScope ["number", "prime", "powers", "power", "step"] ["number", "prime"] (defScope sPowers) := ⟨rfl, rfl, rfl, by decide +kernel, rfl, by decide +kernel, by decide +kernel⟩
theorem ok_powers {f : Addr} {fd : FuncData} (F : Fun K "powers_of" "powers_of" sPowers f fd) (T : TR mg) : FnOk P w K mg base CX0 1 f fd ["number", "prime"] spPowers := by
  refine F.ok scPowers (fun vs H Q E h => ?_) (fun cdv A outer s H vs Q E hr h => ?_)
  · obtain ⟨g, p, rfl, _⟩ := h
    rfl
  · obtain ⟨g, p, rfl, h1, h2, k⟩ := h
    refine ⟨_, pss_cons (ps_set (i := 2) scPowers.nd rfl (Or.inl rfl) (pe_lst pa_nil))
      (pss_cons (ps_set (i := 3) scPowers.nd rfl (Or.inl rfl) pe_int)
      (pss_cons (ps_for PassesOwn.never rfl (pi_range1 rfl T.range (pa_cons (pe_op op_sub (pv 1) pe_int) pa_nil)) (pg_name (i := 4) scPowers.nd rfl (Or.inl rfl))
        (pss_cons (ps_expr (pe_bm PySem.F.plainAttrs_list PySem.F.slot_list_append PySem.F.type_list_append mt_append (pv 2) (pa_cons (pv 3) pa_nil)))
        (pss_one (ps_set (i := 3) scPowers.nd rfl (Or.inl rfl) (pe_op op_mod (pe_op op_mul (pv 3) (pv 0)) (pv 1))))))
      (pss_one (ps_ret (pv 2))))), ?_⟩
    refine ⟨Nat.zero_le _, fun q hq => ?_⟩
    refine ⟨_, rfl, _, _, rfl, rfl, _, rfl, by omega, by omega, ?_⟩
    have hn : ((p : Int) - 1).toNat = p - 1 := by omega
    refine for_range (lo := 0) (n := ((p : Int) - 1).toNat) (fun i σ H' => (∃ v : Option V, σ = [some (.int g), some (.int p), some (.ref q), some (.int ((g ^ i % p : Nat) : Int)), v]) ∧ H' q = some (.lst (natsV ((Kp302.powers p g).take i))) ∧ Same H H') ⟨⟨none, ?_⟩, upd_same, Same.upd (Same.refl H) hq⟩ ?_ ?_
    · rw [Nat.pow_zero, Nat.mod_eq_of_lt h1]
      rfl
    · rintro i σ H' hi ⟨⟨v, rfl⟩, hl, hs⟩
      rw [hn] at hi
      have hm : g ^ i % p < p := Nat.mod_lt _ (by omega)
      refine ⟨_, rfl, .inl ⟨rfl, _, SqL.of hl⟩, _, rfl, q, _, _, rfl, rfl, hl, ?_, ?_⟩
      · refine small1000 ?_
        rw [List.length_map, List.length_take]
        omega
      · refine ⟨_, rfl, _, rfl, _, _, rfl, rfl, .inl ⟨by omega, by omega⟩, _, rfl, _, _, rfl, rfl, (by show (0 : Int) < p; omega), ⟨some (.int (0 + (i : Nat))), ?_⟩, ?_, Same.upd hs hq⟩
        · have e : (((g ^ i % p : Nat) : Int) * g % p) = ((g ^ (i + 1) % p : Nat) : Int) := by
            rw [← Int.natCast_mul, ← Int.natCast_emod, Nat.pow_succ]
            congr 1
            conv => rhs; rw [Nat.mul_mod]
            conv => lhs; rw [Nat.mul_mod, Nat.mod_mod]
          rw [← e]
          rfl
        · rw [upd_same, natsV_take (powers_get h1 hi)]
    · rintro σ H' ⟨⟨v, rfl⟩, hl, hs⟩
      refine ⟨_, rfl, k H' q hs hq ?_⟩
      rw [hl, hn, List.take_of_length_le (by rw [powers_length]; exact Nat.le_refl _)]

abbrev intsOf (l : List Nat) : List Int := l.map fun (n : Nat) => (n : Int)
theorem natsV_ints (l : List Nat) : natsV l = (intsOf l).map V.int := by
  rw [List.map_map]
  rfl
theorem ints_nat (l : List Nat) : (intsOf l).map Int.toNat = l := by
  rw [List.map_map]
  conv => rhs; rw [← List.map_id l]
  exact List.map_congr_left fun a _ => rfl
theorem leaves_sorted {p g : Nat} (P : Pr p) {ns : List Int} (h : ns.Perm (intsOf (Kp302.powers p g))) (hs : ns.Pairwise (· ≤ ·)) : decide (ns = intsOf (oneTo (p - 1))) = Kp302.leavesAll p g := by
  rw [Bool.eq_iff_iff, decide_eq_true_eq, leaves_iff P, ← perm_iff P]
  constructor
  · rintro rfl
    have := (h.symm.map Int.toNat)
    rw [ints_nat, ints_nat] at this
    exact this
  · intro q
    have h2 : ns.Perm (intsOf (oneTo (p - 1))) := h.trans (q.map _)
    refine List.Perm.eq_of_pairwise (le := (· ≤ ·)) (fun a b _ _ h1 h2 => by omega) hs ?_ h2
    exact List.Pairwise.map _ (fun a b (h : a < b) => by omega) (oneTo_sorted (p - 1))
theorem range_ints (p : Nat) : ((List.range ((p : Int) - 1).toNat).map fun (k : Nat) => V.int (1 + (k : Nat))) = (intsOf (oneTo (p - 1))).map V.int := by
  rw [show ((p : Int) - 1).toNat = p - 1 by omega]
  unfold oneTo
  rw [List.map_map, List.map_map]
  refine List.map_congr_left fun a _ => ?_
  show V.int (1 + (a : Int)) = V.int ((a + 1 : Nat) : Int)
  congr 1
  omega
theorem scLeaves : FnScope ["number", "prime"] ["number", "prime"] (defScope sLeaves) := ⟨rfl, rfl, rfl, by decide +kernel, rfl, by decide +kernel, by decide +kernel⟩
theorem ok_leaves {f : Addr} {fd : FuncData} (F : Fun K "leaves_all" "leaves_all" sLeaves f fd) (T : TR mg) (hP : Has P w K mg base 1 "powers_of" spPowers) : FnOk P w K mg base CX0 2 f fd ["number", "prime"] spLeaves := by
  refine F.ok scLeaves (fun vs H Q E h => ?_) (fun cdv A outer s H vs Q E hr h => ?_)
  · obtain ⟨g, p, rfl, _⟩ := h
    rfl
  · obtain ⟨g, p, rfl, hp, k⟩ := h
    have h3 := hp.ge
    have h2 := hp.lt
    refine ⟨_, pss_one (ps_ret (pe_cmpR (op_eqL hr.units) (pe_callB cr_sortedA rfl T.sorted bt_sorted (pa_cons (pe_fn hP hr rfl (pa_cons (pv 0) (pa_cons (pv 1) pa_nil))) pa_nil))
      (pe_listRange2 rfl rfl T.lst rfl T.range (pa_cons pe_int (pa_cons (pv 1) pa_nil))) (nomark _))), ?_⟩
    refine ⟨_, rfl, _, rfl, g, p, rfl, by omega, h2, fun H1 q s1 hq hl => ?_⟩
    rw [natsV_ints] at hl
    refine ⟨q, _, rfl, SqL.of hl, fun ns' p1 hperm hsort hp1 => ?_⟩
    refine ⟨_, rfl, 1, p, rfl, ⟨by omega, by omega, by omega, by omega⟩, by omega, fun p2 hp2 => ?_⟩
    rw [range_ints]
    have s2 : Same H1 (upd H1 p1 (.lst (ns'.map V.int))) := Same.upd (Same.refl H1) hp1
    refine ⟨p1, p2, ns', intsOf (oneTo (p - 1)), rfl, rfl, SqL.of ?_, SqL.of upd_same, ?_⟩
    · rw [upd_ne (ne_of_none upd_same hp2)]
      exact upd_same
    · rw [leaves_sorted hp hperm hsort]
      exact k _ ((s1.trans s2).trans (Same.upd (Same.refl _) hp2))
theorem scLeast : FnScope ["prime", "root"] ["prime"] (defScope sLeast) := ⟨rfl, rfl, rfl, by decide +kernel, rfl, by decide +kernel, by decide +kernel⟩
theorem ok_least {f : Addr} {fd : FuncData} (F : Fun K "least_root" "least_root" sLeast f fd) (hL : Has P w K mg base 2 "leaves_all" spLeaves) : FnOk P w K mg base CX0 3 f fd ["prime"] spLeast := by
  refine F.ok scLeast (fun vs H Q E h => ?_) (fun cdv A outer s H vs Q E hr h => ?_)
  · obtain ⟨p, rfl, _⟩ := h
    rfl
  · obtain ⟨p, rfl, hp, k⟩ := h
    obtain ⟨l1, l2, l3, l4⟩ := least_spec hp
    refine ⟨_, pss_cons (ps_set (i := 1) scLeast.nd rfl (Or.inl rfl) pe_int)
      (pss_cons (ps_while PassesOwn.never (pt_not (pt_val (pe_fn hL hr rfl (pa_cons (pv 1) (pa_cons (pv 0) pa_nil))))) (pss_one (ps_set (i := 1) scLeast.nd rfl (Or.inl rfl) (pe_op op_add (pv 1) pe_int))))
      (pss_one (ps_ret (pv 1)))), ?_⟩
    refine ⟨fun m σ H' => ∃ r : Nat, σ = [some (.int p), some (.int r)] ∧ 1 ≤ r ∧ r ≤ Kp302.leastRoot p ∧ m = Kp302.leastRoot p - r ∧ Same H H', ⟨_, 1, rfl, Nat.le_refl _, l3, rfl, Same.refl H⟩, ?_⟩
    rintro m σ H1 ⟨r, rfl, r1, r2, rfl, s1⟩
    refine ⟨_, rfl, _, rfl, r, p, rfl, pr_of hp, fun H2 s2 => ⟨_, rfl, ?_⟩⟩
    cases e : Kp302.leavesAll p r with
    | true =>
      have er : r = Kp302.leastRoot p := by
        rcases Nat.lt_or_ge r (Kp302.leastRoot p) with q | q
        · rw [l4 r q] at e
          cases e
        · omega
      refine iteF ?_
      refine ⟨_, rfl, ?_⟩
      rw [er]
      exact k _ (s1.trans s2)
    | false =>
      refine iteT ⟨fun σ' H' => σ' = [some (.int p), some (.int ((r + 1 : Nat) : Int))] ∧ Same H H', ?_, ?_⟩
      · rintro σ' H' ⟨rfl, s3⟩
        have ne : r ≠ Kp302.leastRoot p := fun q => by
          rw [q, least_leaves p hp] at e
          cases e
        exact ⟨Kp302.leastRoot p - (r + 1), by omega, r + 1, rfl, by omega, by omega, rfl, s3⟩
      · exact ⟨_, rfl, _, _, rfl, rfl, rfl, s1.trans s2⟩
theorem filter_snoc {α : Type} {f : α → Bool} {l : List α} {i : Nat} {x : α} (h : l[i]? = some x) : (l.take (i + 1)).filter f = (l.take i).filter f ++ if f x = true then [x] else [] := by
  have : l.take (i + 1) = l.take i ++ [x] := by rw [List.take_succ, h]; rfl
  rw [this, List.filter_append]
  congr 1
  cases e : f x <;> simp [e]
theorem scRoots : FnScope ["prime", "number"] ["prime"] (defScope sRoots) := ⟨rfl, rfl, rfl, by decide +kernel, rfl, by decide +kernel, by decide +kernel⟩
/-- the scope of the comprehension that a def gives back -/
def retLc (s : Stmt) : Scope := match defBody s with
  | [.Return (some (.ListComp _ _ sc _)) _] => sc
  | _ => { kind := .function, names := [], isGenerator := false, isCoroutine := false }
theorem blkRoots : BlkOk ["prime", "number"] (defScope sRoots) (retLc sRoots) [("number", 1)] := ⟨rfl, by decide +kernel, by decide +kernel, by decide +kernel, by decide +kernel⟩
theorem ok_roots {f : Addr} {fd : FuncData} (F : Fun K "all_roots" "all_roots" sRoots f fd) (T : TR mg) (hL : Has P w K mg base 2 "leaves_all" spLeaves) : FnOk P w K mg base CX0 3 f fd ["prime"] spRoots := by
  refine F.ok scRoots (fun vs H Q E h => ?_) (fun cdv A outer s H vs Q E hr h => ?_)
  · obtain ⟨p, rfl, _⟩ := h
    rfl
  · obtain ⟨p, rfl, hp, k⟩ := h
    have h3 := hp.ge
    have h2 := hp.lt
    refine ⟨_, pss_one (ps_ret (pe_lc (own := [("number", 1)]) rfl scRoots.nd (pi_range2 rfl T.range (pa_cons pe_int (pa_cons (pv 0) pa_nil)))
      blkRoots
      (fun s H C cl fp => pg_name (i := 1) scRoots.nd rfl (Or.inl rfl))
      (fun s H C cl fp => pts_one (pt_val (pe_fn hL hr rfl (pa_cons (pv 1) (pa_cons (pv 0) pa_nil)))))
      (fun s H C cl fp => pv 1))), ?_⟩
    refine ⟨_, rfl, 1, p, rfl, ⟨by omega, by omega, by omega, by omega⟩, fun D hD => ?_⟩
    have hn : ((p : Int) - 1).toNat = p - 1 := by omega
    refine lc_range (n := ((p : Int) - 1).toNat) (lo := 1) (fun i H' => H' D = some (.lst (natsV (((oneTo (p - 1)).take i).filter (Kp302.leavesAll p)))) ∧ Same H H') ⟨upd_same, Same.upd (Same.refl H) hD⟩ ?_ ?_
    · rintro i H' hi ⟨hl, hs⟩
      rw [hn] at hi
      have hg := oneTo_get hi
      have e1 : (1 : Int) + (i : Nat) = ((i + 1 : Nat) : Int) := by omega
      rw [e1]
      refine ⟨rfl, _, rfl, _, rfl, i + 1, p, rfl, hp, fun H2 s2 => ⟨_, rfl, ?_⟩⟩
      have hl2 := s2 _ _ hl
      cases e : Kp302.leavesAll p (i + 1) with
      | true =>
        refine iteT ⟨_, rfl, _, hl2, small1000 ?_, ?_, Same.upd (hs.trans s2) hD⟩
        · rw [List.length_map]
          refine Nat.le_trans (List.length_filter_le _ _) ?_
          rw [List.length_take]
          omega
        · rw [upd_same, filter_snoc hg, e]
          show _ = some (HO.lst (List.map _ (_ ++ [i + 1])))
          rw [List.map_append]
          rfl
      | false =>
        refine iteF ⟨?_, hs.trans s2⟩
        rw [hl2, filter_snoc hg, e]
        show _ = some (HO.lst (List.map _ (_ ++ [])))
        rw [List.append_nil]
    · rintro H' ⟨hl, hs⟩
      refine k H' D hs hD ?_
      rw [hl, hn, List.take_of_length_le (by rw [oneTo_length]; exact Nat.le_refl _), roots_eq (by omega)]
end
end Pw

set_option Elab.async false
set_option linter.all false
set_option maxRecDepth 100000
set_option maxHeartbeats 2000000
namespace Pw
open PySem PySem.Spec PyProof.Rows L2
abbrev sInit : Stmt := inClass (top 20) 0
abbrev sCan : Stmt := top 21
abbrev sIndex : Stmt := top 22
abbrev sMembers : Stmt := top 25
/-! ### the object -/
def hf (p e : Int) (l : Addr) : List (Str × V) := [("prime", .int p), ("class_count", .int e), ("powers", .ref l)]
theorem hf_prime (p e : Int) (l : Addr) : (hf p e l).lookup ("prime" : Str) = some (.int p) := rfl
theorem hf_count (p e : Int) (l : Addr) : (hf p e l).lookup ("class_count" : Str) = some (.int e) := rfl
theorem hf_powers (p e : Int) (l : Addr) : (hf p e l).lookup ("powers" : Str) = some (.ref l) := rfl
theorem ne1 : ¬ ("prime" : Str) = "class_count" := by decide +kernel
theorem ne2 : ¬ ("prime" : Str) = "powers" := by decide +kernel
theorem ne3 : ¬ ("class_count" : Str) = "powers" := by decide +kernel
theorem hf_prime' (p e y : Int) (l : Addr) : putF "prime" (.int y) (hf p e l) = hf y e l := by
  unfold hf putF
  rw [if_pos rfl]
theorem hf_count' (p e y : Int) (l : Addr) : putF "class_count" (.int y) (hf p e l) = hf p y l := by
  unfold hf putF
  rw [if_neg ne1]
  unfold putF
  rw [if_pos rfl]
theorem hf_powers' (p e : Int) (l y : Addr) : putF "powers" (.ref y) (hf p e l) = hf p e y := by
  unfold hf putF
  rw [if_neg ne2]
  unfold putF
  rw [if_neg ne3]
  unfold putF
  rw [if_pos rfl]
/-- an object with these stands at a -/
def Held (C : Addr) (H : Hp) (a l : Addr) (p e : Int) (pw : List Nat) : Prop := ∃ dx, H a = some (.ins C dx (hf p e l)) ∧ H l = some (.lst (natsV pw))
/-- the object at a is in the specification's state -/
def HeldIs (C : Addr) (H : Hp) (a l : Addr) : Kp302.State → Prop
  | none => Held C H a l 0 0 []
  | some c => Ok c ∧ Held C H a l c.p c.e (Kp302.powers c.p c.g)
theorem Held.same {C : Addr} {H H' : Hp} {a l : Addr} {p e : Int} {pw : List Nat} (h : Held C H a l p e pw) (s : Same H H') : Held C H' a l p e pw :=
  let ⟨dx, h1, h2⟩ := h
  ⟨dx, s _ _ h1, s _ _ h2⟩
theorem HeldIs.same {C : Addr} {H H' : Hp} {a l : Addr} {st : Kp302.State} (h : HeldIs C H a l st) (s : Same H H') : HeldIs C H' a l st := by
  cases st with
  | none => exact Held.same h s
  | some c => exact ⟨h.1, Held.same h.2 s⟩
/-- all that was tracked is as it was, but the object at a -/
def Only (a : Addr) (H H' : Hp) : Prop := ∀ b o, H b = some o → b ≠ a → H' b = some o
theorem Same.only {H H' : Hp} (s : Same H H') (a : Addr) : Only a H H' := fun b o h _ => s b o h
theorem Only.same {a : Addr} {H H1 H2 : Hp} (s : Only a H H1) (t : Same H1 H2) : Only a H H2 := fun b o h n => t b o (s b o h n)
theorem Same.onlyT {a : Addr} {H H1 H2 : Hp} (s : Same H H1) (t : Only a H1 H2) : Only a H H2 := fun b o h n => t b o (s b o h) n
structure TC (K : PySem.W.Frag) (mg : Str → Option Value) (C : Addr) : Prop where
  cl : Cls K C
  nP : NoAttr K C "prime"
  nC : NoAttr K C "class_count"
  nW : NoAttr K C "powers"
  len : mg "len" = none
  noClass : ∃ t, mg "NO_CLASS" = some (.int (-2) t)
  notBegun : ∃ t, mg "NOT_BEGUN" = some (.int (-11) t)
  badNumber : ∃ t, mg "BAD_NUMBER" = some (.int (-22) t)
  badSplit : ∃ t, mg "BAD_SPLIT" = some (.int (-33) t)
  fewest : ∃ t, mg "FEWEST_CLASSES" = some (.int 2 t)
  most : ∃ t, mg "MOST_CLASSES" = some (.int 8 t)
  begin_ : ∃ t, mg "BEGIN" = some (.int 0 t)
/-! ### promises -/
def spInit (C : Addr) : Sp := fun vs H Q _ => ∃ (a dx : Addr), vs = [.ref a] ∧ H a = some (.ins C dx []) ∧ ∀ (H' : Hp) (l : Addr), HeldIs C H' a l none → H l = none → Only a H H' → Q .non H'
def spCan : Sp := fun vs H Q _ => ∃ p e : Nat, vs = [.int p, .int e] ∧ 1 ≤ p ∧ ∀ H', Same H H' → Q (.bl (Kp302.okE p e)) H'
def spIndex (C : Addr) : Sp := fun vs H Q _ => ∃ (a l : Addr) (c : Kp302.Classes) (r : Nat), vs = [.ref a, .int r] ∧ HeldIs C H a l (some c) ∧ r < c.p ∧ r ≠ 0 ∧ ∀ H', Same H H' → Q (.int (Kp302.index c r)) H'
def spMembers (C : Addr) : Sp := fun vs H Q _ => ∃ (a l : Addr) (c : Kp302.Classes) (i : Nat), vs = [.ref a, .int i] ∧ HeldIs C H a l (some c) ∧ i < c.e ∧ ∀ H' q, Same H H' → H q = none → H' q = some (.lst (natsV (Kp302.members c i))) → Q (.ref q) H'
section
variable {P : Program} {w : World} {K : PySem.W.Frag} {mg : Str → Option Value} {base : Heap}
theorem scInit : FnScope ["self"] ["self"] (defScope sInit) := ⟨rfl, rfl, rfl, by decide +kernel, rfl, by decide +kernel, by decide +kernel⟩
theorem ok_init {f C : Addr} {fd : FuncData} (F : Fun K "__init__" "PowerClasses.__init__" sInit f fd) (T : TC K mg C) : FnOk P w K mg base CX0 1 f fd ["self"] (spInit C) := by
  refine F.ok scInit (fun vs H Q E h => ?_) (fun cdv A outer s H vs Q E hr h => ?_)
  · obtain ⟨p, dx, rfl, _⟩ := h
    rfl
  · obtain ⟨a, dx, rfl, hp, k⟩ := h
    refine ⟨_, pss_cons (ps_fld (pv 0) pe_int rfl) (pss_cons (ps_fld (pv 0) pe_int rfl) (pss_one (ps_fld (pv 0) (pe_lst pa_nil) rfl))), ?_⟩
    refine ⟨_, rfl, a, C, dx, [], rfl, hp, T.cl, T.nP, (by show 0 < 1000; decide), ?_⟩
    refine ⟨_, rfl, a, C, dx, _, rfl, upd_same, T.cl, T.nC, (by show 1 < 1000; decide), ?_⟩
    refine ⟨Nat.zero_le _, fun l hl => ?_⟩
    have hal : a ≠ l := ne_of_none upd_same hl
    refine ⟨_, rfl, a, C, dx, _, rfl, (by rw [upd_ne hal]; exact upd_same), T.cl, T.nW, (by show 2 < 1000; decide), ?_⟩
    refine k _ l ⟨dx, upd_same, ?_⟩ ?_ fun b o e hb => ?_
    · rw [upd_ne (Ne.symm hal)]
      exact upd_same
    · rw [upd_ne (Ne.symm hal), upd_ne (Ne.symm hal)] at hl
      exact hl
    · have hbl : b ≠ l := ne_of_none (by rw [upd_ne hb, upd_ne hb]; exact e) hl
      rw [upd_ne hb, upd_ne hbl, upd_ne hb, upd_ne hb]
      exact e
theorem scCan : FnScope ["prime", "class_count"] ["prime", "class_count"] (defScope sCan) := ⟨rfl, rfl, rfl, by decide +kernel, rfl, by decide +kernel, by decide +kernel⟩
theorem ok_can {f C : Addr} {fd : FuncData} (F : Fun K "can_split" "can_split" sCan f fd) (T : TC K mg C) : FnOk P w K mg base CX0 1 f fd ["prime", "class_count"] spCan := by
  refine F.ok scCan (fun vs H Q E h => ?_) (fun cdv A outer s H vs Q E hr h => ?_)
  · obtain ⟨p, e, rfl, _⟩ := h
    rfl
  · obtain ⟨p, e, rfl, hp, k⟩ := h
    obtain ⟨t1, g1⟩ := T.fewest
    obtain ⟨t2, g2⟩ := T.most
    have k := k H (Same.refl H)
    refine ⟨_, pss_cons (ps_if (PW.pt (pw_or (pt_cmpR op_lt (pv 1) (pe_gint rfl g1) (nomark _)) (pw_or1 (pt_cmpR op_gt (pv 1) (pe_gint rfl g2) (nomark _))))) (pss_one (ps_ret pe_bl)) pss_nil)
      (pss_one (ps_ret (pe_cmpR op_eq (pe_op op_mod (pe_op op_sub (pv 0) pe_int) (pv 1)) pe_int (nomark _)))), ?_⟩
    have bad : ¬ (2 ≤ e ∧ e ≤ 8) → Q (V.bl false) H := fun z => by
      have : Kp302.okE p e = false := by
        cases q : Kp302.okE p e with
        | false => rfl
        | true => exact absurd ⟨(okE_iff.mp q).1, (okE_iff.mp q).2.1⟩ z
      rw [this] at k
      exact k
    refine ⟨_, rfl, _, _, rfl, rfl, _, rfl, iteD (fun h1 => iteT (bad (by omega))) fun h1 => ?_⟩
    refine ⟨_, rfl, _, _, rfl, rfl, _, rfl, iteD (fun h2 => bad (by omega)) fun h2 => ?_⟩
    refine ⟨_, rfl, _, _, rfl, rfl, _, rfl, _, _, rfl, rfl, (by show (0 : Int) < e; omega), rfl, ?_⟩
    have e1 : decide (V.int (((p : Int) - 1) % e) = V.int 0) = Kp302.okE p e := by
      rw [dec_int, show (p : Int) - 1 = ((p - 1 : Nat) : Int) by omega, ← Int.natCast_emod]
      rw [Bool.eq_iff_iff, okE_iff, beq_iff_eq]
      omega
    rw [e1]
    exact k
theorem scIndex : FnScope ["held", "remainder"] ["held", "remainder"] (defScope sIndex) := ⟨rfl, rfl, rfl, by decide +kernel, rfl, by decide +kernel, by decide +kernel⟩
theorem ok_index {f C : Addr} {fd : FuncData} (F : Fun K "index_of" "index_of" sIndex f fd) (T : TC K mg C) : FnOk P w K mg base CX0 1 f fd ["held", "remainder"] (spIndex C) := by
  refine F.ok scIndex (fun vs H Q E h => ?_) (fun cdv A outer s H vs Q E hr h => ?_)
  · obtain ⟨a, l, c, r, rfl, _⟩ := h
    rfl
  · obtain ⟨a, l, c, r, rfl, ⟨O, dx, ha, hl⟩, hr1, hr0, k⟩ := h
    refine ⟨_, pss_one (ps_ret (pe_bm PySem.F.plainAttrs_list PySem.F.slot_list_index PySem.F.type_list_index mt_index (pe_fld (pv 0) rfl) (pa_cons (pv 1) pa_nil))), ?_⟩
    have hx : r % c.p ≠ 0 := by rw [Nat.mod_eq_of_lt hr1]; exact hr0
    obtain ⟨i1, i2⟩ := idx_place O.g hx
    rw [Nat.mod_eq_of_lt hr1] at i1 i2
    refine ⟨_, rfl, a, C, dx, _, _, rfl, ha, T.cl, T.nW, hf_powers _ _ _, .inl ⟨rfl, _, SqL.of hl⟩, _, rfl, l, _, .int r, Kp302.index c r, .int r, rfl, rfl, SqL.of hl, rfl, ?_, ?_, ?_, ?_, k H (Same.refl H)⟩
    · rw [List.all_eq_true]
      intro v hv
      obtain ⟨n, _, rfl⟩ := List.mem_map.mp hv
      rfl
    · rw [List.getElem?_map, i1]
      rfl
    · show ((r : Int) == (r : Int)) = true
      exact beq_self_eq_true _
    · intro m z' hm hz
      rw [List.getElem?_map] at hz
      obtain ⟨n, hn, rfl⟩ := Option.map_eq_some_iff.mp hz
      show ((n : Int) == (r : Int)) = false
      refine beq_eq_false_iff_ne.mpr fun e => i2 m hm ?_
      rw [hn]
      congr 1
      omega
end
end Pw

set_option Elab.async false
set_option linter.all false
set_option maxRecDepth 100000
set_option maxHeartbeats 2000000
namespace Pw
open PySem PySem.Spec PyProof.Rows L2
theorem count_lt {n i e k : Nat} (he : 0 < e) (hi : i < n) : k < (n - i + e - 1) / e ↔ i + k * e < n := by
  rw [← Nat.succ_le_iff, Nat.le_div_iff_mul_le he, Nat.succ_mul]
  omega
/-- powers[i::e] -/
theorem pick_stride {l : List Nat} {i e : Nat} (he : 0 < e) (hi : i < l.length) : pickV (natsV l) (some (i : Int)) none (some (e : Int)) = natsV (stride l i e ((l.length - i + e - 1) / e)) := by
  have e0 : (e : Int) > 0 := by omega
  have hb : sliceBounds (some (i : Int)) none (some (e : Int)) (natsV l).length = ((i : Int), (l.length : Int), (e : Int)) := by
    rw [List.length_map]
    simp only [sliceBounds, Option.getD_some, if_pos e0]
    rw [if_neg (show ¬ (i : Int) < 0 by omega)]
    congr 1
    omega
  unfold pickV
  rw [hb]
  show (sliceRange (i : Int) (l.length : Int) (e : Int)).filterMap _ = _
  unfold sliceRange
  rw [if_pos e0, if_pos (show (i : Int) < (l.length : Int) by omega)]
  have hc : (((l.length : Int) - (i : Int) + (e : Int) - 1) / (e : Int)).toNat = (l.length - i + e - 1) / e := by
    rw [show (l.length : Int) - (i : Int) + (e : Int) - 1 = ((l.length - i + e - 1 : Nat) : Int) by omega, ← Int.natCast_ediv]
    rfl
  show List.filterMap _ (List.map _ (List.range _)) = _
  rw [hc, List.filterMap_map]
  unfold stride natsV
  rw [List.map_filterMap]
  refine congrArg (fun f => List.filterMap f (List.range ((l.length - i + e - 1) / e))) (funext fun k => ?_)
  show (natsV l)[((i : Int) + (e : Int) * (k : Int)).toNat]? = _
  have e1 : ((i : Int) + (e : Int) * (k : Int)).toNat = i + k * e := by
    rw [← Int.natCast_mul, ← Int.natCast_add, Nat.mul_comm]
    rfl
  rw [e1]
  show (l.map _)[i + k * e]? = _
  rw [List.getElem?_map]
theorem Ok.ele {c : Kp302.Classes} (O : Ok c) : 2 ≤ c.e ∧ c.e ≤ 8 ∧ c.e ≤ c.p - 1 ∧ 3 ≤ c.p ∧ c.p < 200 := by
  obtain ⟨e2, e8, ed⟩ := okE_iff.mp O.e
  have h3 := O.g.pr.ge
  exact ⟨e2, e8, Nat.le_of_dvd (by omega) (Nat.dvd_of_mod_eq_zero ed), h3, O.g.pr.lt⟩
theorem sorted_ints {l m : List Nat} {ns : List Int} (h : ns.Perm (intsOf l)) (hs : ns.Pairwise (· ≤ ·)) (hp : l.Perm m) (hm : m.Pairwise (· < ·)) : ns = intsOf m := by
  refine List.Perm.eq_of_pairwise (le := (· ≤ ·)) (fun a b _ _ h1 h2 => by omega) hs ?_ (h.trans (hp.map _))
  exact List.Pairwise.map _ (fun a b (h : a < b) => by omega) hm
section
variable {P : Program} {w : World} {K : PySem.W.Frag} {mg : Str → Option Value} {base : Heap}
theorem scMembers : FnScope ["held", "number"] ["held", "number"] (defScope sMembers) := ⟨rfl, rfl, rfl, by decide +kernel, rfl, by decide +kernel, by decide +kernel⟩
theorem ok_members {f C : Addr} {fd : FuncData} (F : Fun K "members_of" "members_of" sMembers f fd) (R : TR mg) (T : TC K mg C) : FnOk P w K mg base CX0 1 f fd ["held", "number"] (spMembers C) := by
  refine F.ok scMembers (fun vs H Q E h => ?_) (fun cdv A outer s H vs Q E hr h => ?_)
  · obtain ⟨a, l, c, r, rfl, _⟩ := h
    rfl
  · obtain ⟨a, l, c, i, rfl, ⟨O, dx, ha, hl⟩, hi, k⟩ := h
    obtain ⟨e2, e8, ep, p3, p2⟩ := O.ele
    refine ⟨_, pss_one (ps_ret (pe_callB cr_sortedA rfl R.sorted bt_sorted (pa_cons (pe_slice3 (pe_fld (pv 0) rfl) (po_some (pv 1)) po_none (po_some (pe_fld (pv 0) rfl))) pa_nil))), ?_⟩
    refine ⟨_, rfl, a, C, dx, _, _, rfl, ha, T.cl, T.nW, hf_powers _ _ _, _, rfl, _, rfl, _, rfl, a, C, dx, _, _, rfl, ha, T.cl, T.nC, hf_count _ _ _, _, rfl, l, _, rfl, ?_, SqL.of hl, fun q hq => ?_⟩
    · intro z
      have := Option.some.inj z
      omega
    · rw [pick_stride (by omega) (by rw [powers_length]; omega)]
      refine ⟨q, _, rfl, SqL.of (by rw [upd_same, natsV_ints]), fun ns' q2 hperm hsort hq2 => ?_⟩
      have e1 : ns' = intsOf (Kp302.members c i) := sorted_ints hperm hsort (stride_perm O hi fun k => by rw [powers_length]; exact count_lt (by omega) (by omega)) (members_sorted c i)
      subst e1
      refine k _ q2 (Same.upd (Same.upd (Same.refl H) hq) ?_) ?_ ?_
      · cases z : H q2 with
        | none => rfl
        | some o =>
          rw [Same.upd (Same.refl H) hq q2 o z] at hq2
          cases hq2
      · cases z : H q2 with
        | none => rfl
        | some o =>
          rw [Same.upd (Same.refl H) hq q2 o z] at hq2
          cases hq2
      · rw [upd_same, natsV_ints]
end
end Pw

set_option Elab.async false
set_option linter.all false
set_option maxRecDepth 100000
set_option maxHeartbeats 2000000
namespace L2
open PySem PySem.Spec PyProof.Rows
theorem bt_min : bootBuiltins "min" = some (.builtin "min") := by decide +kernel
theorem bt_max : bootBuiltins "max" = some (.builtin "max") := by decide +kernel
theorem bt_sum : bootBuiltins "sum" = some (.builtin "sum") := by decide +kernel
end L2
namespace Pw
open PySem PySem.Spec PyProof.Rows L2
abbrev sBehindN : Stmt := top 1
abbrev sDiffs : Stmt := top 2
abbrev sEvenly : Stmt := top 3
abbrev sClassOf : Stmt := top 23
abbrev sHas : Stmt := top 24
abbrev sRowOf : Stmt := top 26
/-! ### what the module's part pairs has -/
structure TP (mg : Str → Option Value) : Prop where
  len : mg "len" = none
  min : mg "min" = none
  max : mg "max" = none
  sum : mg "sum" = none
def retLen (s : Stmt) : Scope := match defBody s with
  | [.Return (some (.Call _ [.ListComp _ _ sc _] _ _)) _] => sc
  | _ => { kind := .function, names := [], isGenerator := false, isCoroutine := false }
def retLc2 (s : Stmt) : Scope := match defBody s with
  | [_, .Return (some (.ListComp _ _ sc _)) _] => sc
  | _ => { kind := .function, names := [], isGenerator := false, isCoroutine := false }
theorem natsV_flat (l : List Nat) : (natsV l).all flatV = true := by
  rw [List.all_eq_true]
  intro v hv
  obtain ⟨n, _, rfl⟩ := List.mem_map.mp hv
  rfl
theorem natsV_in (n : Nat) (l : List Nat) : inV (V.int (n : Int)) (natsV l) = l.contains n := by
  induction l with
  | nil => rfl
  | cons x l ih =>
    have e : inV (V.int (n : Int)) (natsV (x :: l)) = (((x : Int) == (n : Int)) || inV (V.int (n : Int)) (natsV l)) := rfl
    rw [e, ih, List.contains_cons]
    congr 1
    rw [Bool.eq_iff_iff, beq_iff_eq, beq_iff_eq]
    omega
theorem natsV_get {l : List Nat} {i : Nat} {x : V} (h : (natsV l)[i]? = some x) : ∃ n : Nat, l[i]? = some n ∧ x = V.int (n : Int) := by
  rw [List.getElem?_map] at h
  obtain ⟨n, hn, rfl⟩ := Option.map_eq_some_iff.mp h
  exact ⟨n, hn, rfl⟩
theorem natsV_len (l : List Nat) : (natsV l).length = l.length := List.length_map ..
theorem natsV_snoc (l : List Nat) (x : Nat) : natsV (l ++ [x]) = natsV l ++ [V.int (x : Int)] := by
  show (l ++ [x]).map _ = _
  rw [List.map_append]
  rfl
/-! ### (s - t) % p -/
theorem op_less {X : Cx} : OpR X (binaryOp .Mod) (fun x y H Q => ∃ i j p : Nat, x = .int ((i : Int) - (j : Int)) ∧ y = .int p ∧ 0 < p ∧ Q (.int ((less p i j : Nat) : Int)) H) := by
  intro pins s σ H x y v u Q I rx ry h
  obtain ⟨i, j, p, rfl, rfl, hp, q⟩ := h
  refine op_mod pins s σ H _ _ v u Q I rx ry ⟨(i : Int) - (j : Int), p, rfl, rfl, by show (0 : Int) < p; omega, ?_⟩
  show Q (.int (((i : Int) - (j : Int)) % (p : Int))) H
  rw [less_int hp]
  exact q
/-! ### promises -/
def spBehindN : Sp := fun vs H Q _ => ∃ (a b : Addr) (l m : List Nat), vs = [.ref a, .ref b] ∧ H a = some (.lst (natsV l)) ∧ H b = some (.lst (natsV m)) ∧ l.length ≤ 200 ∧ ∀ H', Same H H' → Q (.int (((l.filter fun x => m.contains (x + 1)).length : Nat) : Int)) H'
def spDiffs : Sp := fun vs H Q _ => ∃ (a : Addr) (p : Nat) (l : List Nat), vs = [.ref a, .int p] ∧ H a = some (.lst (natsV l)) ∧ 1 < p ∧ p < 200 ∧ (∀ x ∈ l, x < p) ∧ ∀ H' q, Same H H' → H q = none → H' q = some (.lst (natsV (hist p (diffs p l l)))) → Q (.ref q) H'
def spEvenly : Sp := fun vs H Q _ => ∃ (a : Addr) (p : Nat) (l : List Nat), vs = [.ref a, .int p] ∧ H a = some (.lst (natsV l)) ∧ 1 < p ∧ p < 200 ∧ l.Nodup ∧ (∀ x ∈ l, x < p) ∧ ∀ H', Same H H' → Q (.bl (Kp302.even p l)) H'
def spClassOf (C : Addr) : Sp := fun vs H Q _ => ∃ (a l : Addr) (c : Kp302.Classes) (r : Nat), vs = [.ref a, .int r] ∧ HeldIs C H a l (some c) ∧ r < c.p ∧ r ≠ 0 ∧ ∀ H', Same H H' → Q (.int ((Kp302.index c r % c.e : Nat) : Int)) H'
def spHas (C : Addr) : Sp := fun vs H Q _ => ∃ (a l : Addr) (c : Kp302.Classes) (i : Nat), vs = [.ref a, .int i] ∧ HeldIs C H a l (some c) ∧ ∀ H', Same H H' → Q (.bl (Kp302.is c i)) H'
def spRowOf (C : Addr) : Sp := fun vs H Q _ => ∃ (a l : Addr) (c : Kp302.Classes) (i : Nat), vs = [.ref a, .int i] ∧ HeldIs C H a l (some c) ∧ i < c.e ∧ ∀ H' q, Same H H' → H q = none → H' q = some (.lst (natsV (Kp302.row c i))) → Q (.ref q) H'
section
variable {P : Program} {w : World} {K : PySem.W.Frag} {mg : Str → Option Value} {base : Heap}
theorem scBehindN : FnScope ["members", "others", "member"] ["members", "others"] (defScope sBehindN) := ⟨rfl, rfl, rfl, by decide +kernel, rfl, by decide +kernel, by decide +kernel⟩
theorem blkBehindN : BlkOk ["members", "others", "member"] (defScope sBehindN) (retLen sBehindN) [("member", 2)] := ⟨rfl, by decide +kernel, by decide +kernel, by decide +kernel, by decide +kernel⟩
theorem ok_behindN {f : Addr} {fd : FuncData} (F : Fun K "count_behind" "count_behind" sBehindN f fd) (T : TP mg) : FnOk P w K mg base CX0 1 f fd ["members", "others"] spBehindN := by
  refine F.ok scBehindN (fun vs H Q E h => ?_) (fun cdv A outer s H vs Q E hr h => ?_)
  · obtain ⟨a, b, l, m, rfl, _⟩ := h
    rfl
  · obtain ⟨a, b, l, m, rfl, ha, hb, hlen, k⟩ := h
    refine ⟨_, pss_one (ps_ret (pe_callB call_len_seq (by rfl) T.len PySem.boot_len (pa_cons (pe_lc (own := [("member", 2)]) rfl scBehindN.nd (pi_list (pv 0))
      blkBehindN
      (fun s H C cl fp => pg_name (i := 2) scBehindN.nd rfl (Or.inl rfl))
      (fun s H C cl fp => pts_one (pt_cmpR (r := rIn K false) op_in_seq (pe_op op_add (pv 2) pe_int) (pv 1) rfl))
      (fun s H C cl fp => pv 2)) pa_nil))), ?_⟩
    refine ⟨_, rfl, a, rfl, ⟨_, SqL.of ha⟩, fun D hD => ?_⟩
    refine lc_list (K := K) (xs := natsV l) (fun i H' => H' D = some (.lst (natsV ((l.take i).filter fun x => m.contains (x + 1)))) ∧ Same H H') ⟨upd_same, Same.upd (Same.refl H) hD⟩ (fun i H' _ h => SqL.of (h.2 _ _ ha)) ?_ ?_
    · rintro i x H' hx ⟨hl, hs⟩
      obtain ⟨n, hn, rfl⟩ := natsV_get hx
      have hi : i < l.length := (List.getElem?_eq_some_iff.mp hn).1
      refine ⟨rfl, _, rfl, _, _, rfl, rfl, _, rfl, b, natsV m, rfl, .inl (SqL.of (hs _ _ hb)), rfl, natsV_flat m, _, rfl, ?_⟩
      show if inV (V.int ((n : Int) + 1)) (natsV m) = true then _ else _
      rw [show (n : Int) + 1 = ((n + 1 : Nat) : Int) by omega, natsV_in]
      cases e : m.contains (n + 1) with
      | true =>
        refine iteT ⟨_, rfl, _, hl, small1000 ?_, ?_, Same.upd hs hD⟩
        · rw [List.length_map]
          refine Nat.le_trans (List.length_filter_le _ _) ?_
          rw [List.length_take]
          omega
        · rw [upd_same, filter_snoc hn, e]
          show _ = some (HO.lst (List.map _ (_ ++ [n])))
          rw [List.map_append]
          rfl
      | false =>
        refine iteF ⟨?_, hs⟩
        rw [hl, filter_snoc hn, e]
        show _ = some (HO.lst (List.map _ (_ ++ [])))
        rw [List.append_nil]
    · rintro H' ⟨hl, hs⟩
      rw [natsV_len, List.take_length] at hl
      refine ⟨D, _, rfl, .inl (SqL.of hl), ?_⟩
      rw [natsV_len]
      exact k H' hs
theorem ixN_nat {n j : Nat} (h : j < n) : ixN n (j : Int) = some j := by
  unfold ixN
  rw [if_pos (by omega), if_pos (by omega)]
  rfl
theorem natsV_set (l : List Nat) (j x : Nat) : (natsV l).set j (V.int (x : Int)) = natsV (l.set j x) := by
  show (l.map _).set j _ = (l.set j x).map _
  rw [List.map_set]
theorem rep_zero (p : Nat) : (List.replicate ((p : Nat) : Int).toNat [V.int 0]).flatten = natsV (hist p []) := by
  rw [hist_nil, Int.toNat_natCast]
  show _ = (List.replicate p 0).map _
  rw [List.map_replicate]
  induction p with
  | zero => rfl
  | succ p ih =>
    rw [List.replicate_succ, List.flatten_cons, ih, List.replicate_succ]
    rfl
theorem scDiffs : FnScope ["members", "prime", "counts", "one", "another", "difference"] ["members", "prime"] (defScope sDiffs) := ⟨rfl, rfl, rfl, by decide +kernel, rfl, by decide +kernel, by decide +kernel⟩
theorem ok_diffs {f : Addr} {fd : FuncData} (F : Fun K "difference_counts" "difference_counts" sDiffs f fd) : FnOk P w K mg base CX0 1 f fd ["members", "prime"] spDiffs := by
  refine F.ok scDiffs (fun vs H Q E h => ?_) (fun cdv A outer s H vs Q E hr h => ?_)
  · obtain ⟨a, p, l, rfl, _⟩ := h
    rfl
  · obtain ⟨a, p, l, rfl, ha, h1, h2, hp, k⟩ := h
    refine ⟨_, pss_cons (ps_set (i := 2) scDiffs.nd rfl (Or.inl rfl) (pe_op op_rep (pe_lst (pa_cons pe_int pa_nil)) (pv 1)))
      (pss_cons (ps_for PassesOwn.never rfl (pi_list (pv 0)) (pg_name (i := 3) scDiffs.nd rfl (Or.inl rfl))
        (pss_one (ps_for PassesOwn.never rfl (pi_list (pv 0)) (pg_name (i := 4) scDiffs.nd rfl (Or.inl rfl))
          (pss_cons (ps_set (i := 5) scDiffs.nd rfl (Or.inl rfl) (pe_op op_less (pe_op op_sub (pv 3) (pv 4)) (pv 1)))
          (pss_one (ps_asg (pe_op op_add (pe_ix ix_list (pv 2) (pv 5) (fun _ _ => rfl)) pe_int) (pg_sub (pv 2) (pv 5) set_list)))))))
      (pss_one (ps_ret (pv 2)))), ?_⟩
    refine ⟨(by show 1 ≤ sizeLine; decide), fun q0 hq0 => ⟨_, rfl, q0, _, _, rfl, rfl, upd_same, by omega, by omega, ?_, fun q hq => ?_⟩⟩
    · rw [sizeLine_eq]
      show 1 * _ ≤ _
      omega
    rw [rep_zero]
    have s0 : Same H (upd H q0 (.lst [V.int 0])) := Same.upd (Same.refl H) hq0
    have hqn : H q = none := s0.free hq
    have ha0 : (upd (upd H q0 (.lst [V.int 0])) q (.lst (natsV (hist p [])))) a = some (.lst (natsV l)) := Same.upd s0 hqn _ _ ha
    refine ⟨_, rfl, a, rfl, ⟨_, SqL.of ha0⟩, ?_⟩
    refine for_list (K := K) (xs := natsV l) (fun i σ H' => (∃ v3 v4 v5 : Option V, σ = [some (.ref a), some (.int p), some (.ref q), v3, v4, v5]) ∧ H' q = some (.lst (natsV (hist p (diffs p l (l.take i))))) ∧ Same H H') ⟨⟨none, none, none, rfl⟩, upd_same, Same.upd s0 hqn⟩ (fun i σ H' _ h => SqL.of (h.2.2 _ _ ha)) ?_ ?_
    · rintro i x σ H' hx ⟨⟨v3, v4, v5, rfl⟩, hl, hs⟩
      obtain ⟨s1, hs1, rfl⟩ := natsV_get hx
      have hsp := hp s1 (List.mem_of_getElem? hs1)
      refine ⟨_, rfl, a, rfl, ⟨_, SqL.of (hs _ _ ha)⟩, ?_⟩
      refine for_list (K := K) (xs := natsV l) (fun j σ H' => (∃ v4 v5 : Option V, σ = [some (.ref a), some (.int p), some (.ref q), some (.int s1), v4, v5]) ∧ H' q = some (.lst (natsV (hist p (diffs p l (l.take i) ++ (l.take j).map (less p s1))))) ∧ Same H H') ⟨⟨v4, v5, rfl⟩, by rw [hl, List.take_zero, List.map_nil, List.append_nil], hs⟩ (fun i σ H' _ h => SqL.of (h.2.2 _ _ ha)) ?_ ?_
      · rintro j y σ H2 hy ⟨⟨v4, v5, rfl⟩, hl2, hs2⟩
        obtain ⟨t1, ht1, rfl⟩ := natsV_get hy
        have hlt : less p s1 t1 < p := less_lt (by omega)
        have hnew : natsV (hist p (diffs p l (l.take i) ++ (l.take (j + 1)).map (less p s1))) = (natsV (hist p (diffs p l (l.take i) ++ (l.take j).map (less p s1)))).set (less p s1 t1) (V.int (((diffs p l (l.take i) ++ (l.take j).map (less p s1)).count (less p s1 t1) : Nat) + 1 : Int)) := by
          rw [map_snoc _ ht1, ← List.append_assoc, hist_snoc _ hlt, ← natsV_set]
          rfl
        refine ⟨_, rfl, _, rfl, _, _, rfl, rfl, _, rfl, s1, t1, p, rfl, rfl, by omega, ?_⟩
        refine ⟨_, rfl, _, rfl, q, _, _, _, rfl, rfl, SqL.of hl2, atI_nat (j := less p s1 t1) (by rw [List.getElem?_map, hist_get _ hlt]; rfl), _, _, rfl, rfl, ?_⟩
        refine ⟨_, rfl, _, rfl, q, _, _, less p s1 t1, rfl, rfl, hl2, ixN_nat (by rw [natsV_len, hist_length]; exact hlt), ⟨_, _, rfl⟩, ?_, Same.upd hs2 hqn⟩
        rw [upd_same, hnew]
      · rintro σ H2 ⟨⟨v4, v5, rfl⟩, hl2, hs2⟩
        refine ⟨⟨_, _, _, rfl⟩, ?_, hs2⟩
        rw [hl2, natsV_len, List.take_length, diffs_snoc p l hs1]
    · rintro σ H' ⟨⟨v3, v4, v5, rfl⟩, hl, hs⟩
      rw [natsV_len, List.take_length] at hl
      exact ⟨_, rfl, k H' q hs hqn hl⟩
theorem cut_one (l : List Nat) (h : 1 ≤ l.length) : cutV (natsV l) (some 1) none = natsV (l.drop 1) := by
  unfold cutV
  have e1 : HT.sIx (natsV l).length 0 (some 1) = 1 := by
    rw [natsV_len]
    show (if (1 : Int) < 0 then ((1 : Int) + (l.length : Int)).toNat else min (1 : Int).toNat l.length) = _
    rw [if_neg (by omega)]
    omega
  have e2 : HT.sIx (natsV l).length (natsV l).length none = l.length := by
    rw [natsV_len]
    rfl
  rw [e1, e2]
  show ((l.map _).drop 1).take _ = (l.drop 1).map _
  rw [← List.map_drop, ← List.map_take, List.take_of_length_le (by rw [List.length_drop]; exact Nat.le_refl _)]
theorem scEvenly : FnScope ["members", "prime", "counts"] ["members", "prime"] (defScope sEvenly) := ⟨rfl, rfl, rfl, by decide +kernel, rfl, by decide +kernel, by decide +kernel⟩
theorem ok_evenly {f : Addr} {fd : FuncData} (F : Fun K "differ_evenly" "differ_evenly" sEvenly f fd) (T : TP mg) (hD : Has P w K mg base 1 "difference_counts" spDiffs) : FnOk P w K mg base CX0 2 f fd ["members", "prime"] spEvenly := by
  refine F.ok scEvenly (fun vs H Q E h => ?_) (fun cdv A outer s H vs Q E hr h => ?_)
  · obtain ⟨a, p, l, rfl, _⟩ := h
    rfl
  · obtain ⟨a, p, l, rfl, ha, h1, h2, hn, hp, k⟩ := h
    refine ⟨_, pss_cons (ps_set (i := 2) scEvenly.nd rfl (Or.inl rfl) (pe_slice sl_list (pe_fn hD hr rfl (pa_cons (pv 0) (pa_cons (pv 1) pa_nil))) (po_some pe_int) po_none))
      (pss_one (ps_ret (pe_cmpR op_eq (pe_callB (cr_min rfl) rfl T.min bt_min (pa_cons (pv 2) pa_nil)) (pe_callB (cr_max rfl) rfl T.max bt_max (pa_cons (pv 2) pa_nil)) (nomark _)))), ?_⟩
    refine ⟨_, rfl, _, rfl, a, p, l, rfl, ha, h1, h2, hp, fun H1 q1 s1 hq1 hl1 => ?_⟩
    refine ⟨_, rfl, q1, _, rfl, SqL.of hl1, fun q hq => ?_⟩
    rw [cut_one _ (by rw [hist_length]; omega), hist_tail hn hp, natsV_ints]
    have s2 := s1.trans (Same.upd (Same.refl H1) hq (o := .lst ((intsOf ((List.range (p - 1)).map fun k => Kp302.differs p l (k + 1))).map V.int)))
    have hpos : 0 < (intsOf ((List.range (p - 1)).map fun k => Kp302.differs p l (k + 1))).length := by
      rw [List.length_map, List.length_map, List.length_range]
      omega
    refine ⟨_, rfl, q, _, rfl, SqL.of upd_same, hpos, fun lo ml al => ?_⟩
    refine ⟨_, rfl, q, _, rfl, SqL.of upd_same, hpos, fun hi mh ah => ⟨rfl, ?_⟩⟩
    have e : decide (V.int lo = V.int hi) = Kp302.even p l := by
      rw [← even_iff h1 ml mh al ah, dec_int, Bool.eq_iff_iff, beq_iff_eq, decide_eq_true_eq]
    rw [e]
    exact k _ s2
theorem scClassOf : FnScope ["held", "remainder"] ["held", "remainder"] (defScope sClassOf) := ⟨rfl, rfl, rfl, by decide +kernel, rfl, by decide +kernel, by decide +kernel⟩
theorem ok_classOf {f C : Addr} {fd : FuncData} (F : Fun K "class_of" "class_of" sClassOf f fd) (T : TC K mg C) (hI : Has P w K mg base 1 "index_of" (spIndex C)) : FnOk P w K mg base CX0 2 f fd ["held", "remainder"] (spClassOf C) := by
  refine F.ok scClassOf (fun vs H Q E h => ?_) (fun cdv A outer s H vs Q E hr h => ?_)
  · obtain ⟨a, l, c, r, rfl, _⟩ := h
    rfl
  · obtain ⟨a, l, c, r, rfl, hh, hr1, hr0, k⟩ := h
    have hh0 := hh
    obtain ⟨O, dx, ha, hl⟩ := hh
    obtain ⟨e2, e8, ep, p3, p2⟩ := O.ele
    refine ⟨_, pss_one (ps_ret (pe_op op_modn (pe_fn hI hr rfl (pa_cons (pv 0) (pa_cons (pv 1) pa_nil))) (pe_fld (pv 0) rfl))), ?_⟩
    exact ⟨_, rfl, _, rfl, a, l, c, r, rfl, hh0, hr1, hr0, fun H1 s1 => ⟨_, rfl, a, C, dx, _, _, rfl, s1 _ _ ha, T.cl, T.nC, hf_count _ _ _, _, c.e, rfl, rfl, by omega, k H1 s1⟩⟩
theorem scHas : FnScope ["held", "number"] ["held", "number"] (defScope sHas) := ⟨rfl, rfl, rfl, by decide +kernel, rfl, by decide +kernel, by decide +kernel⟩
theorem ok_has {f C : Addr} {fd : FuncData} (F : Fun K "has_class" "has_class" sHas f fd) (T : TC K mg C) : FnOk P w K mg base CX0 1 f fd ["held", "number"] (spHas C) := by
  refine F.ok scHas (fun vs H Q E h => ?_) (fun cdv A outer s H vs Q E hr h => ?_)
  · obtain ⟨a, l, c, i, rfl, _⟩ := h
    rfl
  · obtain ⟨a, l, c, i, rfl, ⟨O, dx, ha, hl⟩, k⟩ := h
    refine ⟨_, pss_one (ps_ret (pe_cmpR op_lt (pv 1) (pe_fld (pv 0) rfl) (nomark _))), ?_⟩
    refine ⟨_, rfl, _, rfl, a, C, dx, _, _, rfl, ha, T.cl, T.nC, hf_count _ _ _, _, _, rfl, rfl, ?_⟩
    have e : decide ((i : Int) < (c.e : Int)) = Kp302.is c i := by
      unfold Kp302.is
      rw [Bool.eq_iff_iff, decide_eq_true_eq, decide_eq_true_eq]
      omega
    show Q (V.bl (decide ((i : Int) < (c.e : Int)))) H
    rw [e]
    exact k H (Same.refl H)
theorem scRowOf : FnScope ["held", "number", "members", "other"] ["held", "number"] (defScope sRowOf) := ⟨rfl, rfl, rfl, by decide +kernel, rfl, by decide +kernel, by decide +kernel⟩
theorem blkRowOf : BlkOk ["held", "number", "members", "other"] (defScope sRowOf) (retLc2 sRowOf) [("other", 3)] := ⟨rfl, by decide +kernel, by decide +kernel, by decide +kernel, by decide +kernel⟩
theorem ok_rowOf {f C : Addr} {fd : FuncData} (F : Fun K "row_of" "row_of" sRowOf f fd) (R : TR mg) (T : TC K mg C) (hM : Has P w K mg base 1 "members_of" (spMembers C)) (hB : Has P w K mg base 1 "count_behind" spBehindN) : FnOk P w K mg base CX0 2 f fd ["held", "number"] (spRowOf C) := by
  refine F.ok scRowOf (fun vs H Q E h => ?_) (fun cdv A outer s H vs Q E hr h => ?_)
  · obtain ⟨a, l, c, i, rfl, _⟩ := h
    rfl
  · obtain ⟨a, l, c, i, rfl, hh, hi, k⟩ := h
    have hh0 := hh
    obtain ⟨O, dx, ha, hl⟩ := hh
    obtain ⟨e2, e8, ep, p3, p2⟩ := O.ele
    refine ⟨_, pss_cons (ps_set (i := 2) scRowOf.nd rfl (Or.inr rfl) (pe_fn hM hr rfl (pa_cons (pv 0) (pa_cons (pv 1) pa_nil))))
      (pss_one (ps_ret (pe_lc (own := [("other", 3)]) rfl scRowOf.nd (pi_range1 rfl R.range (pa_cons (pe_fld (pv 0) rfl) pa_nil))
        blkRowOf
        (fun s H C cl fp => pg_name (i := 3) scRowOf.nd rfl (Or.inl rfl))
        (fun s H C cl fp => pts_nil)
        (fun s H C cl fp => pe_fn hB hr rfl (pa_cons (pv 2) (pa_cons (pe_fn hM hr rfl (pa_cons (pv 0) (pa_cons (pv 3) pa_nil))) pa_nil)))))), ?_⟩
    refine ⟨_, rfl, _, rfl, a, l, c, i, rfl, hh0, hi, fun H1 q1 s1 hq1 hl1 => ?_⟩
    refine ⟨_, rfl, a, C, dx, _, _, rfl, s1 _ _ ha, T.cl, T.nC, hf_count _ _ _, _, rfl, by omega, by omega, fun D hD => ?_⟩
    have hDn : H D = none := s1.free hD
    refine lc_range (n := ((c.e : Nat) : Int).toNat) (lo := 0) (fun j H' => H' D = some (.lst (natsV (((List.range c.e).take j).map (Kp302.behind c i)))) ∧ Same H1 H') ⟨upd_same, Same.upd (Same.refl H1) hD⟩ ?_ ?_
    · rintro j H' hj ⟨hlD, hs⟩
      rw [Int.toNat_natCast] at hj
      rw [Int.zero_add]
      refine ⟨rfl, _, rfl, _, rfl, _, rfl, a, l, c, j, rfl, (hh0.same s1).same hs, hj, fun H2 q2 s2 hq2 hl2 => ?_⟩
      have hlen := members_length c i
      refine ⟨q1, q2, _, _, rfl, s2 _ _ (hs _ _ hl1), hl2, by omega, fun H3 s3 => ?_⟩
      refine ⟨_, s3 _ _ (s2 _ _ hlD), small1000 ?_, ?_, Same.upd ((hs.trans s2).trans s3) hD⟩
      · rw [List.length_map, List.length_map, List.length_take, List.length_range]
        omega
      · rw [upd_same, behind_eq O, map_snoc _ (List.getElem?_range hj), natsV_snoc]
    · rintro H' ⟨hlD, hs⟩
      rw [Int.toNat_natCast, List.take_of_length_le (by rw [List.length_range]; exact Nat.le_refl _)] at hlD
      exact k H' D (s1.trans hs) hDn hlD
end
end Pw

set_option Elab.async false
set_option linter.all false
set_option maxRecDepth 100000
set_option maxHeartbeats 2000000
namespace Pw
open PySem PySem.Spec PyProof.Rows L2
/-! ### the numbers of a call -/
theorem nat_of {x : Int} (h : Kp302Neutral.natural x = true) : ∃ n : Nat, x = (n : Int) ∧ n < 4294967296 := by
  unfold Kp302Neutral.natural at h
  rw [Bool.and_eq_true, decide_eq_true_eq, decide_eq_true_eq] at h
  exact ⟨x.toNat, by omega, by omega⟩
theorem one_of {x : Int} (h : Kp302Neutral.natural x = true) : ∃ n : Nat, [x] = [(n : Int)] ∧ n < 4294967296 := by
  obtain ⟨n, rfl, hn⟩ := nat_of h
  exact ⟨n, rfl, hn⟩
theorem two_of {x y : Int} (h : (Kp302Neutral.natural x && Kp302Neutral.natural y) = true) : ∃ n m : Nat, [x, y] = [(n : Int), (m : Int)] ∧ n < 4294967296 ∧ m < 4294967296 := by
  rw [Bool.and_eq_true] at h
  obtain ⟨n, rfl, hn⟩ := nat_of h.1
  obtain ⟨m, rfl, hm⟩ := nat_of h.2
  exact ⟨n, m, rfl, hn, hm⟩
theorem ask1 {args : List Int} (h : Kp302Neutral.asked1 [1 :: args] = true) : ∃ n : Nat, args = [(n : Int)] ∧ n < 4294967296 := by
  match args, h with
  | [x], h => exact one_of h
  | [], h => exact absurd h (by decide)
  | _ :: _ :: r, h => exact absurd h (by cases r <;> exact Bool.false_ne_true)
theorem ask2 {args : List Int} (h : Kp302Neutral.asked1 [2 :: args] = true) : ∃ n : Nat, args = [(n : Int)] ∧ n < 4294967296 := by
  match args, h with
  | [x], h => exact one_of h
  | [], h => exact absurd h (by decide)
  | _ :: _ :: r, h => exact absurd h (by cases r <;> exact Bool.false_ne_true)
theorem ask5 {args : List Int} (h : Kp302Neutral.asked1 [5 :: args] = true) : ∃ n : Nat, args = [(n : Int)] ∧ n < 4294967296 := by
  match args, h with
  | [x], h => exact one_of h
  | [], h => exact absurd h (by decide)
  | _ :: _ :: r, h => exact absurd h (by cases r <;> exact Bool.false_ne_true)
theorem ask6 {args : List Int} (h : Kp302Neutral.asked1 [6 :: args] = true) : ∃ n : Nat, args = [(n : Int)] ∧ n < 4294967296 := by
  match args, h with
  | [x], h => exact one_of h
  | [], h => exact absurd h (by decide)
  | _ :: _ :: r, h => exact absurd h (by cases r <;> exact Bool.false_ne_true)
theorem ask7 {args : List Int} (h : Kp302Neutral.asked1 [7 :: args] = true) : ∃ n : Nat, args = [(n : Int)] ∧ n < 4294967296 := by
  match args, h with
  | [x], h => exact one_of h
  | [], h => exact absurd h (by decide)
  | _ :: _ :: r, h => exact absurd h (by cases r <;> exact Bool.false_ne_true)
theorem ask8 {args : List Int} (h : Kp302Neutral.asked1 [8 :: args] = true) : ∃ n : Nat, args = [(n : Int)] ∧ n < 4294967296 := by
  match args, h with
  | [x], h => exact one_of h
  | [], h => exact absurd h (by decide)
  | _ :: _ :: r, h => exact absurd h (by cases r <;> exact Bool.false_ne_true)
theorem ask9 {args : List Int} (h : Kp302Neutral.asked1 [9 :: args] = true) : ∃ n : Nat, args = [(n : Int)] ∧ n < 4294967296 := by
  match args, h with
  | [x], h => exact one_of h
  | [], h => exact absurd h (by decide)
  | _ :: _ :: r, h => exact absurd h (by cases r <;> exact Bool.false_ne_true)
theorem ask11 {args : List Int} (h : Kp302Neutral.asked1 [11 :: args] = true) : ∃ n : Nat, args = [(n : Int)] ∧ n < 4294967296 := by
  match args, h with
  | [x], h => exact one_of h
  | [], h => exact absurd h (by decide)
  | _ :: _ :: r, h => exact absurd h (by cases r <;> exact Bool.false_ne_true)
theorem ask14 {args : List Int} (h : Kp302Neutral.asked1 [14 :: args] = true) : ∃ n : Nat, args = [(n : Int)] ∧ n < 4294967296 := by
  match args, h with
  | [x], h => exact one_of h
  | [], h => exact absurd h (by decide)
  | _ :: _ :: r, h => exact absurd h (by cases r <;> exact Bool.false_ne_true)
theorem ask15 {args : List Int} (h : Kp302Neutral.asked1 [15 :: args] = true) : ∃ n : Nat, args = [(n : Int)] ∧ n < 4294967296 := by
  match args, h with
  | [x], h => exact one_of h
  | [], h => exact absurd h (by decide)
  | _ :: _ :: r, h => exact absurd h (by cases r <;> exact Bool.false_ne_true)
theorem ask16 {args : List Int} (h : Kp302Neutral.asked1 [16 :: args] = true) : ∃ n : Nat, args = [(n : Int)] ∧ n < 4294967296 := by
  match args, h with
  | [x], h => exact one_of h
  | [], h => exact absurd h (by decide)
  | _ :: _ :: r, h => exact absurd h (by cases r <;> exact Bool.false_ne_true)
theorem ask18 {args : List Int} (h : Kp302Neutral.asked1 [18 :: args] = true) : ∃ n : Nat, args = [(n : Int)] ∧ n < 4294967296 := by
  match args, h with
  | [x], h => exact one_of h
  | [], h => exact absurd h (by decide)
  | _ :: _ :: r, h => exact absurd h (by cases r <;> exact Bool.false_ne_true)
theorem ask3 {args : List Int} (h : Kp302Neutral.asked1 [3 :: args] = true) : args = [] := by
  match args, h with
  | [], h => rfl
  | [x], h => exact absurd h Bool.false_ne_true
  | _ :: _ :: r, h => exact absurd h (by cases r <;> exact Bool.false_ne_true)
theorem ask4 {args : List Int} (h : Kp302Neutral.asked1 [4 :: args] = true) : args = [] := by
  match args, h with
  | [], h => rfl
  | [x], h => exact absurd h Bool.false_ne_true
  | _ :: _ :: r, h => exact absurd h (by cases r <;> exact Bool.false_ne_true)
theorem ask12 {args : List Int} (h : Kp302Neutral.asked1 [12 :: args] = true) : args = [] := by
  match args, h with
  | [], h => rfl
  | [x], h => exact absurd h Bool.false_ne_true
  | _ :: _ :: r, h => exact absurd h (by cases r <;> exact Bool.false_ne_true)
theorem ask19 {args : List Int} (h : Kp302Neutral.asked1 [19 :: args] = true) : args = [] := by
  match args, h with
  | [], h => rfl
  | [x], h => exact absurd h Bool.false_ne_true
  | _ :: _ :: r, h => exact absurd h (by cases r <;> exact Bool.false_ne_true)
theorem ask0 {args : List Int} (h : Kp302Neutral.asked1 [0 :: args] = true) : ∃ n m : Nat, args = [(n : Int), (m : Int)] ∧ n < 4294967296 ∧ m < 4294967296 := by
  match args, h with
  | [x, y], h => exact two_of h
  | [], h => exact absurd h (by decide)
  | [x], h => exact absurd h Bool.false_ne_true
  | _ :: _ :: _ :: r, h => exact absurd h Bool.false_ne_true
theorem ask10 {args : List Int} (h : Kp302Neutral.asked1 [10 :: args] = true) : ∃ n m : Nat, args = [(n : Int), (m : Int)] ∧ n < 4294967296 ∧ m < 4294967296 := by
  match args, h with
  | [x, y], h => exact two_of h
  | [], h => exact absurd h (by decide)
  | [x], h => exact absurd h Bool.false_ne_true
  | _ :: _ :: _ :: r, h => exact absurd h Bool.false_ne_true
theorem ask13 {args : List Int} (h : Kp302Neutral.asked1 [13 :: args] = true) : ∃ n m : Nat, args = [(n : Int), (m : Int)] ∧ n < 4294967296 ∧ m < 4294967296 := by
  match args, h with
  | [x, y], h => exact two_of h
  | [], h => exact absurd h (by decide)
  | [x], h => exact absurd h Bool.false_ne_true
  | _ :: _ :: _ :: r, h => exact absurd h Bool.false_ne_true
theorem ask17 {args : List Int} (h : Kp302Neutral.asked1 [17 :: args] = true) : ∃ n m : Nat, args = [(n : Int), (m : Int)] ∧ n < 4294967296 ∧ m < 4294967296 := by
  match args, h with
  | [x, y], h => exact two_of h
  | [], h => exact absurd h (by decide)
  | [x], h => exact absurd h Bool.false_ne_true
  | _ :: _ :: _ :: r, h => exact absurd h Bool.false_ne_true
end Pw

set_option Elab.async false
set_option linter.all false
set_option maxRecDepth 100000
set_option maxHeartbeats 2000000
namespace Pw
open PySem PySem.Spec PyProof.Rows L2
abbrev sBegin : Stmt := top 27
abbrev sSplit : Stmt := top 28
abbrev sOther : Stmt := top 29
abbrev sRoot : Stmt := top 30
abbrev sAllRoots : Stmt := top 31
abbrev sIdx : Stmt := top 32
abbrev sClass : Stmt := top 33
abbrev sPower : Stmt := top 34
abbrev sMem : Stmt := top 35
abbrev sFirst : Stmt := top 36
/-- what a call with the number j promises: the specification's step -/
def spA (C : Addr) (j : Int) : Sp := fun vs H Q _ => ∃ (a b l : Addr) (st : Kp302.State) (args : List Int), vs = [.ref a, .ref b] ∧ HeldIs C H a l st ∧ H b = some (.lst (args.map V.int)) ∧
  Kp302Neutral.asked1 [j :: args] = true ∧ (j = 0 ∨ st ≠ none) ∧
  ∀ H' q l', HeldIs C H' a l' (Kp302Neutral.step st [j :: args]).1 → (l' = l ∨ H l' = none) → H' q = some (.lst ((Kp302Neutral.step st [j :: args]).2.map V.int)) → Only a H H' → H q = none → Q (.ref q) H'
theorem fin_ {C a l : Addr} {H H1 : Hp} {st : Kp302.State} {Q : VK} {xs : List V} (hh : HeldIs C H a l st) (s : Same H H1)
    (k : ∀ H' q l', HeldIs C H' a l' st → (l' = l ∨ H l' = none) → H' q = some (.lst xs) → Only a H H' → H q = none → Q (.ref q) H') : ∀ q, H1 q = none → Q (.ref q) (upd H1 q (.lst xs)) := fun q hq =>
  k _ q l (hh.same (Same.upd s (s.free hq))) (.inl rfl) upd_same (Same.only (Same.upd s (s.free hq)) a) (s.free hq)
/-- the object is another, the rest as it was; the answer is a new list -/
theorem finU {C a dx l l0 : Addr} {H H1 : Hp} {st : Kp302.State} {Q : VK} {xs : List V} {p e : Int} {fs : List (Str × V)} {pw : List Nat} (ha : H a = some (.ins C dx fs)) (s : Same H H1) (hl : H1 l = some (.lst (natsV pw))) (hf0 : l = l0 ∨ H l = none)
    (hs : ∀ H', Held C H' a l p e pw → HeldIs C H' a l st)
    (k : ∀ H' q l', HeldIs C H' a l' st → (l' = l0 ∨ H l' = none) → H' q = some (.lst xs) → Only a H H' → H q = none → Q (.ref q) H') : ∀ q, (upd H1 a (.ins C dx (hf p e l))) q = none → Q (.ref q) (upd (upd H1 a (.ins C dx (hf p e l))) q (.lst xs)) := fun q hq => by
  have hqa : a ≠ q := ne_of_none upd_same hq
  have hla : l ≠ a := ne_of hl (s _ _ ha) (by intro z; cases z)
  have hq1 : H1 q = none := by rw [upd_ne (Ne.symm hqa)] at hq; exact hq
  have hql : l ≠ q := ne_of_none hl hq1
  refine k _ q l (hs _ ⟨dx, ?_, ?_⟩) hf0 upd_same (fun b o hb hn => ?_) (s.free hq1)
  · rw [upd_ne hqa, upd_same]
  · rw [upd_ne hql, upd_ne hla]
    exact hl
  · have hbq : b ≠ q := ne_of_none (s _ _ hb) hq1
    rw [upd_ne hbq, upd_ne hn]
    exact s _ _ hb
section
variable {P : Program} {w : World} {K : PySem.W.Frag} {mg : Str → Option Value} {base : Heap}
theorem scSplit : FnScope ["held", "told", "class_count"] ["held", "told"] (defScope sSplit) := ⟨rfl, rfl, rfl, by decide +kernel, rfl, by decide +kernel, by decide +kernel⟩
theorem ok_split {f C : Addr} {fd : FuncData} (F : Fun K "answer_split" "answer_split" sSplit f fd) (T : TC K mg C) (hCan : Has P w K mg base 1 "can_split" spCan) : FnOk P w K mg base CX0 2 f fd ["held", "told"] (spA C 1) := by
  refine F.ok scSplit (fun vs H Q E h => ?_) (fun cdv A outer s H vs Q E hr h => ?_)
  · obtain ⟨a, b, l, st, args, rfl, _⟩ := h
    rfl
  · obtain ⟨a, b, l, st, args, rfl, hh, hb, hask, hst, k⟩ := h
    obtain ⟨n, rfl, hn⟩ := ask1 hask
    obtain ⟨t33, g33⟩ := T.badSplit
    cases st with
    | none => exact absurd (hst.resolve_left (by decide)) (by simp)
    | some c =>
      have hh0 := hh
      obtain ⟨O, dx, ha, hl⟩ := hh
      obtain ⟨e2, e8, ep, p3, p2⟩ := O.ele
      refine ⟨_, pss_cons (ps_set (i := 2) scSplit.nd rfl (Or.inl rfl) (pe_ix ix_list (pv 1) pe_int (fun _ _ => rfl)))
        (pss_cons (ps_if (pt_not (pt_val (pe_fn hCan hr rfl (pa_cons (pe_fld (pv 0) rfl) (pa_cons (pv 2) pa_nil))))) (pss_one (ps_ret (pe_lst (pa_cons (pe_gint rfl g33) pa_nil)))) pss_nil)
        (pss_cons (ps_fld (pv 0) (pv 2) rfl)
        (pss_one (ps_ret (pe_lst (pa_cons (pe_op op_fdiv (pe_op op_sub (pe_fld (pv 0) rfl) pe_int) (pv 2)) pa_nil)))))), ?_⟩
      refine ⟨_, rfl, b, _, _, _, rfl, rfl, SqL.of hb, rfl, ?_⟩
      refine ⟨_, rfl, a, C, dx, _, _, rfl, ha, T.cl, T.nP, hf_prime _ _ _, _, rfl, c.p, n, rfl, by omega, fun H1 s1 => ⟨_, rfl, ?_⟩⟩
      cases eo : Kp302.okE c.p n with
      | false =>
        have es : Kp302Neutral.step (some c) [[1, (n : Int)]] = (some c, [-33]) := by
          show (let y := (if Kp302.okE c.p n = false then (some c, Kp302.say (-33)) else (some { c with e := n }, Kp302.say ((c.p - 1) / n : Nat))); (y.1, y.2.num :: y.2.nums)) = _
          rw [if_pos eo]
          rfl
        rw [es] at k
        exact iteT ⟨(by show 1 ≤ sizeLine; decide), fin_ hh0 s1 k⟩
      | true =>
        have es : Kp302Neutral.step (some c) [[1, (n : Int)]] = (some { c with e := n }, [(((c.p - 1) / n : Nat) : Int)]) := by
          show (let y := (if Kp302.okE c.p n = false then (some c, Kp302.say (-33)) else (some { c with e := n }, Kp302.say ((c.p - 1) / n : Nat))); (y.1, y.2.num :: y.2.nums)) = _
          rw [if_neg (by rw [eo]; decide)]
          rfl
        rw [es] at k
        obtain ⟨n2, n8, nd⟩ := okE_iff.mp eo
        refine iteF ⟨_, rfl, _, rfl, a, C, dx, _, rfl, s1 _ _ ha, T.cl, T.nC, (by show 3 < 1000; decide), ?_⟩
        rw [hf_count']
        refine ⟨_, rfl, a, C, dx, _, _, rfl, upd_same, T.cl, T.nP, hf_prime _ _ _, _, _, rfl, rfl, _, rfl, _, _, rfl, rfl, ⟨by omega, by omega⟩, (by show 1 ≤ sizeLine; decide), ?_⟩
        have ez : ((c.p : Int) - 1) / (n : Int) = (((c.p - 1) / n : Nat) : Int) := by
          rw [show (c.p : Int) - 1 = ((c.p - 1 : Nat) : Int) by omega, ← Int.natCast_ediv]
        rw [← ez] at k
        exact finU (st := some { c with e := n }) (pw := Kp302.powers c.p c.g) ha s1 (s1 _ _ hl) (.inl rfl) (fun H' z => ⟨⟨O.p, eo, O.g, O.lt⟩, z⟩) k

/-! ### begin -/
theorem scBegin : FnScope ["held", "told", "prime", "class_count"] ["held", "told"] (defScope sBegin) := ⟨rfl, rfl, rfl, by decide +kernel, rfl, by decide +kernel, by decide +kernel⟩
theorem HeldIs.at_ {C : Addr} {H : Hp} {a l : Addr} {st : Kp302.State} (h : HeldIs C H a l st) : ∃ dx p e, H a = some (.ins C dx (hf p e l)) := by
  cases st with
  | none => exact let ⟨dx, h1, _⟩ := h; ⟨dx, _, _, h1⟩
  | some c => exact let ⟨_, dx, h1, _⟩ := h; ⟨dx, _, _, h1⟩
theorem HeldIs.list {C : Addr} {H : Hp} {a l : Addr} {st : Kp302.State} (h : HeldIs C H a l st) : ∃ pw, H l = some (.lst (natsV pw)) := by
  cases st with
  | none => exact let ⟨_, _, h1⟩ := h; ⟨_, h1⟩
  | some c => exact let ⟨_, _, _, h1⟩ := h; ⟨_, h1⟩
theorem ok_begin {f C : Addr} {fd : FuncData} (F : Fun K "answer_begin" "answer_begin" sBegin f fd) (T : TC K mg C) (hPr : Has P w K mg base 1 "is_odd_prime" spPrime) (hCan : Has P w K mg base 1 "can_split" spCan)
    (hLe : Has P w K mg base 3 "least_root" spLeast) (hPo : Has P w K mg base 1 "powers_of" spPowers) : FnOk P w K mg base CX0 4 f fd ["held", "told"] (spA C 0) := by
  refine F.ok scBegin (fun vs H Q E h => ?_) (fun cdv A outer s H vs Q E hr h => ?_)
  · obtain ⟨a, b, l, st, args, rfl, _⟩ := h
    rfl
  · obtain ⟨a, b, l, st, args, rfl, hh, hb, hask, hst, k⟩ := h
    obtain ⟨p, e, rfl, hp, he⟩ := ask0 hask
    obtain ⟨t33, g33⟩ := T.badSplit
    obtain ⟨t22, g22⟩ := T.badNumber
    obtain ⟨dx, p0, e0, ha⟩ := hh.at_
    have hr1 : Room 1 _ := hr.mono (by decide)
    refine ⟨_, pss_cons (ps_set (i := 2) scBegin.nd rfl (Or.inl rfl) (pe_ix ix_list (pv 1) pe_int (fun _ _ => rfl)))
      (pss_cons (ps_set (i := 3) scBegin.nd rfl (Or.inl rfl) (pe_ix ix_list (pv 1) pe_int (fun _ _ => rfl)))
      (pss_cons (ps_if (pt_not (pt_val (pe_fn hPr hr1 rfl (pa_cons (pv 2) pa_nil)))) (pss_one (ps_ret (pe_lst (pa_cons (pe_gint rfl g22) pa_nil)))) pss_nil)
      (pss_cons (ps_if (pt_not (pt_val (pe_fn hCan hr1 rfl (pa_cons (pv 2) (pa_cons (pv 3) pa_nil))))) (pss_one (ps_ret (pe_lst (pa_cons (pe_gint rfl g33) pa_nil)))) pss_nil)
      (pss_cons (ps_fld (pv 0) (pv 2) rfl)
      (pss_cons (ps_fld (pv 0) (pv 3) rfl)
      (pss_cons (ps_fld (pv 0) (pe_fn hPo hr1 rfl (pa_cons (pe_fn hLe hr rfl (pa_cons (pv 2) pa_nil)) (pa_cons (pv 2) pa_nil))) rfl)
      (pss_one (ps_ret (pe_lst (pa_cons pe_int pa_nil)))))))))), ?_⟩
    refine ⟨_, rfl, b, _, _, _, rfl, rfl, SqL.of hb, rfl, ?_⟩
    refine ⟨_, rfl, b, _, _, _, rfl, rfl, SqL.of hb, rfl, ?_⟩
    refine ⟨_, rfl, p, rfl, hp, fun H1 s1 => ⟨_, rfl, ?_⟩⟩
    have es : Kp302Neutral.step st [[0, (p : Int), (e : Int)]] = (let y := (if Kp302.okP p = false then (st, Kp302.say (-22)) else if Kp302.okE p e = false then (st, Kp302.say (-33)) else (some ⟨p, e, Kp302.leastRoot p⟩, Kp302.say 0)); (y.1, y.2.num :: y.2.nums)) := rfl
    rw [es] at k
    cases eo : Kp302.okP p with
    | false =>
      rw [if_pos eo] at k
      exact iteT ⟨(by show 1 ≤ sizeLine; decide), fin_ hh s1 k⟩
    | true =>
      rw [if_neg (by rw [eo]; decide)] at k
      have p3 := (okP_lt eo)
      refine iteF ⟨_, rfl, _, rfl, p, e, rfl, by omega, fun H2 s2 => ⟨_, rfl, ?_⟩⟩
      have s12 := s1.trans s2
      cases ee : Kp302.okE p e with
      | false =>
        rw [if_pos ee] at k
        exact iteT ⟨(by show 1 ≤ sizeLine; decide), fin_ hh s12 k⟩
      | true =>
        rw [if_neg (by rw [ee]; decide)] at k
        refine iteF ⟨_, rfl, _, rfl, a, C, dx, _, rfl, s12 _ _ ha, T.cl, T.nP, (by show 3 < 1000; decide), ?_⟩
        rw [hf_prime']
        refine ⟨_, rfl, _, rfl, a, C, dx, _, rfl, upd_same, T.cl, T.nC, (by show 3 < 1000; decide), ?_⟩
        rw [hf_count']
        refine ⟨_, rfl, p, rfl, eo, fun H3 s3 => ⟨_, rfl, Kp302.leastRoot p, p, rfl, by omega, by omega, fun H4 ln s4 hl3 hl4 => ?_⟩⟩
        have ha2 : (upd (upd H2 a (.ins C dx (hf p e0 l))) a (.ins C dx (hf p e l))) a = some (.ins C dx (hf p e l)) := upd_same
        have ha4 := s4 _ _ (s3 _ _ ha2)
        refine ⟨_, rfl, a, C, dx, _, rfl, ha4, T.cl, T.nW, (by show 3 < 1000; decide), ?_⟩
        rw [hf_powers']
        refine ⟨(by show 1 ≤ sizeLine; decide), fun q hq => ?_⟩
        obtain ⟨l1, l2, _, _⟩ := least_spec eo
        have hqa : a ≠ q := ne_of_none upd_same hq
        have hla : ln ≠ a := ne_of hl4 ha4 (by intro z; cases z)
        have hq4 : H4 q = none := by rw [upd_ne (Ne.symm hqa)] at hq; exact hq
        have hql : ln ≠ q := ne_of_none hl4 hq4
        have keep : Only a H H4 := fun b' o hb' hn => s4 _ _ (s3 _ _ (by rw [upd_ne hn, upd_ne hn]; exact s12 _ _ hb'))
        refine k _ q ln ⟨⟨eo, ee, l1, l2⟩, dx, ?_, ?_⟩ (.inr ?_) upd_same (fun b' o hb' hn => ?_) ?_
        · rw [upd_ne hqa, upd_same]
        · rw [upd_ne hql, upd_ne hla]
          exact hl4
        · cases z : H ln with
          | none => rfl
          | some o =>
            have hna : ln ≠ a := hla
            have := s3 ln o (by rw [upd_ne hna, upd_ne hna]; exact s12 _ _ z)
            rw [hl3] at this
            cases this
        · rw [upd_ne (ne_of_none (keep _ _ hb' hn) hq4), upd_ne hn]
          exact keep _ _ hb' hn
        · cases z : H q with
          | none => rfl
          | some o =>
            rw [keep q o z (Ne.symm hqa)] at hq4
            cases hq4

/-! ### other -/
theorem scOther : FnScope ["held", "told", "root", "index"] ["held", "told"] (defScope sOther) := ⟨rfl, rfl, rfl, by decide +kernel, rfl, by decide +kernel, by decide +kernel⟩
theorem ok_other {f C : Addr} {fd : FuncData} (F : Fun K "answer_other" "answer_other" sOther f fd) (T : TC K mg C) (hL : Has P w K mg base 2 "leaves_all" spLeaves) (hI : Has P w K mg base 1 "index_of" (spIndex C))
    (hPo : Has P w K mg base 1 "powers_of" spPowers) : FnOk P w K mg base CX0 3 f fd ["held", "told"] (spA C 2) := by
  refine F.ok scOther (fun vs H Q E h => ?_) (fun cdv A outer s H vs Q E hr h => ?_)
  · obtain ⟨a, b, l, st, args, rfl, _⟩ := h
    rfl
  · obtain ⟨a, b, l, st, args, rfl, hh, hb, hask, hst, k⟩ := h
    obtain ⟨g, rfl, hg⟩ := ask2 hask
    obtain ⟨t22, g22⟩ := T.badNumber
    have hr1 : Room 1 _ := hr.mono (by decide)
    cases st with
    | none => exact absurd (hst.resolve_left (by decide)) (by simp)
    | some c =>
      have hh0 := hh
      obtain ⟨O, dx, ha, hl⟩ := hh
      obtain ⟨e2, e8, ep, p3, p2⟩ := O.ele
      refine ⟨_, pss_cons (ps_set (i := 2) scOther.nd rfl (Or.inl rfl) (pe_op op_modn (pe_ix ix_list (pv 1) pe_int (fun _ _ => rfl)) (pe_fld (pv 0) rfl)))
        (pss_cons (ps_if (pt_not (pt_val (pe_fn hL hr rfl (pa_cons (pv 2) (pa_cons (pe_fld (pv 0) rfl) pa_nil))))) (pss_one (ps_ret (pe_lst (pa_cons (pe_gint rfl g22) pa_nil)))) pss_nil)
        (pss_cons (ps_set (i := 3) scOther.nd rfl (Or.inl rfl) (pe_fn hI hr1 rfl (pa_cons (pv 0) (pa_cons (pv 2) pa_nil))))
        (pss_cons (ps_fld (pv 0) (pe_fn hPo hr1 rfl (pa_cons (pv 2) (pa_cons (pe_fld (pv 0) rfl) pa_nil))) rfl)
        (pss_one (ps_ret (pe_lst (pa_cons (pv 3) pa_nil))))))), ?_⟩
      refine ⟨_, rfl, b, _, _, _, rfl, rfl, SqL.of hb, rfl, _, rfl, a, C, dx, _, _, rfl, ha, T.cl, T.nP, hf_prime _ _ _, g, c.p, rfl, rfl, (by omega), ?_⟩
      refine ⟨_, rfl, _, rfl, a, C, dx, _, _, rfl, ha, T.cl, T.nP, hf_prime _ _ _, g % c.p, c.p, rfl, O.g.pr, fun H1 s1 => ⟨_, rfl, ?_⟩⟩
      have es : Kp302Neutral.step (some c) [[2, (g : Int)]] = (let y := (if Kp302.leavesAll c.p g = false then (some c, Kp302.say (-22)) else (some { c with g := g % c.p }, Kp302.say (Kp302.index c (g % c.p) : Nat))); (y.1, y.2.num :: y.2.nums)) := rfl
      rw [es] at k
      have el : Kp302.leavesAll c.p (g % c.p) = Kp302.leavesAll c.p g := by
        rw [Bool.eq_iff_iff, leaves_iff O.g.pr, leaves_iff O.g.pr, Rt.mod O.g.pr]
      rw [el]
      cases eo : Kp302.leavesAll c.p g with
      | false =>
        rw [if_pos eo] at k
        exact iteT ⟨(by show 1 ≤ sizeLine; decide), fin_ hh0 s1 k⟩
      | true =>
        rw [if_neg (by rw [eo]; decide)] at k
        have Rg := (leaves_iff O.g.pr).mp eo
        have hlt : g % c.p < c.p := Nat.mod_lt _ (by omega)
        refine iteF ⟨_, rfl, _, rfl, a, l, c, g % c.p, rfl, hh0.same s1, hlt, Rg.nz, fun H2 s2 => ?_⟩
        have s12 := s1.trans s2
        refine ⟨_, rfl, _, rfl, a, C, dx, _, _, rfl, s12 _ _ ha, T.cl, T.nP, hf_prime _ _ _, g % c.p, c.p, rfl, by omega, p2, fun H3 l' s3 hl2 hl3 => ?_⟩
        have s13 := s12.trans s3
        refine ⟨_, rfl, a, C, dx, _, rfl, s13 _ _ ha, T.cl, T.nW, (by show 3 < 1000; decide), ?_⟩
        rw [hf_powers']
        refine ⟨_, rfl, (by show 1 ≤ sizeLine; decide), ?_⟩
        exact finU (st := some { c with g := g % c.p }) (pw := Kp302.powers c.p (g % c.p)) ha s13 hl3 (.inr (s12.free hl2)) (fun H' z => ⟨⟨O.p, O.e, (Rt.mod O.g.pr).mpr Rg, hlt⟩, z⟩) k
/-! ### root, roots -/
theorem scRoot : FnScope ["held", "told"] ["held", "told"] (defScope sRoot) := ⟨rfl, rfl, rfl, by decide +kernel, rfl, by decide +kernel, by decide +kernel⟩
theorem ok_root {f C : Addr} {fd : FuncData} (F : Fun K "answer_root" "answer_root" sRoot f fd) (T : TC K mg C) (hLe : Has P w K mg base 3 "least_root" spLeast) : FnOk P w K mg base CX0 4 f fd ["held", "told"] (spA C 3) := by
  refine F.ok scRoot (fun vs H Q E h => ?_) (fun cdv A outer s H vs Q E hr h => ?_)
  · obtain ⟨a, b, l, st, args, rfl, _⟩ := h
    rfl
  · obtain ⟨a, b, l, st, args, rfl, hh, hb, hask, hst, k⟩ := h
    have := ask3 hask
    subst this
    cases st with
    | none => exact absurd (hst.resolve_left (by decide)) (by simp)
    | some c =>
      have hh0 := hh
      obtain ⟨O, dx, ha, hl⟩ := hh
      refine ⟨_, pss_one (ps_ret (pe_lst (pa_cons (pe_fn hLe hr rfl (pa_cons (pe_fld (pv 0) rfl) pa_nil)) pa_nil))), ?_⟩
      exact ⟨_, rfl, a, C, dx, _, _, rfl, ha, T.cl, T.nP, hf_prime _ _ _, c.p, rfl, O.p, fun H1 s1 => ⟨(by show 1 ≤ sizeLine; decide), fin_ hh0 s1 k⟩⟩
theorem scAllRoots : FnScope ["held", "told", "roots"] ["held", "told"] (defScope sAllRoots) := ⟨rfl, rfl, rfl, by decide +kernel, rfl, by decide +kernel, by decide +kernel⟩
theorem tell_map (l : List Nat) : ((Kp302.tellAll l).num :: (Kp302.tellAll l).nums).map V.int = [V.int (l.length : Int)] ++ natsV l := by
  show V.int _ :: (l.map _).map V.int = _
  rw [List.map_map]
  rfl
theorem ok_allRoots {f C : Addr} {fd : FuncData} (F : Fun K "answer_roots" "answer_roots" sAllRoots f fd) (T : TC K mg C) (hRo : Has P w K mg base 3 "all_roots" spRoots) : FnOk P w K mg base CX0 4 f fd ["held", "told"] (spA C 4) := by
  refine F.ok scAllRoots (fun vs H Q E h => ?_) (fun cdv A outer s H vs Q E hr h => ?_)
  · obtain ⟨a, b, l, st, args, rfl, _⟩ := h
    rfl
  · obtain ⟨a, b, l, st, args, rfl, hh, hb, hask, hst, k⟩ := h
    have := ask4 hask
    subst this
    cases st with
    | none => exact absurd (hst.resolve_left (by decide)) (by simp)
    | some c =>
      have hh0 := hh
      obtain ⟨O, dx, ha, hl⟩ := hh
      obtain ⟨e2, e8, ep, p3, p2⟩ := O.ele
      refine ⟨_, pss_cons (ps_set (i := 2) scAllRoots.nd rfl (Or.inl rfl) (pe_fn hRo hr rfl (pa_cons (pe_fld (pv 0) rfl) pa_nil)))
        (pss_one (ps_ret (pe_op op_cat (pe_lst (pa_cons (pe_callB call_len_seq (by rfl) T.len PySem.boot_len (pa_cons (pv 2) pa_nil)) pa_nil)) (pv 2)))), ?_⟩
      refine ⟨_, rfl, a, C, dx, _, _, rfl, ha, T.cl, T.nP, hf_prime _ _ _, c.p, rfl, O.g.pr, fun H1 q s1 hq hq1 => ?_⟩
      refine ⟨_, rfl, q, _, rfl, .inl (SqL.of hq1), (by show 1 ≤ sizeLine; decide), fun q2 hq2 => ?_⟩
      have hne : q ≠ q2 := ne_of_none hq1 hq2
      have s2 : Same H1 (upd H1 q2 (.lst [V.int ((natsV (Kp302.roots c.p)).length : Nat)])) := Same.upd (Same.refl H1) hq2
      have hlen : (Kp302.roots c.p).length < 200 := by
        rw [roots_eq (by omega)]
        have := List.length_filter_le (Kp302.leavesAll c.p) (oneTo (c.p - 1))
        rw [oneTo_length] at this
        omega
      refine ⟨_, rfl, q2, q, _, _, rfl, rfl, upd_same, (by rw [upd_ne hne]; exact hq1), ?_, ?_⟩
      · rw [List.length_map, sizeLine_eq]
        show 1 + _ ≤ _
        omega
      · refine fin_ hh0 (s1.trans s2) fun H' q' l' x1 x0 x2 x3 x4 => k H' q' l' x1 x0 ?_ x3 x4
        rw [x2]
        show _ = some (HO.lst (((Kp302.tellAll (Kp302.roots c.p)).num :: (Kp302.tellAll (Kp302.roots c.p)).nums).map V.int))
        rw [tell_map, List.length_map]
end
end Pw

set_option Elab.async false
set_option linter.all false
set_option maxRecDepth 100000
set_option maxHeartbeats 2000000
namespace Pw
open PySem PySem.Spec PyProof.Rows L2
section
variable {P : Program} {w : World} {K : PySem.W.Frag} {mg : Str → Option Value} {base : Heap}
theorem scIdx : FnScope ["held", "told", "remainder"] ["held", "told"] (defScope sIdx) := ⟨rfl, rfl, rfl, by decide +kernel, rfl, by decide +kernel, by decide +kernel⟩
theorem ok_idx {f C : Addr} {fd : FuncData} (F : Fun K "answer_index" "answer_index" sIdx f fd) (T : TC K mg C) (hI : Has P w K mg base 1 "index_of" (spIndex C)) : FnOk P w K mg base CX0 2 f fd ["held", "told"] (spA C 5) := by
  refine F.ok scIdx (fun vs H Q E h => ?_) (fun cdv A outer s H vs Q E hr h => ?_)
  · obtain ⟨a, b, l, st, args, rfl, _⟩ := h
    rfl
  · obtain ⟨a, b, l, st, args, rfl, hh, hb, hask, hst, k⟩ := h
    obtain ⟨x, rfl, hx⟩ := ask5 hask
    obtain ⟨t22, g22⟩ := T.badNumber
    cases st with
    | none => exact absurd (hst.resolve_left (by decide)) (by simp)
    | some c =>
      have hh0 := hh
      obtain ⟨O, dx, ha, hl⟩ := hh
      obtain ⟨e2, e8, ep, p3, p2⟩ := O.ele
      refine ⟨_, pss_cons (ps_set (i := 2) scIdx.nd rfl (Or.inl rfl) (pe_op op_modn (pe_ix ix_list (pv 1) pe_int (fun _ _ => rfl)) (pe_fld (pv 0) rfl)))
        (pss_cons (ps_if (pt_cmpR op_eq (pv 2) pe_int (nomark _)) (pss_one (ps_ret (pe_lst (pa_cons (pe_gint rfl g22) pa_nil)))) pss_nil)
        (pss_one (ps_ret (pe_lst (pa_cons (pe_fn hI hr rfl (pa_cons (pv 0) (pa_cons (pv 2) pa_nil))) pa_nil))))), ?_⟩
      refine ⟨_, rfl, b, _, _, _, rfl, rfl, SqL.of hb, rfl, _, rfl, a, C, dx, _, _, rfl, ha, T.cl, T.nP, hf_prime _ _ _, x, c.p, rfl, rfl, (by omega), ?_⟩
      have es : Kp302Neutral.step (some c) [[5, (x : Int)]] = (let y := if Kp302.no c x = true then Kp302.say (-22) else Kp302.say (Kp302.index c x : Nat); (some c, y.num :: y.nums)) := rfl
      rw [es] at k
      refine ⟨_, rfl, rfl, _, rfl, iteI (fun h1 => ?_) fun h1 => ?_⟩
      · rw [if_pos (show Kp302.no c x = true from beq_iff_eq.mpr (by omega))] at k
        exact ⟨(by show 1 ≤ sizeLine; decide), fin_ hh0 (Same.refl H) k⟩
      · rw [if_neg (show ¬ Kp302.no c x = true from fun z => h1 (by rw [show x % c.p = 0 from beq_iff_eq.mp z]; rfl)), ← idx_mod] at k
        have hlt : x % c.p < c.p := Nat.mod_lt _ (by omega)
        exact ⟨_, rfl, _, rfl, a, l, c, x % c.p, rfl, hh0, hlt, by omega, fun H1 s1 => ⟨(by show 1 ≤ sizeLine; decide), fin_ hh0 s1 k⟩⟩
theorem scClass : FnScope ["held", "told", "remainder"] ["held", "told"] (defScope sClass) := ⟨rfl, rfl, rfl, by decide +kernel, rfl, by decide +kernel, by decide +kernel⟩
theorem ok_class {f C : Addr} {fd : FuncData} (F : Fun K "answer_class" "answer_class" sClass f fd) (T : TC K mg C) (hI : Has P w K mg base 2 "class_of" (spClassOf C)) : FnOk P w K mg base CX0 3 f fd ["held", "told"] (spA C 6) := by
  refine F.ok scClass (fun vs H Q E h => ?_) (fun cdv A outer s H vs Q E hr h => ?_)
  · obtain ⟨a, b, l, st, args, rfl, _⟩ := h
    rfl
  · obtain ⟨a, b, l, st, args, rfl, hh, hb, hask, hst, k⟩ := h
    obtain ⟨x, rfl, hx⟩ := ask6 hask
    obtain ⟨t22, g22⟩ := T.badNumber
    cases st with
    | none => exact absurd (hst.resolve_left (by decide)) (by simp)
    | some c =>
      have hh0 := hh
      obtain ⟨O, dx, ha, hl⟩ := hh
      obtain ⟨e2, e8, ep, p3, p2⟩ := O.ele
      refine ⟨_, pss_cons (ps_set (i := 2) scClass.nd rfl (Or.inl rfl) (pe_op op_modn (pe_ix ix_list (pv 1) pe_int (fun _ _ => rfl)) (pe_fld (pv 0) rfl)))
        (pss_cons (ps_if (pt_cmpR op_eq (pv 2) pe_int (nomark _)) (pss_one (ps_ret (pe_lst (pa_cons (pe_gint rfl g22) pa_nil)))) pss_nil)
        (pss_one (ps_ret (pe_lst (pa_cons (pe_fn hI hr rfl (pa_cons (pv 0) (pa_cons (pv 2) pa_nil))) pa_nil))))), ?_⟩
      refine ⟨_, rfl, b, _, _, _, rfl, rfl, SqL.of hb, rfl, _, rfl, a, C, dx, _, _, rfl, ha, T.cl, T.nP, hf_prime _ _ _, x, c.p, rfl, rfl, (by omega), ?_⟩
      have es : Kp302Neutral.step (some c) [[6, (x : Int)]] = (let y := if Kp302.no c x = true then Kp302.say (-22) else Kp302.say ((Kp302.index c x % c.e : Nat) : Nat); (some c, y.num :: y.nums)) := rfl
      rw [es] at k
      refine ⟨_, rfl, rfl, _, rfl, iteI (fun h1 => ?_) fun h1 => ?_⟩
      · rw [if_pos (show Kp302.no c x = true from beq_iff_eq.mpr (by omega))] at k
        exact ⟨(by show 1 ≤ sizeLine; decide), fin_ hh0 (Same.refl H) k⟩
      · rw [if_neg (show ¬ Kp302.no c x = true from fun z => h1 (by rw [show x % c.p = 0 from beq_iff_eq.mp z]; rfl)), ← idx_mod] at k
        have hlt : x % c.p < c.p := Nat.mod_lt _ (by omega)
        exact ⟨_, rfl, _, rfl, a, l, c, x % c.p, rfl, hh0, hlt, by omega, fun H1 s1 => ⟨(by show 1 ≤ sizeLine; decide), fin_ hh0 s1 k⟩⟩
theorem scPower : FnScope ["held", "told"] ["held", "told"] (defScope sPower) := ⟨rfl, rfl, rfl, by decide +kernel, rfl, by decide +kernel, by decide +kernel⟩
theorem ok_power {f C : Addr} {fd : FuncData} (F : Fun K "answer_power" "answer_power" sPower f fd) (T : TC K mg C) : FnOk P w K mg base CX0 1 f fd ["held", "told"] (spA C 7) := by
  refine F.ok scPower (fun vs H Q E h => ?_) (fun cdv A outer s H vs Q E hr h => ?_)
  · obtain ⟨a, b, l, st, args, rfl, _⟩ := h
    rfl
  · obtain ⟨a, b, l, st, args, rfl, hh, hb, hask, hst, k⟩ := h
    obtain ⟨x, rfl, hx⟩ := ask7 hask
    cases st with
    | none => exact absurd (hst.resolve_left (by decide)) (by simp)
    | some c =>
      have hh0 := hh
      obtain ⟨O, dx, ha, hl⟩ := hh
      obtain ⟨e2, e8, ep, p3, p2⟩ := O.ele
      refine ⟨_, pss_one (ps_ret (pe_lst (pa_cons (pe_ix ix_list (pe_fld (pv 0) rfl) (pe_op op_modn (pe_ix ix_list (pv 1) pe_int (fun _ _ => rfl)) (pe_op op_sub (pe_fld (pv 0) rfl) pe_int)) (fun _ _ => rfl)) pa_nil))), ?_⟩
      have e1 : (c.p : Int) - 1 = ((c.p - 1 : Nat) : Int) := by omega
      have hp := pow_place O.g hx
      exact ⟨_, rfl, a, C, dx, _, _, rfl, ha, T.cl, T.nW, hf_powers _ _ _, _, rfl, b, _, _, _, rfl, rfl, SqL.of hb, rfl, _, rfl, a, C, dx, _, _, rfl, ha, T.cl, T.nP, hf_prime _ _ _, _, _, rfl, rfl, x, c.p - 1, rfl, congrArg V.int e1, by omega,
        l, _, _, _, rfl, rfl, SqL.of hl, at_of rfl (by rw [List.getElem?_map, hp]; rfl), (by show 1 ≤ sizeLine; decide), fin_ hh0 (Same.refl H) k⟩
end
end Pw

set_option Elab.async false
set_option linter.all false
set_option maxRecDepth 100000
set_option maxHeartbeats 2000000
namespace Pw
open PySem PySem.Spec PyProof.Rows L2
abbrev sBehind : Stmt := top 37
abbrev sRow : Stmt := top 38
abbrev sTable : Stmt := top 39
abbrev sDiffers : Stmt := top 40
abbrev sEven : Stmt := top 41
abbrev sEvenZero : Stmt := top 42
abbrev sSum : Stmt := top 43
abbrev sTimes : Stmt := top 44
abbrev sOpposite : Stmt := top 45
abbrev sTold : Stmt := top 46
section
variable {P : Program} {w : World} {K : PySem.W.Frag} {mg : Str → Option Value} {base : Heap}
theorem scMem : FnScope ["held", "told", "members"] ["held", "told"] (defScope sMem) := ⟨rfl, rfl, rfl, by decide +kernel, rfl, by decide +kernel, by decide +kernel⟩
theorem ok_mem {f C : Addr} {fd : FuncData} (F : Fun K "answer_members" "answer_members" sMem f fd) (T : TC K mg C) (hHas : Has P w K mg base 1 "has_class" (spHas C)) (hM : Has P w K mg base 1 "members_of" (spMembers C)) : FnOk P w K mg base CX0 2 f fd ["held", "told"] (spA C 8) := by
  refine F.ok scMem (fun vs H Q E h => ?_) (fun cdv A outer s H vs Q E hr h => ?_)
  · obtain ⟨a, b, l, st, args, rfl, _⟩ := h
    rfl
  · obtain ⟨a, b, l, st, args, rfl, hh, hb, hask, hst, k⟩ := h
    obtain ⟨i, rfl, hi⟩ := ask8 hask
    obtain ⟨t2, g2⟩ := T.noClass
    have hr1 : Room 1 _ := hr.mono (by decide)
    cases st with
    | none => exact absurd (hst.resolve_left (by decide)) (by simp)
    | some c =>
      have hh0 := hh
      obtain ⟨O, dx, ha, hl⟩ := hh
      obtain ⟨e2, e8, ep, p3, p2⟩ := O.ele
      refine ⟨_, pss_cons (ps_if (pt_not (pt_val (pe_fn hHas hr1 rfl (pa_cons (pv 0) (pa_cons (pe_ix ix_list (pv 1) pe_int (fun _ _ => rfl)) pa_nil))))) (pss_one (ps_ret (pe_lst (pa_cons (pe_gint rfl g2) pa_nil)))) pss_nil)
        (pss_cons (ps_set (i := 2) scMem.nd rfl (Or.inl rfl) (pe_fn hM hr1 rfl (pa_cons (pv 0) (pa_cons (pe_ix ix_list (pv 1) pe_int (fun _ _ => rfl)) pa_nil))))
        (pss_one (ps_ret (pe_op op_cat (pe_lst (pa_cons (pe_callB call_len_seq (by rfl) T.len PySem.boot_len (pa_cons (pv 2) pa_nil)) pa_nil)) (pv 2))))), ?_⟩
      have es : Kp302Neutral.step (some c) [[8, (i : Int)]] = (let y := if Kp302.is c i = false then Kp302.say (-2) else Kp302.tellAll (Kp302.members c i); (some c, y.num :: y.nums)) := rfl
      rw [es] at k
      refine ⟨_, rfl, _, rfl, b, _, _, _, rfl, rfl, SqL.of hb, rfl, a, l, c, i, rfl, hh0, fun H0 s0 => ⟨_, rfl, ?_⟩⟩
      have hb0 := s0 _ _ hb
      have ha0 := s0 _ _ ha
      have hhs := hh0.same s0
      cases ei : Kp302.is c i with
      | false =>
        rw [if_pos ei] at k
        exact iteT ⟨(by show 1 ≤ sizeLine; decide), fin_ hh0 s0 k⟩
      | true =>
        rw [if_neg (by rw [ei]; decide)] at k
        have hic : i < c.e := of_decide_eq_true ei
        refine iteF ⟨_, rfl, _, rfl, b, _, _, _, rfl, rfl, SqL.of hb0, rfl, a, l, c, i, rfl, hhs, hic, fun H1 q s1 hq hq1 => ?_⟩
        refine ⟨_, rfl, q, _, rfl, .inl (SqL.of hq1), (by show 1 ≤ sizeLine; decide), fun q2 hq2 => ?_⟩
        have hne : q ≠ q2 := ne_of_none hq1 hq2
        have s2 : Same H1 (upd H1 q2 (.lst [V.int ((natsV (Kp302.members c i)).length : Nat)])) := Same.upd (Same.refl H1) hq2
        have hlen := members_length c i
        refine ⟨_, rfl, q2, q, _, _, rfl, rfl, upd_same, (by rw [upd_ne hne]; exact hq1), ?_, ?_⟩
        · rw [List.length_map, sizeLine_eq]
          show 1 + _ ≤ _
          omega
        · refine fin_ hh0 ((s0.trans s1).trans s2) fun H' q' l' x1 x0 x2 x3 x4 => k H' q' l' x1 x0 ?_ x3 x4
          rw [x2]
          show _ = some (HO.lst (((Kp302.tellAll (Kp302.members c i)).num :: (Kp302.tellAll (Kp302.members c i)).nums).map V.int))
          rw [tell_map, List.length_map]
theorem scFirst : FnScope ["held", "told"] ["held", "told"] (defScope sFirst) := ⟨rfl, rfl, rfl, by decide +kernel, rfl, by decide +kernel, by decide +kernel⟩
theorem ok_first {f C : Addr} {fd : FuncData} (F : Fun K "answer_first" "answer_first" sFirst f fd) (T : TC K mg C) (hHas : Has P w K mg base 1 "has_class" (spHas C)) (hM : Has P w K mg base 1 "members_of" (spMembers C)) : FnOk P w K mg base CX0 2 f fd ["held", "told"] (spA C 9) := by
  refine F.ok scFirst (fun vs H Q E h => ?_) (fun cdv A outer s H vs Q E hr h => ?_)
  · obtain ⟨a, b, l, st, args, rfl, _⟩ := h
    rfl
  · obtain ⟨a, b, l, st, args, rfl, hh, hb, hask, hst, k⟩ := h
    obtain ⟨i, rfl, hi⟩ := ask9 hask
    obtain ⟨t2, g2⟩ := T.noClass
    have hr1 : Room 1 _ := hr.mono (by decide)
    cases st with
    | none => exact absurd (hst.resolve_left (by decide)) (by simp)
    | some c =>
      have hh0 := hh
      obtain ⟨O, dx, ha, hl⟩ := hh
      obtain ⟨e2, e8, ep, p3, p2⟩ := O.ele
      refine ⟨_, pss_cons (ps_if (pt_not (pt_val (pe_fn hHas hr1 rfl (pa_cons (pv 0) (pa_cons (pe_ix ix_list (pv 1) pe_int (fun _ _ => rfl)) pa_nil))))) (pss_one (ps_ret (pe_lst (pa_cons (pe_gint rfl g2) pa_nil)))) pss_nil)
        (pss_one (ps_ret (pe_lst (pa_cons (pe_ix ix_list (pe_fn hM hr1 rfl (pa_cons (pv 0) (pa_cons (pe_ix ix_list (pv 1) pe_int (fun _ _ => rfl)) pa_nil))) pe_int (fun _ _ => rfl)) pa_nil)))), ?_⟩
      have es : Kp302Neutral.step (some c) [[9, (i : Int)]] = (let y := if Kp302.is c i = false then Kp302.say (-2) else Kp302.say ((Kp302.members c i).headD 0 : Nat); (some c, y.num :: y.nums)) := rfl
      rw [es] at k
      refine ⟨_, rfl, _, rfl, b, _, _, _, rfl, rfl, SqL.of hb, rfl, a, l, c, i, rfl, hh0, fun H0 s0 => ⟨_, rfl, ?_⟩⟩
      have hb0 := s0 _ _ hb
      have ha0 := s0 _ _ ha
      have hhs := hh0.same s0
      cases ei : Kp302.is c i with
      | false =>
        rw [if_pos ei] at k
        exact iteT ⟨(by show 1 ≤ sizeLine; decide), fin_ hh0 s0 k⟩
      | true =>
        rw [if_neg (by rw [ei]; decide)] at k
        have hic : i < c.e := of_decide_eq_true ei
        obtain ⟨m, ms, em⟩ := List.exists_cons_of_ne_nil (members_ne O hic)
        rw [em] at k
        refine iteF ⟨_, rfl, _, rfl, b, _, _, _, rfl, rfl, SqL.of hb0, rfl, a, l, c, i, rfl, hhs, hic, fun H1 q s1 hq hq1 => ?_⟩
        rw [em] at hq1
        exact ⟨q, _, _, V.int m, rfl, rfl, SqL.of hq1, at_of (j := 0) rfl rfl, (by show 1 ≤ sizeLine; decide), fin_ hh0 (s0.trans s1) k⟩
end
end Pw

set_option Elab.async false
set_option linter.all false
set_option maxRecDepth 100000
set_option maxHeartbeats 2000000
namespace Pw
open PySem PySem.Spec PyProof.Rows L2
section
variable {P : Program} {w : World} {K : PySem.W.Frag} {mg : Str → Option Value} {base : Heap}
theorem scBehind : FnScope ["held", "told"] ["held", "told"] (defScope sBehind) := ⟨rfl, rfl, rfl, by decide +kernel, rfl, by decide +kernel, by decide +kernel⟩
theorem ok_behind {f C : Addr} {fd : FuncData} (F : Fun K "answer_behind" "answer_behind" sBehind f fd) (T : TC K mg C) (hHas : Has P w K mg base 1 "has_class" (spHas C)) (hM : Has P w K mg base 1 "members_of" (spMembers C)) (hB : Has P w K mg base 1 "count_behind" spBehindN) : FnOk P w K mg base CX0 2 f fd ["held", "told"] (spA C 10) := by
  refine F.ok scBehind (fun vs H Q E h => ?_) (fun cdv A outer s H vs Q E hr h => ?_)
  · obtain ⟨a, b, l, st, args, rfl, _⟩ := h
    rfl
  · obtain ⟨a, b, l, st, args, rfl, hh, hb, hask, hst, k⟩ := h
    obtain ⟨i, j, rfl, hi, hj⟩ := ask10 hask
    obtain ⟨t2, g2⟩ := T.noClass
    have hr1 : Room 1 _ := hr.mono (by decide)
    cases st with
    | none => exact absurd (hst.resolve_left (by decide)) (by simp)
    | some c =>
      have hh0 := hh
      obtain ⟨O, dx, ha, hl⟩ := hh
      obtain ⟨e2, e8, ep, p3, p2⟩ := O.ele
      refine ⟨_, pss_cons (ps_if (PW.pt (pw_or (pt_not (pt_val (pe_fn hHas hr1 rfl (pa_cons (pv 0) (pa_cons (pe_ix ix_list (pv 1) pe_int (fun _ _ => rfl)) pa_nil))))) (pw_or1 (pt_not (pt_val (pe_fn hHas hr1 rfl (pa_cons (pv 0) (pa_cons (pe_ix ix_list (pv 1) pe_int (fun _ _ => rfl)) pa_nil)))))))) (pss_one (ps_ret (pe_lst (pa_cons (pe_gint rfl g2) pa_nil)))) pss_nil)
        (pss_one (ps_ret (pe_lst (pa_cons (pe_fn hB hr1 rfl (pa_cons (pe_fn hM hr1 rfl (pa_cons (pv 0) (pa_cons (pe_ix ix_list (pv 1) pe_int (fun _ _ => rfl)) pa_nil))) (pa_cons (pe_fn hM hr1 rfl (pa_cons (pv 0) (pa_cons (pe_ix ix_list (pv 1) pe_int (fun _ _ => rfl)) pa_nil))) pa_nil))) pa_nil)))), ?_⟩
      have es : Kp302Neutral.step (some c) [[10, (i : Int), (j : Int)]] = (let y := if Kp302.is c i = false ∨ Kp302.is c j = false then Kp302.say (-2) else Kp302.say (Kp302.behind c i j : Nat); (some c, y.num :: y.nums)) := rfl
      rw [es] at k
      refine ⟨_, rfl, _, rfl, b, _, _, _, rfl, rfl, SqL.of hb, rfl, a, l, c, i, rfl, hh0, fun H0 s0 => ⟨_, rfl, ?_⟩⟩
      have hb0 := s0 _ _ hb
      have hhs := hh0.same s0
      cases ei : Kp302.is c i with
      | false =>
        rw [if_pos (.inl ei)] at k
        exact iteT (iteT ⟨(by show 1 ≤ sizeLine; decide), fin_ hh0 s0 k⟩)
      | true =>
        have hic : i < c.e := of_decide_eq_true ei
        refine iteF ⟨_, rfl, _, rfl, b, _, _, _, rfl, rfl, SqL.of hb0, rfl, a, l, c, j, rfl, hhs, fun H1 s1 => ⟨_, rfl, ?_⟩⟩
        have hb1 := s1 _ _ hb0
        have hh1 := hhs.same s1
        cases ej : Kp302.is c j with
        | false =>
          rw [if_pos (.inr ej)] at k
          exact iteT ⟨(by show 1 ≤ sizeLine; decide), fin_ hh0 (s0.trans s1) k⟩
        | true =>
          rw [if_neg (by rw [ei, ej]; decide)] at k
          have hjc : j < c.e := of_decide_eq_true ej
          refine iteF ⟨_, rfl, _, rfl, b, _, _, _, rfl, rfl, SqL.of hb1, rfl, a, l, c, i, rfl, hh1, hic, fun H2 q s2 hq hq1 => ?_⟩
          refine ⟨_, rfl, _, rfl, b, _, _, _, rfl, rfl, SqL.of (s2 _ _ hb1), rfl, a, l, c, j, rfl, hh1.same s2, hjc, fun H3 q2 s3 hq2 hq3 => ?_⟩
          have hlen := members_length c i
          refine ⟨q, q2, _, _, rfl, s3 _ _ hq1, hq3, by omega, fun H4 s4 => ⟨(by show 1 ≤ sizeLine; decide), ?_⟩⟩
          rw [behind_eq O]
          exact fin_ hh0 ((((s0.trans s1).trans s2).trans s3).trans s4) k
theorem scRow : FnScope ["held", "told"] ["held", "told"] (defScope sRow) := ⟨rfl, rfl, rfl, by decide +kernel, rfl, by decide +kernel, by decide +kernel⟩
theorem ok_row {f C : Addr} {fd : FuncData} (F : Fun K "answer_row" "answer_row" sRow f fd) (T : TC K mg C) (hHas : Has P w K mg base 1 "has_class" (spHas C)) (hR : Has P w K mg base 2 "row_of" (spRowOf C)) : FnOk P w K mg base CX0 3 f fd ["held", "told"] (spA C 11) := by
  refine F.ok scRow (fun vs H Q E h => ?_) (fun cdv A outer s H vs Q E hr h => ?_)
  · obtain ⟨a, b, l, st, args, rfl, _⟩ := h
    rfl
  · obtain ⟨a, b, l, st, args, rfl, hh, hb, hask, hst, k⟩ := h
    obtain ⟨i, rfl, hi⟩ := ask11 hask
    obtain ⟨t2, g2⟩ := T.noClass
    have hr1 : Room 1 _ := hr.mono (by decide)
    cases st with
    | none => exact absurd (hst.resolve_left (by decide)) (by simp)
    | some c =>
      have hh0 := hh
      obtain ⟨O, dx, ha, hl⟩ := hh
      obtain ⟨e2, e8, ep, p3, p2⟩ := O.ele
      refine ⟨_, pss_cons (ps_if (pt_not (pt_val (pe_fn hHas hr1 rfl (pa_cons (pv 0) (pa_cons (pe_ix ix_list (pv 1) pe_int (fun _ _ => rfl)) pa_nil))))) (pss_one (ps_ret (pe_lst (pa_cons (pe_gint rfl g2) pa_nil)))) pss_nil)
        (pss_one (ps_ret (pe_op op_cat (pe_lst (pa_cons (pe_fld (pv 0) rfl) pa_nil)) (pe_fn hR hr rfl (pa_cons (pv 0) (pa_cons (pe_ix ix_list (pv 1) pe_int (fun _ _ => rfl)) pa_nil)))))), ?_⟩
      have es : Kp302Neutral.step (some c) [[11, (i : Int)]] = (let y := if Kp302.is c i = false then Kp302.say (-2) else Kp302.tellAll (Kp302.row c i); (some c, y.num :: y.nums)) := rfl
      rw [es] at k
      refine ⟨_, rfl, _, rfl, b, _, _, _, rfl, rfl, SqL.of hb, rfl, a, l, c, i, rfl, hh0, fun H0 s0 => ⟨_, rfl, ?_⟩⟩
      have hb0 := s0 _ _ hb
      have ha0 := s0 _ _ ha
      have hhs := hh0.same s0
      cases ei : Kp302.is c i with
      | false =>
        rw [if_pos ei] at k
        exact iteT ⟨(by show 1 ≤ sizeLine; decide), fin_ hh0 s0 k⟩
      | true =>
        rw [if_neg (by rw [ei]; decide)] at k
        have hic : i < c.e := of_decide_eq_true ei
        refine iteF ⟨_, rfl, a, C, dx, _, _, rfl, ha0, T.cl, T.nC, hf_count _ _ _, (by show 1 ≤ sizeLine; decide), fun q2 hq2 => ?_⟩
        have s2 : Same H0 (upd H0 q2 (.lst [V.int (c.e : Int)])) := Same.upd (Same.refl H0) hq2
        refine ⟨_, rfl, _, rfl, b, _, _, _, rfl, rfl, SqL.of (s2 _ _ hb0), rfl, a, l, c, i, rfl, hhs.same s2, hic, fun H1 q s1 hq hq1 => ?_⟩
        have hlen := row_length c i
        refine ⟨q2, q, _, _, rfl, rfl, s1 _ _ upd_same, hq1, ?_, ?_⟩
        · rw [List.length_map, sizeLine_eq]
          show 1 + _ ≤ _
          omega
        · refine fin_ hh0 ((s0.trans s2).trans s1) fun H' q' l' x1 x0 x2 x3 x4 => k H' q' l' x1 x0 ?_ x3 x4
          rw [x2]
          show _ = some (HO.lst (((Kp302.tellAll (Kp302.row c i)).num :: (Kp302.tellAll (Kp302.row c i)).nums).map V.int))
          rw [tell_map, hlen]
theorem scTable : FnScope ["held", "told", "table", "number"] ["held", "told"] (defScope sTable) := ⟨rfl, rfl, rfl, by decide +kernel, rfl, by decide +kernel, by decide +kernel⟩
theorem ok_table {f C : Addr} {fd : FuncData} (F : Fun K "answer_table" "answer_table" sTable f fd) (R : TR mg) (T : TC K mg C) (hR : Has P w K mg base 2 "row_of" (spRowOf C)) : FnOk P w K mg base CX0 3 f fd ["held", "told"] (spA C 12) := by
  refine F.ok scTable (fun vs H Q E h => ?_) (fun cdv A outer s H vs Q E hr h => ?_)
  · obtain ⟨a, b, l, st, args, rfl, _⟩ := h
    rfl
  · obtain ⟨a, b, l, st, args, rfl, hh, hb, hask, hst, k⟩ := h
    have := ask12 hask
    subst this
    cases st with
    | none => exact absurd (hst.resolve_left (by decide)) (by simp)
    | some c =>
      have hh0 := hh
      obtain ⟨O, dx, ha, hl⟩ := hh
      obtain ⟨e2, e8, ep, p3, p2⟩ := O.ele
      refine ⟨_, pss_cons (ps_set (i := 2) scTable.nd rfl (Or.inl rfl) (pe_lst pa_nil))
        (pss_cons (ps_for PassesOwn.never rfl (pi_range1 rfl R.range (pa_cons (pe_fld (pv 0) rfl) pa_nil)) (pg_name (i := 3) scTable.nd rfl (Or.inl rfl))
          (pss_one (ps_expr (pe_bm PySem.F.plainAttrs_list PySem.F.slot_list_extend PySem.F.type_list_extend mt_extend (pv 2) (pa_cons (pe_fn hR hr rfl (pa_cons (pv 0) (pa_cons (pv 3) pa_nil))) pa_nil)))))
        (pss_one (ps_ret (pe_op op_cat (pe_lst (pa_cons (pe_callB call_len_seq (by rfl) T.len PySem.boot_len (pa_cons (pv 2) pa_nil)) pa_nil)) (pv 2))))), ?_⟩
      refine ⟨Nat.zero_le _, fun t ht => ?_⟩
      have s0 : Same H (upd H t (.lst [])) := Same.upd (Same.refl H) ht
      refine ⟨_, rfl, a, C, dx, _, _, rfl, s0 _ _ ha, T.cl, T.nC, hf_count _ _ _, _, rfl, by omega, by omega, ?_⟩
      refine for_range (lo := 0) (n := ((c.e : Nat) : Int).toNat) (fun i σ H' => (∃ v : Option V, σ = [some (.ref a), some (.ref b), some (.ref t), v]) ∧ H' t = some (.lst (natsV (((List.range c.e).take i).flatMap (Kp302.row c)))) ∧ Same H H') ⟨⟨none, rfl⟩, upd_same, s0⟩ ?_ ?_
      · rintro i σ H' hi ⟨⟨v, rfl⟩, hlt, hs⟩
        rw [Int.toNat_natCast] at hi
        rw [Int.zero_add]
        refine ⟨_, rfl, .inl ⟨rfl, _, SqL.of hlt⟩, _, rfl, _, rfl, a, l, c, i, rfl, hh0.same hs, hi, fun H1 q s1 hq hq1 => ?_⟩
        have e8' : ((List.range c.e).take i).length * c.e ≤ 64 := by
          rw [List.length_take, List.length_range]
          exact Nat.le_trans (Nat.mul_le_mul (show min i c.e ≤ 8 by omega) e8) (by decide)
        refine ⟨t, q, _, _, rfl, rfl, s1 _ _ hlt, hq1, ?_, ⟨_, rfl⟩, ?_, Same.upd (hs.trans s1) ht⟩
        · rw [List.length_map, List.length_map, rows_length, row_length, sizeLine_eq]
          omega
        · rw [upd_same, rows_snoc c hi]
          show _ = some (HO.lst (List.map _ (_ ++ _)))
          rw [List.map_append]
      · rintro σ H' ⟨⟨v, rfl⟩, hlt, hs⟩
        rw [Int.toNat_natCast, List.take_of_length_le (by rw [List.length_range]; exact Nat.le_refl _)] at hlt
        refine ⟨_, rfl, t, _, rfl, .inl (SqL.of hlt), (by show 1 ≤ sizeLine; decide), fun q2 hq2 => ?_⟩
        have hne : t ≠ q2 := ne_of_none hlt hq2
        have s2 : Same H' (upd H' q2 (.lst [V.int ((natsV ((List.range c.e).flatMap (Kp302.row c))).length : Nat)])) := Same.upd (Same.refl H') hq2
        have hlen := rows_length c (List.range c.e)
        rw [List.length_range] at hlen
        have h64 : c.e * c.e ≤ 64 := Nat.le_trans (Nat.mul_le_mul e8 e8) (by decide)
        refine ⟨_, rfl, q2, t, _, _, rfl, rfl, upd_same, (by rw [upd_ne hne]; exact hlt), ?_, ?_⟩
        · rw [List.length_map, hlen, sizeLine_eq]
          show 1 + _ ≤ _
          omega
        · refine fin_ hh0 (hs.trans s2) fun H' q' l' x1 x0 x2 x3 x4 => k H' q' l' x1 x0 ?_ x3 x4
          rw [x2]
          show _ = some (HO.lst (((Kp302.tellAll ((List.range c.e).flatMap (Kp302.row c))).num :: (Kp302.tellAll ((List.range c.e).flatMap (Kp302.row c))).nums).map V.int))
          rw [tell_map, List.length_map]
end
end Pw

set_option Elab.async false
set_option linter.all false
set_option maxRecDepth 100000
set_option maxHeartbeats 2000000
namespace Pw
open PySem PySem.Spec PyProof.Rows L2
section
variable {P : Program} {w : World} {K : PySem.W.Frag} {mg : Str → Option Value} {base : Heap}
theorem scDiffers : FnScope ["held", "told", "difference"] ["held", "told"] (defScope sDiffers) := ⟨rfl, rfl, rfl, by decide +kernel, rfl, by decide +kernel, by decide +kernel⟩
theorem ok_differs {f C : Addr} {fd : FuncData} (F : Fun K "answer_differs" "answer_differs" sDiffers f fd) (T : TC K mg C) (hHas : Has P w K mg base 1 "has_class" (spHas C)) (hM : Has P w K mg base 1 "members_of" (spMembers C)) (hD : Has P w K mg base 1 "difference_counts" spDiffs) : FnOk P w K mg base CX0 2 f fd ["held", "told"] (spA C 13) := by
  refine F.ok scDiffers (fun vs H Q E h => ?_) (fun cdv A outer s H vs Q E hr h => ?_)
  · obtain ⟨a, b, l, st, args, rfl, _⟩ := h
    rfl
  · obtain ⟨a, b, l, st, args, rfl, hh, hb, hask, hst, k⟩ := h
    obtain ⟨i, j, rfl, hi, hj⟩ := ask13 hask
    obtain ⟨t2, g2⟩ := T.noClass
    obtain ⟨t22, g22⟩ := T.badNumber
    have hr1 : Room 1 _ := hr.mono (by decide)
    cases st with
    | none => exact absurd (hst.resolve_left (by decide)) (by simp)
    | some c =>
      have hh0 := hh
      obtain ⟨O, dx, ha, hl⟩ := hh
      obtain ⟨e2, e8, ep, p3, p2⟩ := O.ele
      refine ⟨_, pss_cons (ps_if (pt_not (pt_val (pe_fn hHas hr1 rfl (pa_cons (pv 0) (pa_cons (pe_ix ix_list (pv 1) pe_int (fun _ _ => rfl)) pa_nil))))) (pss_one (ps_ret (pe_lst (pa_cons (pe_gint rfl g2) pa_nil)))) pss_nil)
        (pss_cons (ps_set (i := 2) scDiffers.nd rfl (Or.inl rfl) (pe_op op_modn (pe_ix ix_list (pv 1) pe_int (fun _ _ => rfl)) (pe_fld (pv 0) rfl)))
        (pss_cons (ps_if (pt_cmpR op_eq (pv 2) pe_int (nomark _)) (pss_one (ps_ret (pe_lst (pa_cons (pe_gint rfl g22) pa_nil)))) pss_nil)
        (pss_one (ps_ret (pe_lst (pa_cons (pe_ix ix_list (pe_fn hD hr1 rfl (pa_cons (pe_fn hM hr1 rfl (pa_cons (pv 0) (pa_cons (pe_ix ix_list (pv 1) pe_int (fun _ _ => rfl)) pa_nil))) (pa_cons (pe_fld (pv 0) rfl) pa_nil))) (pv 2) (fun _ _ => rfl)) pa_nil)))))), ?_⟩
      have es : Kp302Neutral.step (some c) [[13, (i : Int), (j : Int)]] = (let y := if Kp302.is c i = false then Kp302.say (-2) else if Kp302.no c j = true then Kp302.say (-22) else Kp302.say (Kp302.differs c.p (Kp302.members c i) j : Nat); (some c, y.num :: y.nums)) := rfl
      rw [es] at k
      refine ⟨_, rfl, _, rfl, b, _, _, _, rfl, rfl, SqL.of hb, rfl, a, l, c, i, rfl, hh0, fun H0 s0 => ⟨_, rfl, ?_⟩⟩
      have hb0 := s0 _ _ hb
      have ha0 := s0 _ _ ha
      have hhs := hh0.same s0
      cases ei : Kp302.is c i with
      | false =>
        rw [if_pos ei] at k
        exact iteT ⟨(by show 1 ≤ sizeLine; decide), fin_ hh0 s0 k⟩
      | true =>
        rw [if_neg (by rw [ei]; decide)] at k
        have hic : i < c.e := of_decide_eq_true ei
        refine iteF ⟨_, rfl, b, _, _, _, rfl, rfl, SqL.of hb0, rfl, _, rfl, a, C, dx, _, _, rfl, ha0, T.cl, T.nP, hf_prime _ _ _, j, c.p, rfl, rfl, (by omega), ?_⟩
        refine ⟨_, rfl, rfl, _, rfl, iteI (fun h1 => ?_) fun h1 => ?_⟩
        · rw [if_pos (show Kp302.no c j = true from beq_iff_eq.mpr (by omega))] at k
          exact ⟨(by show 1 ≤ sizeLine; decide), fin_ hh0 s0 k⟩
        rw [if_neg (show ¬ Kp302.no c j = true from fun z => h1 (by rw [show j % c.p = 0 from beq_iff_eq.mp z]; rfl))] at k
        have hlt : j % c.p < c.p := Nat.mod_lt _ (by omega)
        have hj0 : j % c.p ≠ 0 := by omega
        refine ⟨_, rfl, _, rfl, b, _, _, _, rfl, rfl, SqL.of hb0, rfl, a, l, c, i, rfl, hhs, hic, fun H1 q s1 hq hq1 => ?_⟩
        refine ⟨_, rfl, a, C, dx, _, _, rfl, s1 _ _ ha0, T.cl, T.nP, hf_prime _ _ _, q, c.p, _, rfl, hq1, by omega, p2, fun x hx => (members_lt O hx).2.1, fun H2 q2 s2 hq2 hl2 => ?_⟩
        refine ⟨_, rfl, q2, _, _, _, rfl, rfl, SqL.of hl2, atI_nat (j := j % c.p) (by rw [List.getElem?_map, hist_get _ hlt]; rfl), (by show 1 ≤ sizeLine; decide), ?_⟩
        rw [diffs_count (members_nodup c i) (fun x hx => (members_lt O hx).2.1) hlt, differs_mod]
        exact fin_ hh0 ((s0.trans s1).trans s2) k
theorem scEven : FnScope ["held", "told"] ["held", "told"] (defScope sEven) := ⟨rfl, rfl, rfl, by decide +kernel, rfl, by decide +kernel, by decide +kernel⟩
theorem ok_even {f C : Addr} {fd : FuncData} (F : Fun K "answer_even" "answer_even" sEven f fd) (T : TC K mg C) (hHas : Has P w K mg base 1 "has_class" (spHas C)) (hM : Has P w K mg base 1 "members_of" (spMembers C)) (hE : Has P w K mg base 2 "differ_evenly" spEvenly) : FnOk P w K mg base CX0 3 f fd ["held", "told"] (spA C 14) := by
  refine F.ok scEven (fun vs H Q E h => ?_) (fun cdv A outer s H vs Q E hr h => ?_)
  · obtain ⟨a, b, l, st, args, rfl, _⟩ := h
    rfl
  · obtain ⟨a, b, l, st, args, rfl, hh, hb, hask, hst, k⟩ := h
    obtain ⟨i, rfl, hi⟩ := ask14 hask
    obtain ⟨t2, g2⟩ := T.noClass
    have hr1 : Room 1 _ := hr.mono (by decide)
    cases st with
    | none => exact absurd (hst.resolve_left (by decide)) (by simp)
    | some c =>
      have hh0 := hh
      obtain ⟨O, dx, ha, hl⟩ := hh
      obtain ⟨e2, e8, ep, p3, p2⟩ := O.ele
      refine ⟨_, pss_cons (ps_if (pt_not (pt_val (pe_fn hHas hr1 rfl (pa_cons (pv 0) (pa_cons (pe_ix ix_list (pv 1) pe_int (fun _ _ => rfl)) pa_nil))))) (pss_one (ps_ret (pe_lst (pa_cons (pe_gint rfl g2) pa_nil)))) pss_nil)
        (pss_one (ps_ret (pe_lst (pa_cons (pe_ifExp (pt_val (pe_fn hE hr rfl (pa_cons (pe_fn hM hr1 rfl (pa_cons (pv 0) (pa_cons (pe_ix ix_list (pv 1) pe_int (fun _ _ => rfl)) pa_nil))) (pa_cons (pe_fld (pv 0) rfl) pa_nil)))) pe_int pe_int) pa_nil)))), ?_⟩
      have es : Kp302Neutral.step (some c) [[14, (i : Int)]] = (let y := if Kp302.is c i = false then Kp302.say (-2) else Kp302.say (if Kp302.even c.p (Kp302.members c i) = true then 1 else 0); (some c, y.num :: y.nums)) := rfl
      rw [es] at k
      refine ⟨_, rfl, _, rfl, b, _, _, _, rfl, rfl, SqL.of hb, rfl, a, l, c, i, rfl, hh0, fun H0 s0 => ⟨_, rfl, ?_⟩⟩
      have hb0 := s0 _ _ hb
      have ha0 := s0 _ _ ha
      have hhs := hh0.same s0
      cases ei : Kp302.is c i with
      | false =>
        rw [if_pos ei] at k
        exact iteT ⟨(by show 1 ≤ sizeLine; decide), fin_ hh0 s0 k⟩
      | true =>
        rw [if_neg (by rw [ei]; decide)] at k
        have hic : i < c.e := of_decide_eq_true ei
        refine iteF ⟨_, rfl, _, rfl, b, _, _, _, rfl, rfl, SqL.of hb0, rfl, a, l, c, i, rfl, hhs, hic, fun H1 q s1 hq hq1 => ?_⟩
        refine ⟨_, rfl, a, C, dx, _, _, rfl, s1 _ _ ha0, T.cl, T.nP, hf_prime _ _ _, q, c.p, _, rfl, hq1, by omega, p2, members_nodup c i, fun x hx => (members_lt O hx).2.1, fun H2 s2 => ⟨_, rfl, ?_⟩⟩
        cases ee : Kp302.even c.p (Kp302.members c i) with
        | true =>
          rw [if_pos ee] at k
          exact iteT ⟨(by show 1 ≤ sizeLine; decide), fin_ hh0 ((s0.trans s1).trans s2) k⟩
        | false =>
          rw [if_neg (by rw [ee]; decide)] at k
          exact iteF ⟨(by show 1 ≤ sizeLine; decide), fin_ hh0 ((s0.trans s1).trans s2) k⟩
theorem scEvenZero : FnScope ["held", "told"] ["held", "told"] (defScope sEvenZero) := ⟨rfl, rfl, rfl, by decide +kernel, rfl, by decide +kernel, by decide +kernel⟩
theorem ok_evenZero {f C : Addr} {fd : FuncData} (F : Fun K "answer_evenzero" "answer_evenzero" sEvenZero f fd) (T : TC K mg C) (hHas : Has P w K mg base 1 "has_class" (spHas C)) (hM : Has P w K mg base 1 "members_of" (spMembers C)) (hE : Has P w K mg base 2 "differ_evenly" spEvenly) : FnOk P w K mg base CX0 3 f fd ["held", "told"] (spA C 15) := by
  refine F.ok scEvenZero (fun vs H Q E h => ?_) (fun cdv A outer s H vs Q E hr h => ?_)
  · obtain ⟨a, b, l, st, args, rfl, _⟩ := h
    rfl
  · obtain ⟨a, b, l, st, args, rfl, hh, hb, hask, hst, k⟩ := h
    obtain ⟨i, rfl, hi⟩ := ask15 hask
    obtain ⟨t2, g2⟩ := T.noClass
    have hr1 : Room 1 _ := hr.mono (by decide)
    cases st with
    | none => exact absurd (hst.resolve_left (by decide)) (by simp)
    | some c =>
      have hh0 := hh
      obtain ⟨O, dx, ha, hl⟩ := hh
      obtain ⟨e2, e8, ep, p3, p2⟩ := O.ele
      refine ⟨_, pss_cons (ps_if (pt_not (pt_val (pe_fn hHas hr1 rfl (pa_cons (pv 0) (pa_cons (pe_ix ix_list (pv 1) pe_int (fun _ _ => rfl)) pa_nil))))) (pss_one (ps_ret (pe_lst (pa_cons (pe_gint rfl g2) pa_nil)))) pss_nil)
        (pss_one (ps_ret (pe_lst (pa_cons (pe_ifExp (pt_val (pe_fn hE hr rfl (pa_cons (pe_op op_cat (pe_lst (pa_cons pe_int pa_nil)) (pe_fn hM hr1 rfl (pa_cons (pv 0) (pa_cons (pe_ix ix_list (pv 1) pe_int (fun _ _ => rfl)) pa_nil)))) (pa_cons (pe_fld (pv 0) rfl) pa_nil)))) pe_int pe_int) pa_nil)))), ?_⟩
      have es : Kp302Neutral.step (some c) [[15, (i : Int)]] = (let y := if Kp302.is c i = false then Kp302.say (-2) else Kp302.say (if Kp302.even c.p (0 :: Kp302.members c i) = true then 1 else 0); (some c, y.num :: y.nums)) := rfl
      rw [es] at k
      refine ⟨_, rfl, _, rfl, b, _, _, _, rfl, rfl, SqL.of hb, rfl, a, l, c, i, rfl, hh0, fun H0 s0 => ⟨_, rfl, ?_⟩⟩
      have hb0 := s0 _ _ hb
      have ha0 := s0 _ _ ha
      have hhs := hh0.same s0
      cases ei : Kp302.is c i with
      | false =>
        rw [if_pos ei] at k
        exact iteT ⟨(by show 1 ≤ sizeLine; decide), fin_ hh0 s0 k⟩
      | true =>
        rw [if_neg (by rw [ei]; decide)] at k
        have hic : i < c.e := of_decide_eq_true ei
        refine iteF ⟨(by show 1 ≤ sizeLine; decide), fun z hz => ?_⟩
        have sz : Same H0 (upd H0 z (.lst [V.int 0])) := Same.upd (Same.refl H0) hz
        refine ⟨_, rfl, _, rfl, b, _, _, _, rfl, rfl, SqL.of (sz _ _ hb0), rfl, a, l, c, i, rfl, hhs.same sz, hic, fun H1 q s1 hq hq1 => ?_⟩
        have hlen := members_length c i
        refine ⟨z, q, _, _, rfl, rfl, s1 _ _ upd_same, hq1, ?_, fun q3 hq3 => ?_⟩
        · rw [List.length_map, sizeLine_eq]
          show 1 + _ ≤ _
          omega
        have s3 : Same H1 (upd H1 q3 (.lst (natsV (0 :: Kp302.members c i)))) := Same.upd (Same.refl H1) hq3
        have hall : ∀ x ∈ 0 :: Kp302.members c i, x < c.p := fun x hx => by
          rcases List.mem_cons.mp hx with e | e
          · omega
          · exact (members_lt O e).2.1
        refine ⟨_, rfl, a, C, dx, _, _, rfl, s3 _ _ (s1 _ _ (sz _ _ ha0)), T.cl, T.nP, hf_prime _ _ _, q3, c.p, 0 :: Kp302.members c i, rfl, upd_same, by omega, p2, zero_nodup, hall, fun H2 s2 => ⟨_, rfl, ?_⟩⟩
        cases ee : Kp302.even c.p (0 :: Kp302.members c i) with
        | true =>
          rw [if_pos ee] at k
          exact iteT ⟨(by show 1 ≤ sizeLine; decide), fin_ hh0 ((((s0.trans sz).trans s1).trans s3).trans s2) k⟩
        | false =>
          rw [if_neg (by rw [ee]; decide)] at k
          exact iteF ⟨(by show 1 ≤ sizeLine; decide), fin_ hh0 ((((s0.trans sz).trans s1).trans s3).trans s2) k⟩
end
end Pw

set_option Elab.async false
set_option linter.all false
set_option maxRecDepth 100000
set_option maxHeartbeats 2000000
namespace Pw
open PySem PySem.Spec PyProof.Rows L2
section
variable {P : Program} {w : World} {K : PySem.W.Frag} {mg : Str → Option Value} {base : Heap}
theorem scSum : FnScope ["held", "told"] ["held", "told"] (defScope sSum) := ⟨rfl, rfl, rfl, by decide +kernel, rfl, by decide +kernel, by decide +kernel⟩
theorem ok_sum {f C : Addr} {fd : FuncData} (F : Fun K "answer_sum" "answer_sum" sSum f fd) (T : TC K mg C) (hHas : Has P w K mg base 1 "has_class" (spHas C)) (TP_ : TP mg) (hM : Has P w K mg base 1 "members_of" (spMembers C)) : FnOk P w K mg base CX0 2 f fd ["held", "told"] (spA C 16) := by
  refine F.ok scSum (fun vs H Q E h => ?_) (fun cdv A outer s H vs Q E hr h => ?_)
  · obtain ⟨a, b, l, st, args, rfl, _⟩ := h
    rfl
  · obtain ⟨a, b, l, st, args, rfl, hh, hb, hask, hst, k⟩ := h
    obtain ⟨i, rfl, hi⟩ := ask16 hask
    obtain ⟨t2, g2⟩ := T.noClass
    have hr1 : Room 1 _ := hr.mono (by decide)
    cases st with
    | none => exact absurd (hst.resolve_left (by decide)) (by simp)
    | some c =>
      have hh0 := hh
      obtain ⟨O, dx, ha, hl⟩ := hh
      obtain ⟨e2, e8, ep, p3, p2⟩ := O.ele
      refine ⟨_, pss_cons (ps_if (pt_not (pt_val (pe_fn hHas hr1 rfl (pa_cons (pv 0) (pa_cons (pe_ix ix_list (pv 1) pe_int (fun _ _ => rfl)) pa_nil))))) (pss_one (ps_ret (pe_lst (pa_cons (pe_gint rfl g2) pa_nil)))) pss_nil)
        (pss_one (ps_ret (pe_lst (pa_cons (pe_callB (cr_sum rfl) rfl TP_.sum bt_sum (pa_cons (pe_fn hM hr1 rfl (pa_cons (pv 0) (pa_cons (pe_ix ix_list (pv 1) pe_int (fun _ _ => rfl)) pa_nil))) pa_nil)) pa_nil)))), ?_⟩
      have es : Kp302Neutral.step (some c) [[16, (i : Int)]] = (let y := if Kp302.is c i = false then Kp302.say (-2) else Kp302.say (Kp302.sum (Kp302.members c i) : Nat); (some c, y.num :: y.nums)) := rfl
      rw [es] at k
      refine ⟨_, rfl, _, rfl, b, _, _, _, rfl, rfl, SqL.of hb, rfl, a, l, c, i, rfl, hh0, fun H0 s0 => ⟨_, rfl, ?_⟩⟩
      have hb0 := s0 _ _ hb
      have ha0 := s0 _ _ ha
      have hhs := hh0.same s0
      cases ei : Kp302.is c i with
      | false =>
        rw [if_pos ei] at k
        exact iteT ⟨(by show 1 ≤ sizeLine; decide), fin_ hh0 s0 k⟩
      | true =>
        rw [if_neg (by rw [ei]; decide)] at k
        have hic : i < c.e := of_decide_eq_true ei
        refine iteF ⟨_, rfl, _, rfl, b, _, _, _, rfl, rfl, SqL.of hb0, rfl, a, l, c, i, rfl, hhs, hic, fun H1 q s1 hq hq1 => ?_⟩
        rw [natsV_ints] at hq1
        refine ⟨q, _, rfl, SqL.of hq1, (by show 1 ≤ sizeLine; decide), ?_⟩
        rw [sum_cast, ← sum_eq]
        exact fin_ hh0 (s0.trans s1) k
theorem scTimes : FnScope ["held", "told", "factor"] ["held", "told"] (defScope sTimes) := ⟨rfl, rfl, rfl, by decide +kernel, rfl, by decide +kernel, by decide +kernel⟩
theorem ok_times {f C : Addr} {fd : FuncData} (F : Fun K "answer_times" "answer_times" sTimes f fd) (T : TC K mg C) (hHas : Has P w K mg base 1 "has_class" (spHas C)) (hM : Has P w K mg base 1 "members_of" (spMembers C)) (hC : Has P w K mg base 2 "class_of" (spClassOf C)) : FnOk P w K mg base CX0 3 f fd ["held", "told"] (spA C 17) := by
  refine F.ok scTimes (fun vs H Q E h => ?_) (fun cdv A outer s H vs Q E hr h => ?_)
  · obtain ⟨a, b, l, st, args, rfl, _⟩ := h
    rfl
  · obtain ⟨a, b, l, st, args, rfl, hh, hb, hask, hst, k⟩ := h
    obtain ⟨i, j, rfl, hi, hj⟩ := ask17 hask
    obtain ⟨t2, g2⟩ := T.noClass
    obtain ⟨t22, g22⟩ := T.badNumber
    have hr1 : Room 1 _ := hr.mono (by decide)
    cases st with
    | none => exact absurd (hst.resolve_left (by decide)) (by simp)
    | some c =>
      have hh0 := hh
      obtain ⟨O, dx, ha, hl⟩ := hh
      obtain ⟨e2, e8, ep, p3, p2⟩ := O.ele
      refine ⟨_, pss_cons (ps_if (pt_not (pt_val (pe_fn hHas hr1 rfl (pa_cons (pv 0) (pa_cons (pe_ix ix_list (pv 1) pe_int (fun _ _ => rfl)) pa_nil))))) (pss_one (ps_ret (pe_lst (pa_cons (pe_gint rfl g2) pa_nil)))) pss_nil)
        (pss_cons (ps_set (i := 2) scTimes.nd rfl (Or.inl rfl) (pe_op op_modn (pe_ix ix_list (pv 1) pe_int (fun _ _ => rfl)) (pe_fld (pv 0) rfl)))
        (pss_cons (ps_if (pt_cmpR op_eq (pv 2) pe_int (nomark _)) (pss_one (ps_ret (pe_lst (pa_cons (pe_gint rfl g22) pa_nil)))) pss_nil)
        (pss_one (ps_ret (pe_lst (pa_cons (pe_fn hC hr rfl (pa_cons (pv 0) (pa_cons (pe_op op_modn (pe_op op_mul (pe_ix ix_list (pe_fn hM hr1 rfl (pa_cons (pv 0) (pa_cons (pe_ix ix_list (pv 1) pe_int (fun _ _ => rfl)) pa_nil))) pe_int (fun _ _ => rfl)) (pv 2)) (pe_fld (pv 0) rfl)) pa_nil))) pa_nil)))))), ?_⟩
      have es : Kp302Neutral.step (some c) [[17, (i : Int), (j : Int)]] = (let y := if Kp302.is c i = false then Kp302.say (-2) else if Kp302.no c j = true then Kp302.say (-22) else Kp302.say (Kp302.times c i j : Nat); (some c, y.num :: y.nums)) := rfl
      rw [es] at k
      refine ⟨_, rfl, _, rfl, b, _, _, _, rfl, rfl, SqL.of hb, rfl, a, l, c, i, rfl, hh0, fun H0 s0 => ⟨_, rfl, ?_⟩⟩
      have hb0 := s0 _ _ hb
      have ha0 := s0 _ _ ha
      have hhs := hh0.same s0
      cases ei : Kp302.is c i with
      | false =>
        rw [if_pos ei] at k
        exact iteT ⟨(by show 1 ≤ sizeLine; decide), fin_ hh0 s0 k⟩
      | true =>
        rw [if_neg (by rw [ei]; decide)] at k
        have hic : i < c.e := of_decide_eq_true ei
        refine iteF ⟨_, rfl, b, _, _, _, rfl, rfl, SqL.of hb0, rfl, _, rfl, a, C, dx, _, _, rfl, ha0, T.cl, T.nP, hf_prime _ _ _, j, c.p, rfl, rfl, (by omega), ?_⟩
        refine ⟨_, rfl, rfl, _, rfl, iteI (fun h1 => ?_) fun h1 => ?_⟩
        · rw [if_pos (show Kp302.no c j = true from beq_iff_eq.mpr (by omega))] at k
          exact ⟨(by show 1 ≤ sizeLine; decide), fin_ hh0 s0 k⟩
        rw [if_neg (show ¬ Kp302.no c j = true from fun z => h1 (by rw [show j % c.p = 0 from beq_iff_eq.mp z]; rfl))] at k
        have hlt : j % c.p < c.p := Nat.mod_lt _ (by omega)
        have hj0 : j % c.p ≠ 0 := by omega
        obtain ⟨m, ms, em⟩ := List.exists_cons_of_ne_nil (members_ne O hic)
        have hm : m ∈ Kp302.members c i := by rw [em]; exact List.mem_cons_self
        obtain ⟨m1, m2, m3, m4⟩ := members_lt O hm
        refine ⟨_, rfl, _, rfl, _, rfl, b, _, _, _, rfl, rfl, SqL.of hb0, rfl, a, l, c, i, rfl, hhs, hic, fun H1 q s1 hq hq1 => ?_⟩
        rw [em] at hq1
        have hpn : m * (j % c.p) % c.p ≠ 0 := O.g.pr.mul m4 (by rw [Nat.mod_mod]; exact hj0)
        have eq_ : Kp302.index c (m * (j % c.p) % c.p) % c.e = Kp302.times c i j := by
          rw [idx_mod, times_of O hm (by rw [Nat.mod_mod]; exact hj0)]
          unfold Kp302.times
          rw [idx_mod]
        rw [← eq_] at k
        refine ⟨q, _, _, V.int m, rfl, rfl, SqL.of hq1, at_of (j := 0) rfl rfl, _, rfl, _, _, rfl, rfl, .inl ⟨by omega, by omega⟩, _, rfl, a, C, dx, _, _, rfl, s1 _ _ ha0, T.cl, T.nP, hf_prime _ _ _, m * (j % c.p), c.p, congrArg V.int (Int.natCast_mul _ _).symm, rfl, by omega, ?_⟩
        exact ⟨a, l, c, m * (j % c.p) % c.p, rfl, hhs.same s1, Nat.mod_lt _ (by omega), hpn, fun H2 s2 => ⟨(by show 1 ≤ sizeLine; decide), fin_ hh0 ((s0.trans s1).trans s2) k⟩⟩
theorem scOpposite : FnScope ["held", "told"] ["held", "told"] (defScope sOpposite) := ⟨rfl, rfl, rfl, by decide +kernel, rfl, by decide +kernel, by decide +kernel⟩
theorem ok_opposite {f C : Addr} {fd : FuncData} (F : Fun K "answer_opposite" "answer_opposite" sOpposite f fd) (T : TC K mg C) (hHas : Has P w K mg base 1 "has_class" (spHas C)) (hM : Has P w K mg base 1 "members_of" (spMembers C)) (hC : Has P w K mg base 2 "class_of" (spClassOf C)) : FnOk P w K mg base CX0 3 f fd ["held", "told"] (spA C 18) := by
  refine F.ok scOpposite (fun vs H Q E h => ?_) (fun cdv A outer s H vs Q E hr h => ?_)
  · obtain ⟨a, b, l, st, args, rfl, _⟩ := h
    rfl
  · obtain ⟨a, b, l, st, args, rfl, hh, hb, hask, hst, k⟩ := h
    obtain ⟨i, rfl, hi⟩ := ask18 hask
    obtain ⟨t2, g2⟩ := T.noClass
    have hr1 : Room 1 _ := hr.mono (by decide)
    cases st with
    | none => exact absurd (hst.resolve_left (by decide)) (by simp)
    | some c =>
      have hh0 := hh
      obtain ⟨O, dx, ha, hl⟩ := hh
      obtain ⟨e2, e8, ep, p3, p2⟩ := O.ele
      refine ⟨_, pss_cons (ps_if (pt_not (pt_val (pe_fn hHas hr1 rfl (pa_cons (pv 0) (pa_cons (pe_ix ix_list (pv 1) pe_int (fun _ _ => rfl)) pa_nil))))) (pss_one (ps_ret (pe_lst (pa_cons (pe_gint rfl g2) pa_nil)))) pss_nil)
        (pss_one (ps_ret (pe_lst (pa_cons (pe_fn hC hr rfl (pa_cons (pv 0) (pa_cons (pe_op op_sub (pe_fld (pv 0) rfl) (pe_ix ix_list (pe_fn hM hr1 rfl (pa_cons (pv 0) (pa_cons (pe_ix ix_list (pv 1) pe_int (fun _ _ => rfl)) pa_nil))) pe_int (fun _ _ => rfl))) pa_nil))) pa_nil)))), ?_⟩
      have es : Kp302Neutral.step (some c) [[18, (i : Int)]] = (let y := if Kp302.is c i = false then Kp302.say (-2) else Kp302.say (Kp302.times c i (c.p - 1) : Nat); (some c, y.num :: y.nums)) := rfl
      rw [es] at k
      refine ⟨_, rfl, _, rfl, b, _, _, _, rfl, rfl, SqL.of hb, rfl, a, l, c, i, rfl, hh0, fun H0 s0 => ⟨_, rfl, ?_⟩⟩
      have hb0 := s0 _ _ hb
      have ha0 := s0 _ _ ha
      have hhs := hh0.same s0
      cases ei : Kp302.is c i with
      | false =>
        rw [if_pos ei] at k
        exact iteT ⟨(by show 1 ≤ sizeLine; decide), fin_ hh0 s0 k⟩
      | true =>
        rw [if_neg (by rw [ei]; decide)] at k
        have hic : i < c.e := of_decide_eq_true ei
        obtain ⟨m, ms, em⟩ := List.exists_cons_of_ne_nil (members_ne O hic)
        have hm : m ∈ Kp302.members c i := by rw [em]; exact List.mem_cons_self
        obtain ⟨m1, m2, m3, m4⟩ := members_lt O hm
        rw [← opposite_of O hm] at k
        refine iteF ⟨_, rfl, _, rfl, a, C, dx, _, _, rfl, ha0, T.cl, T.nP, hf_prime _ _ _, _, rfl, _, rfl, b, _, _, _, rfl, rfl, SqL.of hb0, rfl, a, l, c, i, rfl, hhs, hic, fun H1 q s1 hq hq1 => ?_⟩
        rw [em] at hq1
        refine ⟨q, _, _, V.int m, rfl, rfl, SqL.of hq1, at_of (j := 0) rfl rfl, _, _, rfl, rfl, ?_⟩
        exact ⟨a, l, c, c.p - m, congrArg (fun z => [V.ref a, V.int z]) (show (c.p : Int) - (m : Int) = ((c.p - m : Nat) : Int) by omega), hhs.same s1, by omega, by omega, fun H2 s2 => ⟨(by show 1 ≤ sizeLine; decide), fin_ hh0 ((s0.trans s1).trans s2) k⟩⟩
theorem scTold : FnScope ["held", "told"] ["held", "told"] (defScope sTold) := ⟨rfl, rfl, rfl, by decide +kernel, rfl, by decide +kernel, by decide +kernel⟩
theorem ok_told {f C : Addr} {fd : FuncData} (F : Fun K "answer_told" "answer_told" sTold f fd) (T : TC K mg C) : FnOk P w K mg base CX0 1 f fd ["held", "told"] (spA C 19) := by
  refine F.ok scTold (fun vs H Q E h => ?_) (fun cdv A outer s H vs Q E hr h => ?_)
  · obtain ⟨a, b, l, st, args, rfl, _⟩ := h
    rfl
  · obtain ⟨a, b, l, st, args, rfl, hh, hb, hask, hst, k⟩ := h
    have := ask19 hask
    subst this
    cases st with
    | none => exact absurd (hst.resolve_left (by decide)) (by simp)
    | some c =>
      have hh0 := hh
      obtain ⟨O, dx, ha, hl⟩ := hh
      obtain ⟨e2, e8, ep, p3, p2⟩ := O.ele
      refine ⟨_, pss_one (ps_ret (pe_lst (pa_cons (pe_fld (pv 0) rfl) (pa_cons (pe_fld (pv 0) rfl) (pa_cons (pe_ix ix_list (pe_fld (pv 0) rfl) pe_int (fun _ _ => rfl)) pa_nil))))), ?_⟩
      have hg : (Kp302.powers c.p c.g)[1]? = some c.g := by
        rw [powers_get (by omega) (by omega), Nat.pow_one, Nat.mod_eq_of_lt O.lt]
      exact ⟨_, rfl, a, C, dx, _, _, rfl, ha, T.cl, T.nP, hf_prime _ _ _, _, rfl, a, C, dx, _, _, rfl, ha, T.cl, T.nC, hf_count _ _ _, _, rfl, a, C, dx, _, _, rfl, ha, T.cl, T.nW, hf_powers _ _ _, l, _, _, V.int c.g, rfl, rfl, SqL.of hl, at_of (j := 1) rfl (by rw [List.getElem?_map, hg]; rfl), (by show 3 ≤ sizeLine; decide), fin_ hh0 (Same.refl H) k⟩
end
end Pw

set_option Elab.async false
set_option linter.all false
set_option maxRecDepth 100000
set_option maxHeartbeats 2000000
namespace Pw
open PySem PySem.Spec PyProof.Rows L2
abbrev sAns : Stmt := top 49
/-! ### the specification, call by call -/
/-- how many numbers stand behind a call's own -/
def counts : List Nat := [2, 1, 1, 0, 0, 1, 1, 1, 1, 1, 2, 1, 0, 2, 1, 1, 1, 2, 1, 0]
theorem whole_id (c : List (List Int)) : PyKp302.whole c = c := by
  unfold PyKp302.whole
  split <;> rfl
theorem shape_some {p : Int} {m k : Nat} (h : PyKp302.shape p = some (m, k)) : ∃ j : Nat, p = (j : Int) ∧ k = 0 ∧ counts[j]? = some m := by
  unfold PyKp302.shape at h
  by_cases e0 : p = 0
  · rw [if_pos e0] at h
    cases h
    exact ⟨0, e0, rfl, rfl⟩
  rw [if_neg e0] at h
  by_cases e1 : p = 1
  · rw [if_pos e1] at h
    cases h
    exact ⟨1, e1, rfl, rfl⟩
  rw [if_neg e1] at h
  by_cases e2 : p = 2
  · rw [if_pos e2] at h
    cases h
    exact ⟨2, e2, rfl, rfl⟩
  rw [if_neg e2] at h
  by_cases e3 : p = 3
  · rw [if_pos e3] at h
    cases h
    exact ⟨3, e3, rfl, rfl⟩
  rw [if_neg e3] at h
  by_cases e4 : p = 4
  · rw [if_pos e4] at h
    cases h
    exact ⟨4, e4, rfl, rfl⟩
  rw [if_neg e4] at h
  by_cases e5 : p = 5
  · rw [if_pos e5] at h
    cases h
    exact ⟨5, e5, rfl, rfl⟩
  rw [if_neg e5] at h
  by_cases e6 : p = 6
  · rw [if_pos e6] at h
    cases h
    exact ⟨6, e6, rfl, rfl⟩
  rw [if_neg e6] at h
  by_cases e7 : p = 7
  · rw [if_pos e7] at h
    cases h
    exact ⟨7, e7, rfl, rfl⟩
  rw [if_neg e7] at h
  by_cases e8 : p = 8
  · rw [if_pos e8] at h
    cases h
    exact ⟨8, e8, rfl, rfl⟩
  rw [if_neg e8] at h
  by_cases e9 : p = 9
  · rw [if_pos e9] at h
    cases h
    exact ⟨9, e9, rfl, rfl⟩
  rw [if_neg e9] at h
  by_cases e10 : p = 10
  · rw [if_pos e10] at h
    cases h
    exact ⟨10, e10, rfl, rfl⟩
  rw [if_neg e10] at h
  by_cases e11 : p = 11
  · rw [if_pos e11] at h
    cases h
    exact ⟨11, e11, rfl, rfl⟩
  rw [if_neg e11] at h
  by_cases e12 : p = 12
  · rw [if_pos e12] at h
    cases h
    exact ⟨12, e12, rfl, rfl⟩
  rw [if_neg e12] at h
  by_cases e13 : p = 13
  · rw [if_pos e13] at h
    cases h
    exact ⟨13, e13, rfl, rfl⟩
  rw [if_neg e13] at h
  by_cases e14 : p = 14
  · rw [if_pos e14] at h
    cases h
    exact ⟨14, e14, rfl, rfl⟩
  rw [if_neg e14] at h
  by_cases e15 : p = 15
  · rw [if_pos e15] at h
    cases h
    exact ⟨15, e15, rfl, rfl⟩
  rw [if_neg e15] at h
  by_cases e16 : p = 16
  · rw [if_pos e16] at h
    cases h
    exact ⟨16, e16, rfl, rfl⟩
  rw [if_neg e16] at h
  by_cases e17 : p = 17
  · rw [if_pos e17] at h
    cases h
    exact ⟨17, e17, rfl, rfl⟩
  rw [if_neg e17] at h
  by_cases e18 : p = 18
  · rw [if_pos e18] at h
    cases h
    exact ⟨18, e18, rfl, rfl⟩
  rw [if_neg e18] at h
  by_cases e19 : p = 19
  · rw [if_pos e19] at h
    cases h
    exact ⟨19, e19, rfl, rfl⟩
  rw [if_neg e19] at h
  cases h
/-- one call off a list -/
theorem calls_cons {f : Nat} {p : Int} {r : List Int} {cs : List (List (List Int))} (h : PyFlat.calls PyKp302.shape f (p :: r) = some cs) :
    ∃ (j m f' : Nat) (cs' : List (List (List Int))), p = (j : Int) ∧ counts[j]? = some m ∧ m ≤ r.length ∧ cs = [p :: r.take m] :: cs' ∧ PyFlat.calls PyKp302.shape f' (r.drop m) = some cs' := by
  cases f with
  | zero => cases h
  | succ f =>
    have h : (match PyFlat.call PyKp302.shape (p :: r) with
      | none => none
      | some (c, t) => match PyFlat.calls PyKp302.shape f t with
        | none => none
        | some cs => some (c :: cs)) = some cs := h
    cases e : PyKp302.shape p with
    | none =>
      have e1 : PyFlat.call PyKp302.shape (p :: r) = none := by
        show (match PyKp302.shape p with | none => none | some (n, k) => _) = _
        rw [e]
      rw [e1] at h
      cases h
    | some mk =>
      obtain ⟨m, k⟩ := mk
      obtain ⟨j, rfl, rfl, hc⟩ := shape_some e
      by_cases hm : r.length < m
      · have e1 : PyFlat.call PyKp302.shape ((j : Int) :: r) = none := by
          show (match PyKp302.shape (j : Int) with | none => none | some (n, k) => if r.length < n then none else _) = _
          rw [e]
          show (if r.length < m then none else _) = _
          rw [if_pos hm]
        rw [e1] at h
        cases h
      · have e1 : PyFlat.call PyKp302.shape ((j : Int) :: r) = some ([(j : Int) :: r.take m], r.drop m) := by
          show (match PyKp302.shape (j : Int) with | none => none | some (n, k) => if r.length < n then none else match PyFlat.rows k (r.drop n) with | none => none | some (xs, t) => some (((j : Int) :: r.take n) :: xs, t)) = _
          rw [e]
          show (if r.length < m then none else _) = _
          rw [if_neg hm]
          rfl
        rw [e1] at h
        have h : (match PyFlat.calls PyKp302.shape f (r.drop m) with
          | none => none
          | some cs => some ([(j : Int) :: r.take m] :: cs)) = some cs := h
        cases e2 : PyFlat.calls PyKp302.shape f (r.drop m) with
        | none =>
          rw [e2] at h
          cases h
        | some cs' =>
          rw [e2] at h
          exact ⟨j, m, f, cs', rfl, hc, by omega, (Option.some.inj h).symm, e2⟩
theorem calls_nil {f : Nat} {cs : List (List (List Int))} (h : PyFlat.calls PyKp302.shape f [] = some cs) : cs = [] := by
  cases f <;> exact (Option.some.inj h).symm
/-- what is due of the calls that are left -/
def due (st : Kp302.State) (cs : List (List (List Int))) : List Int := PyFlat.told (PyFlat.played Kp302Neutral.step st cs)
theorem due_cons (st : Kp302.State) (c : List (List Int)) (cs : List (List (List Int))) : due st (c :: cs) = (((Kp302Neutral.step st c).2.length : Int) :: (Kp302Neutral.step st c).2) ++ due (Kp302Neutral.step st c).1 cs := rfl
theorem asked_of {ns : List Int} (h : PyKp302.answers_asked ns = true) : ∃ cs, PyFlat.calls PyKp302.shape ns.length ns = some cs ∧ (∀ c ∈ cs, Kp302Neutral.asked1 c = true) ∧ PyKp302.answers ns = due none cs ∧ (PyKp302.answers ns).length ≤ 10000000 := by
  unfold PyKp302.answers_asked at h
  cases e : PyFlat.calls PyKp302.shape ns.length ns with
  | none =>
    rw [e] at h
    cases h
  | some cs =>
    rw [e] at h
    have hid : cs.map PyKp302.whole = cs := by
      conv => rhs; rw [← List.map_id cs]
      exact List.map_congr_left fun c _ => whole_id c
    simp only [Bool.and_eq_true, hid] at h
    obtain ⟨⟨⟨⟨_, _⟩, _⟩, h1⟩, h2⟩ := h
    refine ⟨cs, rfl, ?_, ?_, of_decide_eq_true h2⟩
    · unfold Kp302Neutral.asked at h1
      simp only [Bool.and_eq_true] at h1
      exact List.all_eq_true.mp h1.2.2
    · unfold PyKp302.answers PyKp302.calls
      rw [e]
      show PyFlat.told (PyFlat.played _ _ (cs.map PyKp302.whole)) = _
      rw [hid]
      rfl
end Pw

set_option Elab.async false
set_option linter.all false
set_option maxRecDepth 100000
set_option maxHeartbeats 2000000
namespace Pw
open PySem PySem.Spec PyProof.Rows L2
/-- one call, whatever its number -/
def spCall (C : Addr) : Sp := fun vs H Q _ => ∃ (a b l : Addr) (st : Kp302.State) (j : Nat) (args : List Int), vs = [.ref a, .int j, .ref b] ∧ HeldIs C H a l st ∧ H b = some (.lst (args.map V.int)) ∧
  Kp302Neutral.asked1 [(j : Int) :: args] = true ∧ j < 20 ∧
  ∀ H' q l', HeldIs C H' a l' (Kp302Neutral.step st [(j : Int) :: args]).1 → (l' = l ∨ H l' = none) → H' q = some (.lst ((Kp302Neutral.step st [(j : Int) :: args]).2.map V.int)) → Only a H H' → H q = none → Q (.ref q) H'
def spAns (K : PySem.W.Frag) : Sp := fun vs H Q _ => ∃ (a : Addr) (ns : List Int), vs = [.ref a] ∧ SqL K H a (ns.map V.int) ∧ ns.length ≤ 200 ∧ PyKp302.answers_asked ns = true ∧ ∀ (H' : Hp) (p : Addr), H' p = some (.lst ((PyKp302.answers ns).map V.int)) → Q (.ref p) H'
structure TM (K : PySem.W.Frag) (mg : Str → Option Value) (C : Addr) : Prop where
  cls : mg "PowerClasses" = some (.ref C)
  counts : ∃ aT, mg "ARGUMENT_COUNTS" = some (.ref aT) ∧ ∀ H, SqT K H aT (natsV counts)
theorem cut_args {ns : List Int} {n m : Nat} (h : n + 1 + m ≤ ns.length) : cutV (ns.map V.int) (some ((n : Int) + 1)) (some ((n : Int) + 1 + (m : Nat))) = (((ns.drop (n + 1)).take m).map V.int) := by
  unfold cutV
  have e1 : HT.sIx (ns.map V.int).length 0 (some ((n : Int) + 1)) = n + 1 := by
    rw [List.length_map]
    show (if (n : Int) + 1 < 0 then ((n : Int) + 1 + (ns.length : Int)).toNat else min ((n : Int) + 1).toNat ns.length) = _
    rw [if_neg (by omega)]
    omega
  have e2 : HT.sIx (ns.map V.int).length (ns.map V.int).length (some ((n : Int) + 1 + (m : Nat))) = n + 1 + m := by
    rw [List.length_map]
    show (if (n : Int) + 1 + (m : Nat) < 0 then ((n : Int) + 1 + (m : Nat) + (ns.length : Int)).toNat else min ((n : Int) + 1 + (m : Nat)).toNat ns.length) = _
    rw [if_neg (by omega)]
    omega
  rw [e1, e2, ← List.map_drop, ← List.map_take]
  congr 2
  omega
theorem pe_gref {X : Cx} {x : Str} {a : Addr} {pos : Pos} (hg : Gl X x) (hm : X.mg x = some (.ref a)) (hd : (x == ("__debug__" : Str)) = false := by decide) : PE X (.Name x pos) (tC (.ref a)) := pe_glob hg hm rfl hd
section
variable {P : Program} {w : World} {K : PySem.W.Frag} {mg : Str → Option Value} {base : Heap}
theorem scAns : FnScope ["calls", "held", "given", "place", "call", "end", "answer"] ["calls"] (defScope sAns) := ⟨rfl, rfl, rfl, by decide +kernel, rfl, by decide +kernel, by decide +kernel⟩
theorem ok_ans {f C fI : Addr} {fd fdI : FuncData} {kc : Nat} (F : Fun K "answers" "answers" sAns f fd) (T : TC K mg C) (M : TM K mg C) (Mm : Mk K C fI) (GI : FnOk P w K mg base CX0 1 fI fdI ["self"] (spInit C)) (bI : Binds K fdI ["self"] [])
    (hCall : Has P w K mg base (kc + 2) "answer_call" (spCall C)) : FnOk P w K mg base CX0 (kc + 3) f fd ["calls"] (spAns K) := by
  refine F.ok scAns (fun vs H Q E h => ?_) (fun cdv A outer s H vs Q E hr h => ?_)
  · obtain ⟨a, ns, rfl, _⟩ := h
    rfl
  · obtain ⟨a, ns, rfl, hS, hlen, hask, k⟩ := h
    obtain ⟨aT, mT, hT⟩ := M.counts
    have hr2 : Room 2 _ := hr.mono (by omega)
    obtain ⟨cs0, hc0, ha0, hd0, hs0⟩ := asked_of hask
    refine ⟨_, pss_cons (ps_set (i := 1) scAns.nd rfl (Or.inl rfl) (pe_make0 Mm GI hr2 rfl M.cls bI .nil pass0))
      (pss_cons (ps_set (i := 2) scAns.nd rfl (Or.inl rfl) (pe_lst pa_nil))
      (pss_cons (ps_set (i := 3) scAns.nd rfl (Or.inl rfl) pe_int)
      (pss_cons (ps_while PassesOwn.never (pt_cmpR op_lt (pv 3) (pe_callB call_len_seq (by rfl) T.len PySem.boot_len (pa_cons (pv 0) pa_nil)) (nomark _))
        (pss_cons (ps_set (i := 4) scAns.nd rfl (Or.inl rfl) (pe_ix ix_list (pv 0) (pv 3) (fun _ _ => rfl)))
        (pss_cons (ps_set (i := 5) scAns.nd rfl (Or.inl rfl) (pe_op op_add (pe_op op_add (pv 3) pe_int) (pe_ix ix_tup (pe_gref rfl mT) (pv 4) (fun _ _ => rfl))))
        (pss_cons (ps_set (i := 6) scAns.nd rfl (Or.inl rfl) (pe_fn hCall hr rfl (pa_cons (pv 1) (pa_cons (pv 4) (pa_cons (pe_slice sl_list (pv 0) (po_some (pe_op op_add (pv 3) pe_int)) (po_some (pv 5))) pa_nil)))))
        (pss_cons (ps_expr (pe_bm PySem.F.plainAttrs_list PySem.F.slot_list_append PySem.F.type_list_append mt_append (pv 2) (pa_cons (pe_callB call_len_seq (by rfl) T.len PySem.boot_len (pa_cons (pv 6) pa_nil)) pa_nil)))
        (pss_cons (ps_expr (pe_bm PySem.F.plainAttrs_list PySem.F.slot_list_extend PySem.F.type_list_extend mt_extend (pv 2) (pa_cons (pv 6) pa_nil)))
        (pss_one (ps_set (i := 3) scAns.nd rfl (Or.inl rfl) (pv 5)))))))))
      (pss_one (ps_ret (pv 2)))))), ?_⟩
    intro x dx nx ndx nex
    refine ⟨x, dx, rfl, upd_same, fun H1 l0 hh hl0 k1 => ⟨rfl, ?_⟩⟩
    refine ⟨Nat.zero_le _, fun gv hgv => ?_⟩
    have s1 : Same H H1 := Same.made nx ndx k1
    have s2 : Same H1 (upd H1 gv (.lst [])) := Same.upd (Same.refl H1) hgv
    have nx0 : H x = none := nx
    have hgv0 : H gv = none := s1.free hgv
    obtain ⟨pw0, hpw0⟩ := hh.list
    have hl0g : l0 ≠ gv := ne_of_none hpw0 hgv
    refine ⟨fun m σ H' => ∃ (n : Nat) (v4 v5 v6 : Option V) (out : List Int) (st : Kp302.State) (f : Nat) (cs : List (List (List Int))) (l : Addr), σ = [some (.ref a), some (.ref x), some (.ref gv), some (.int n), v4, v5, v6] ∧ n ≤ ns.length ∧ m = ns.length - n ∧
      Same H H' ∧ HeldIs C H' x l st ∧ l ≠ gv ∧ H' gv = some (.lst (out.map V.int)) ∧ PyFlat.calls PyKp302.shape f (ns.drop n) = some cs ∧ (∀ c ∈ cs, Kp302Neutral.asked1 c = true) ∧ PyKp302.answers ns = out ++ due st cs,
      ⟨_, 0, none, none, none, [], none, ns.length, cs0, l0, rfl, Nat.zero_le _, rfl, s1.trans s2, HeldIs.same hh s2, hl0g, upd_same, hc0, ha0, hd0⟩, ?_⟩
    rintro m σ H2 ⟨n, v4, v5, v6, out, st, fu, cs, l, rfl, hn, rfl, sH2, hh2, hlg, hg2, hc, hca, hd⟩
    have hS2 : SqL K H2 a (ns.map V.int) := sH2.seq hS
    refine ⟨_, rfl, _, rfl, a, _, rfl, .inl hS2, _, _, rfl, rfl, _, rfl, iteD (fun h1 => ?_) fun h1 => ?_⟩
    · rw [List.length_map] at h1
      have h1 : n < ns.length := by omega
      obtain ⟨p, hp⟩ : ∃ p, ns[n]? = some p := ⟨_, List.getElem?_eq_getElem h1⟩
      have ed : ns.drop n = p :: ns.drop (n + 1) := by
        rw [List.drop_eq_getElem_cons h1]
        rw [List.getElem?_eq_getElem h1] at hp
        rw [Option.some.inj hp]
      rw [ed] at hc
      obtain ⟨j, c, f', cs', rfl, hcj, hcr, rfl, hc'⟩ := calls_cons hc
      rw [List.length_drop] at hcr
      have hjl : j < 20 := (List.getElem?_eq_some_iff.mp hcj).1
      have hj1 := hca _ List.mem_cons_self
      rw [List.drop_drop] at hc'
      have hd2 := hd
      rw [due_cons] at hd2
      have hlen2 := congrArg List.length hd2
      rw [List.length_append, List.length_append, List.length_cons] at hlen2
      generalize hstep : Kp302Neutral.step st [(j : Int) :: (ns.drop (n + 1)).take c] = sp at *
      obtain ⟨st', an⟩ := sp
      refine ⟨fun σ' H' => ∃ (v4 v5 v6 : Option V) (l' : Addr), σ' = [some (.ref a), some (.ref x), some (.ref gv), some (.int ((n + 1 + c : Nat) : Int)), v4, v5, v6] ∧ Same H H' ∧ HeldIs C H' x l' st' ∧ l' ≠ gv ∧
        H' gv = some (.lst ((out ++ ((an.length : Int) :: an)).map V.int)), ?_, ?_⟩
      · rintro σ' H' ⟨w4, w5, w6, l', rfl, y1, y2, y2', y3⟩
        exact ⟨ns.length - (n + 1 + c), by omega, n + 1 + c, w4, w5, w6, _, _, f', cs', l', rfl, by omega, rfl, y1, y2, y2', y3, hc', fun c' hc' => hca c' (List.mem_cons_of_mem _ hc'), by rw [hd2, List.append_assoc]⟩
      · refine ⟨_, rfl, _, rfl, a, _, _, _, rfl, rfl, hS2, atI_nat (j := n) (by rw [List.getElem?_map, hp]; rfl), ?_⟩
        refine ⟨_, rfl, _, _, rfl, rfl, _, rfl, aT, _, _, _, rfl, rfl, hT H2, atI_nat (j := j) (by rw [List.getElem?_map, hcj]; rfl), _, _, rfl, rfl, ?_⟩
        refine ⟨_, rfl, _, rfl, _, rfl, _, rfl, _, _, rfl, rfl, _, rfl, _, rfl, _, rfl, a, _, rfl, hS2, fun t ht => ?_⟩
        rw [cut_args (by omega)]
        have s3 : Same H2 (upd H2 t (.lst (((ns.drop (n + 1)).take c).map V.int))) := Same.upd (Same.refl H2) ht
        refine ⟨x, t, l, st, j, _, rfl, HeldIs.same hh2 s3, upd_same, hj1, hjl, fun H4 q l' hh4 hl4 hq4 ho4 hqn => ?_⟩
        rw [hstep] at hh4 hq4
        obtain ⟨dx2, p2, e2, hx2⟩ := (HeldIs.same hh2 s3).at_
        have hgx : gv ≠ x := ne_of (s3 _ _ hg2) hx2 (by intro z; cases z)
        have hg4 := ho4 _ _ (s3 _ _ hg2) hgx
        have hqg : q ≠ gv := fun z => by
          rw [z, s3 _ _ hg2] at hqn
          cases hqn
        have hlg4 : l' ≠ gv := by
          rcases hl4 with e | e
          · rw [e]; exact hlg
          · intro z
            rw [z, s3 _ _ hg2] at e
            cases e
        have sH4 : Same H H4 := fun b' o hb' => ho4 _ _ (s3 _ _ (sH2 _ _ hb')) fun z => (by rw [z, nx0] at hb'; cases hb')
        have hlx : (an.map V.int).length = an.length := List.length_map ..
        refine ⟨_, rfl, .inl ⟨rfl, _, SqL.of hg4⟩, _, rfl, q, _, rfl, .inl (SqL.of hq4), gv, _, _, rfl, rfl, hg4, ?_, ?_⟩
        · rw [List.length_map, sizeLine_eq]
          omega
        · refine ⟨_, rfl, .inl ⟨rfl, _, SqL.of upd_same⟩, _, rfl, gv, q, _, _, rfl, rfl, upd_same, (by rw [upd_ne hqg]; exact hq4), ?_, ?_⟩
          · rw [List.length_append, List.length_map, List.length_map, sizeLine_eq]
            show out.length + 1 + _ ≤ _
            have : (Kp302Neutral.step st [(j : Int) :: (ns.drop (n + 1)).take c]).2.length = an.length := by rw [hstep]
            omega
          · have hh5 : ∀ o o' : HO, HeldIs C (upd (upd H4 gv o) gv o') x l' st' := fun o o' => by
              have keep : ∀ b, b ≠ gv → (upd (upd H4 gv o) gv o') b = H4 b := fun b hb => by rw [upd_ne hb, upd_ne hb]
              have hxg : x ≠ gv := Ne.symm hgx
              cases st' with
              | none =>
                obtain ⟨d, z1, z2⟩ := hh4
                exact ⟨d, (keep x hxg).trans z1, (keep l' hlg4).trans z2⟩
              | some c' =>
                obtain ⟨O, d, z1, z2⟩ := hh4
                exact ⟨O, d, (keep x hxg).trans z1, (keep l' hlg4).trans z2⟩
            refine ⟨_, rfl, some (.int j), some (.int ((n : Int) + 1 + (c : Nat))), some (.ref q), l', ?_, ?_, hh5 _ _, hlg4, ?_⟩
            · have e : ((n + 1 + c : Nat) : Int) = (n : Int) + 1 + (c : Nat) := by omega
              rw [e]
              rfl
            · exact Same.upd (Same.upd sH4 hgv0) hgv0
            · rw [upd_same, hlx]
              simp [List.map_append]
    · rw [List.length_map] at h1
      have en : n = ns.length := by omega
      rw [en, List.drop_length] at hc
      have := calls_nil hc
      subst this
      refine ⟨_, rfl, k H2 gv ?_⟩
      rw [hg2, hd]
      show _ = some (HO.lst ((out ++ []).map V.int))
      rw [List.append_nil]
end
end Pw

set_option Elab.async false
set_option linter.all false
set_option maxRecDepth 100000
set_option maxHeartbeats 2000000
namespace Pw
open PySem PySem.Spec PyProof.Rows L2
abbrev sCall : Stmt := top 48
/-- before a begin all else is -11 -/
theorem step_none {j : Nat} {args : List Int} (hj : j < 20) (h0 : j ≠ 0) (h : Kp302Neutral.asked1 [(j : Int) :: args] = true) : Kp302Neutral.step none [(j : Int) :: args] = (none, [-11]) := by
  match j, hj, h0, h with
  | 0, _, h0, _ => exact absurd rfl h0
  | 1, _, _, h => obtain ⟨n, rfl, _⟩ := ask1 h; rfl
  | 2, _, _, h => obtain ⟨n, rfl, _⟩ := ask2 h; rfl
  | 3, _, _, h => have e := ask3 h; subst e; rfl
  | 4, _, _, h => have e := ask4 h; subst e; rfl
  | 5, _, _, h => obtain ⟨n, rfl, _⟩ := ask5 h; rfl
  | 6, _, _, h => obtain ⟨n, rfl, _⟩ := ask6 h; rfl
  | 7, _, _, h => obtain ⟨n, rfl, _⟩ := ask7 h; rfl
  | 8, _, _, h => obtain ⟨n, rfl, _⟩ := ask8 h; rfl
  | 9, _, _, h => obtain ⟨n, rfl, _⟩ := ask9 h; rfl
  | 10, _, _, h => obtain ⟨n, m, rfl, _⟩ := ask10 h; rfl
  | 11, _, _, h => obtain ⟨n, rfl, _⟩ := ask11 h; rfl
  | 12, _, _, h => have e := ask12 h; subst e; rfl
  | 13, _, _, h => obtain ⟨n, m, rfl, _⟩ := ask13 h; rfl
  | 14, _, _, h => obtain ⟨n, rfl, _⟩ := ask14 h; rfl
  | 15, _, _, h => obtain ⟨n, rfl, _⟩ := ask15 h; rfl
  | 16, _, _, h => obtain ⟨n, rfl, _⟩ := ask16 h; rfl
  | 17, _, _, h => obtain ⟨n, m, rfl, _⟩ := ask17 h; rfl
  | 18, _, _, h => obtain ⟨n, rfl, _⟩ := ask18 h; rfl
  | 19, _, _, h => have e := ask19 h; subst e; rfl
  | j + 20, hj, _, _ => omega
structure TD (P : Program) (w : World) (K : PySem.W.Frag) (mg : Str → Option Value) (base : Heap) (C : Addr) (n : Nat) : Prop where
  ex : ∃ (aA : Addr) (fs : List Addr), mg "ANSWERERS" = some (.ref aA) ∧ (∀ H, SqT K H aA (fs.map V.ref)) ∧ fs.length = n ∧ ∀ (j : Nat) (f : Addr), fs[j]? = some f → Callee P w K mg base 5 f (spA C (j : Int))
section
variable {P : Program} {w : World} {K : PySem.W.Frag} {mg : Str → Option Value} {base : Heap}
theorem scCall : FnScope ["held", "call", "told", "answerer"] ["held", "call", "told"] (defScope sCall) := ⟨rfl, rfl, rfl, by decide +kernel, rfl, by decide +kernel, by decide +kernel⟩
theorem ok_call {f C : Addr} {fd : FuncData} (F : Fun K "answer_call" "answer_call" sCall f fd) (T : TC K mg C) (D : TD P w K mg base C 20) : FnOk P w K mg base CX0 6 f fd ["held", "call", "told"] (spCall C) := by
  refine F.ok scCall (fun vs H Q E h => ?_) (fun cdv A outer s H vs Q E hr h => ?_)
  · obtain ⟨a, b, l, st, j, args, rfl, _⟩ := h
    rfl
  · obtain ⟨a, b, l, st, j, args, rfl, hh, hb, hask, hj, k⟩ := h
    obtain ⟨t11, g11⟩ := T.notBegun
    obtain ⟨tB, gB⟩ := T.begin_
    obtain ⟨aA, fs, mA, hA, hlen, hfs⟩ := D.ex
    obtain ⟨dx, p0, e0, ha⟩ := hh.at_
    refine ⟨_, pss_cons (ps_if (PW.pt (pw_and (pt_cmpR op_ne (pv 1) (pe_gint rfl gB) (nomark _)) (pw_and1 (pt_cmpR op_eq (pe_fld (pv 0) rfl) pe_int (nomark _))))) (pss_one (ps_ret (pe_lst (pa_cons (pe_gint rfl g11) pa_nil)))) pss_nil)
      (pss_cons (ps_set (i := 3) scCall.nd rfl (Or.inl rfl) (pe_ix ix_tup (pe_gref rfl mA) (pv 1) (fun _ _ => rfl)))
      (pss_one (ps_ret (pe_callV (i := 3) hr rfl (Or.inl rfl) (pa_cons (pv 0) (pa_cons (pv 2) pa_nil)))))), ?_⟩
    obtain ⟨fj, hfj⟩ : ∃ fj, fs[j]? = some fj := ⟨_, List.getElem?_eq_getElem (by omega)⟩
    have go : ((j : Int) = 0 ∨ st ≠ none) → spA C (j : Int) [.ref a, .ref b] H Q E0 := fun hst => ⟨a, b, l, st, args, rfl, hh, hb, hask, hst, k⟩
    have hne : st = none → p0 = 0 := fun e => by
      subst e
      obtain ⟨d, z, _⟩ := hh
      rw [ha] at z
      have z := HO.ins.inj (Option.some.inj z)
      have z := (List.cons.inj z.2.2).1
      exact V.int.inj (Prod.mk.inj z).2
    have hsm : st ≠ none → p0 ≠ 0 := fun e => by
      cases st with
      | none => exact absurd rfl e
      | some c =>
        obtain ⟨O, d, z, _⟩ := hh
        rw [ha] at z
        have z := HO.ins.inj (Option.some.inj z)
        have z := (List.cons.inj z.2.2).1
        have z := V.int.inj (Prod.mk.inj z).2
        have := O.g.pr.ge
        omega
    refine ⟨_, rfl, rfl, _, rfl, ?_⟩
    by_cases hj0 : j = 0
    · subst hj0
      refine iteF (iteF ?_)
      refine ⟨_, rfl, aA, _, _, V.ref fj, rfl, rfl, hA H, atI_nat (j := 0) (by rw [List.getElem?_map, hfj]; rfl), ?_⟩
      exact ⟨fj, spA C ((0 : Nat) : Int), rfl, hfs 0 fj hfj, _, rfl, _, rfl, go (.inl rfl)⟩
    · have d : decide (V.int (j : Int) = V.int 0) = false := decide_eq_false fun z => hj0 (by have := V.int.inj z; omega)
      rw [d]
      refine iteT ⟨_, rfl, a, C, dx, _, _, rfl, ha, T.cl, T.nP, hf_prime _ _ _, rfl, _, rfl, iteI (fun h => ?_) fun h => ?_⟩
      · have e : st = none := Classical.byContradiction fun z => hsm z h
        subst e
        rw [step_none hj hj0 hask] at k
        exact ⟨(by show 1 ≤ sizeLine; decide), fin_ hh (Same.refl H) k⟩
      · have e : st ≠ none := fun z => h (hne z)
        refine ⟨_, rfl, aA, _, _, V.ref fj, rfl, rfl, hA H, atI_nat (j := j) (by rw [List.getElem?_map, hfj]; rfl), ?_⟩
        exact ⟨fj, spA C (j : Int), rfl, hfs j fj hfj, _, rfl, _, rfl, go (.inr e)⟩
end
end Pw

set_option Elab.async false
set_option linter.all false
set_option maxRecDepth 100000
set_option maxHeartbeats 4000000
namespace Pw
open PySem PySem.Spec PyProof.Rows L2
theorem mg_no {K : PySem.W.Frag} {h : Heap} {mg : Str → Option Value} {n : Str} (X : K.In h) (G : h.Ns mainGlobals mg) (e : PySem.W.nsIn K mainGlobals n = some none) : mg n = none := PySem.W.mg_none_of X G e
theorem vals_refs : ∀ fs : List Addr, Vals (fs.map V.ref) (fs.map Value.ref)
  | [] => .nil
  | _ :: fs => .cons rfl (vals_refs fs)
theorem vals_counts {u0 u1 u2 u3 u4 u5 u6 u7 u8 u9 u10 u11 u12 u13 u14 u15 u16 u17 u18 u19 : Tok} : Vals (natsV counts) (#[Value.int 2 u0, Value.int 1 u1, Value.int 1 u2, Value.int 0 u3, Value.int 0 u4, Value.int 1 u5, Value.int 1 u6, Value.int 1 u7, Value.int 1 u8, Value.int 1 u9, Value.int 2 u10, Value.int 1 u11, Value.int 0 u12, Value.int 2 u13, Value.int 1 u14, Value.int 1 u15, Value.int 1 u16, Value.int 2 u17, Value.int 1 u18, Value.int 0 u19] : Array Value).toList :=
  .cons ⟨_, rfl⟩ (.cons ⟨_, rfl⟩ (.cons ⟨_, rfl⟩ (.cons ⟨_, rfl⟩ (.cons ⟨_, rfl⟩ (.cons ⟨_, rfl⟩ (.cons ⟨_, rfl⟩ (.cons ⟨_, rfl⟩ (.cons ⟨_, rfl⟩ (.cons ⟨_, rfl⟩ (.cons ⟨_, rfl⟩ (.cons ⟨_, rfl⟩ (.cons ⟨_, rfl⟩ (.cons ⟨_, rfl⟩ (.cons ⟨_, rfl⟩ (.cons ⟨_, rfl⟩ (.cons ⟨_, rfl⟩ (.cons ⟨_, rfl⟩ (.cons ⟨_, rfl⟩ (.cons ⟨_, rfl⟩ (.nil))))))))))))))))))))
theorem all_mk {P : Program} {w : World} {K : PySem.W.Frag} {h : Heap} {mg : Str → Option Value} {fa C fI aT aA : Addr} {f0 f1 f2 f3 f4 f5 f6 f7 f8 f9 f10 f11 f12 f13 f14 f15 f16 f17 f18 f19 f20 f21 f22 f23 f24 f25 f26 f27 f28 f29 f30 f31 f32 f33 f34 f35 : Addr}
    {od0 an0 od1 an1 od2 an2 od3 an3 od4 an4 od5 an5 od6 an6 od7 an7 od8 an8 od9 an9 od10 an10 od11 an11 od12 an12 od13 an13 od14 an14 od15 an15 od16 an16 od17 an17 od18 an18 od19 an19 od20 an20 od21 an21 od22 an22 od23 an23 od24 an24 od25 an25 od26 an26 od27 an27 od28 an28 od29 an29 od30 an30 od31 an31 od32 an32 od33 an33 od34 an34 od35 an35 odI anI : Option Addr} {sl0 sl1 sl2 sl3 sl4 sl5 sl6 sl7 sl8 sl9 sl10 sl11 sl12 sl13 sl14 sl15 sl16 sl17 sl18 sl19 sl20 sl21 sl22 sl23 sl24 sl25 sl26 sl27 sl28 sl29 sl30 sl31 sl32 sl33 sl34 sl35 slI : Array (Option Value)} {oc0 kV0 dc0 pm0 cd0 ct0 oc1 kV1 dc1 pm1 cd1 ct1 oc2 kV2 dc2 pm2 cd2 ct2 oc3 kV3 dc3 pm3 cd3 ct3 oc4 kV4 dc4 pm4 cd4 ct4 oc5 kV5 dc5 pm5 cd5 ct5 oc6 kV6 dc6 pm6 cd6 ct6 oc7 kV7 dc7 pm7 cd7 ct7 oc8 kV8 dc8 pm8 cd8 ct8 oc9 kV9 dc9 pm9 cd9 ct9 oc10 kV10 dc10 pm10 cd10 ct10 oc11 kV11 dc11 pm11 cd11 ct11 oc12 kV12 dc12 pm12 cd12 ct12 oc13 kV13 dc13 pm13 cd13 ct13 oc14 kV14 dc14 pm14 cd14 ct14 oc15 kV15 dc15 pm15 cd15 ct15 oc16 kV16 dc16 pm16 cd16 ct16 oc17 kV17 dc17 pm17 cd17 ct17 oc18 kV18 dc18 pm18 cd18 ct18 oc19 kV19 dc19 pm19 cd19 ct19 oc20 kV20 dc20 pm20 cd20 ct20 oc21 kV21 dc21 pm21 cd21 ct21 oc22 kV22 dc22 pm22 cd22 ct22 oc23 kV23 dc23 pm23 cd23 ct23 oc24 kV24 dc24 pm24 cd24 ct24 oc25 kV25 dc25 pm25 cd25 ct25 oc26 kV26 dc26 pm26 cd26 ct26 oc27 kV27 dc27 pm27 cd27 ct27 oc28 kV28 dc28 pm28 cd28 ct28 oc29 kV29 dc29 pm29 cd29 ct29 oc30 kV30 dc30 pm30 cd30 ct30 oc31 kV31 dc31 pm31 cd31 ct31 oc32 kV32 dc32 pm32 cd32 ct32 oc33 kV33 dc33 pm33 cd33 ct33 oc34 kV34 dc34 pm34 cd34 ct34 oc35 kV35 dc35 pm35 cd35 ct35 ocI kVI dcI pmI cdI ctI : Value}
    {t0 t1 t2 t3 t4 t5 t6 t7 : Tok} {odT odA : Option Addr} {slT slA : Array (Option Value)} {nT nA : Nat} {u0 u1 u2 u3 u4 u5 u6 u7 u8 u9 u10 u11 u12 u13 u14 u15 u16 u17 u18 u19 : Tok}
    (X : K.In h) (G : h.Ns mainGlobals mg) (hfa : mg "answers" = some (.ref fa))
    (a0 : PySem.W.nsIn K mainGlobals "count_behind" = some (some (.ref f0)))
    (l0 : K.lookup f0 = some ⟨oc0, od0, .func (PySem.W.fnOf "count_behind" "count_behind" (defArgs sBehindN) (defBody sBehindN) (defScope sBehindN) .none kV0 dc0 pm0 an0 cd0 ct0), sl0⟩)
    (c0 : PySem.W.codeIn K cd0 "count_behind" = true)
    (k0 : PySem.W.keepIn K (.ref f0) = true)
    (a1 : PySem.W.nsIn K mainGlobals "difference_counts" = some (some (.ref f1)))
    (l1 : K.lookup f1 = some ⟨oc1, od1, .func (PySem.W.fnOf "difference_counts" "difference_counts" (defArgs sDiffs) (defBody sDiffs) (defScope sDiffs) .none kV1 dc1 pm1 an1 cd1 ct1), sl1⟩)
    (c1 : PySem.W.codeIn K cd1 "difference_counts" = true)
    (k1 : PySem.W.keepIn K (.ref f1) = true)
    (a2 : PySem.W.nsIn K mainGlobals "differ_evenly" = some (some (.ref f2)))
    (l2 : K.lookup f2 = some ⟨oc2, od2, .func (PySem.W.fnOf "differ_evenly" "differ_evenly" (defArgs sEvenly) (defBody sEvenly) (defScope sEvenly) .none kV2 dc2 pm2 an2 cd2 ct2), sl2⟩)
    (c2 : PySem.W.codeIn K cd2 "differ_evenly" = true)
    (k2 : PySem.W.keepIn K (.ref f2) = true)
    (a3 : PySem.W.nsIn K mainGlobals "is_odd_prime" = some (some (.ref f3)))
    (l3 : K.lookup f3 = some ⟨oc3, od3, .func (PySem.W.fnOf "is_odd_prime" "is_odd_prime" (defArgs sPrime) (defBody sPrime) (defScope sPrime) .none kV3 dc3 pm3 an3 cd3 ct3), sl3⟩)
    (c3 : PySem.W.codeIn K cd3 "is_odd_prime" = true)
    (k3 : PySem.W.keepIn K (.ref f3) = true)
    (a4 : PySem.W.nsIn K mainGlobals "powers_of" = some (some (.ref f4)))
    (l4 : K.lookup f4 = some ⟨oc4, od4, .func (PySem.W.fnOf "powers_of" "powers_of" (defArgs sPowers) (defBody sPowers) (defScope sPowers) .none kV4 dc4 pm4 an4 cd4 ct4), sl4⟩)
    (c4 : PySem.W.codeIn K cd4 "powers_of" = true)
    (k4 : PySem.W.keepIn K (.ref f4) = true)
    (a5 : PySem.W.nsIn K mainGlobals "leaves_all" = some (some (.ref f5)))
    (l5 : K.lookup f5 = some ⟨oc5, od5, .func (PySem.W.fnOf "leaves_all" "leaves_all" (defArgs sLeaves) (defBody sLeaves) (defScope sLeaves) .none kV5 dc5 pm5 an5 cd5 ct5), sl5⟩)
    (c5 : PySem.W.codeIn K cd5 "leaves_all" = true)
    (k5 : PySem.W.keepIn K (.ref f5) = true)
    (a6 : PySem.W.nsIn K mainGlobals "least_root" = some (some (.ref f6)))
    (l6 : K.lookup f6 = some ⟨oc6, od6, .func (PySem.W.fnOf "least_root" "least_root" (defArgs sLeast) (defBody sLeast) (defScope sLeast) .none kV6 dc6 pm6 an6 cd6 ct6), sl6⟩)
    (c6 : PySem.W.codeIn K cd6 "least_root" = true)
    (k6 : PySem.W.keepIn K (.ref f6) = true)
    (a7 : PySem.W.nsIn K mainGlobals "all_roots" = some (some (.ref f7)))
    (l7 : K.lookup f7 = some ⟨oc7, od7, .func (PySem.W.fnOf "all_roots" "all_roots" (defArgs sRoots) (defBody sRoots) (defScope sRoots) .none kV7 dc7 pm7 an7 cd7 ct7), sl7⟩)
    (c7 : PySem.W.codeIn K cd7 "all_roots" = true)
    (k7 : PySem.W.keepIn K (.ref f7) = true)
    (a8 : PySem.W.nsIn K mainGlobals "can_split" = some (some (.ref f8)))
    (l8 : K.lookup f8 = some ⟨oc8, od8, .func (PySem.W.fnOf "can_split" "can_split" (defArgs sCan) (defBody sCan) (defScope sCan) .none kV8 dc8 pm8 an8 cd8 ct8), sl8⟩)
    (c8 : PySem.W.codeIn K cd8 "can_split" = true)
    (k8 : PySem.W.keepIn K (.ref f8) = true)
    (a9 : PySem.W.nsIn K mainGlobals "index_of" = some (some (.ref f9)))
    (l9 : K.lookup f9 = some ⟨oc9, od9, .func (PySem.W.fnOf "index_of" "index_of" (defArgs sIndex) (defBody sIndex) (defScope sIndex) .none kV9 dc9 pm9 an9 cd9 ct9), sl9⟩)
    (c9 : PySem.W.codeIn K cd9 "index_of" = true)
    (k9 : PySem.W.keepIn K (.ref f9) = true)
    (a10 : PySem.W.nsIn K mainGlobals "class_of" = some (some (.ref f10)))
    (l10 : K.lookup f10 = some ⟨oc10, od10, .func (PySem.W.fnOf "class_of" "class_of" (defArgs sClassOf) (defBody sClassOf) (defScope sClassOf) .none kV10 dc10 pm10 an10 cd10 ct10), sl10⟩)
    (c10 : PySem.W.codeIn K cd10 "class_of" = true)
    (k10 : PySem.W.keepIn K (.ref f10) = true)
    (a11 : PySem.W.nsIn K mainGlobals "has_class" = some (some (.ref f11)))
    (l11 : K.lookup f11 = some ⟨oc11, od11, .func (PySem.W.fnOf "has_class" "has_class" (defArgs sHas) (defBody sHas) (defScope sHas) .none kV11 dc11 pm11 an11 cd11 ct11), sl11⟩)
    (c11 : PySem.W.codeIn K cd11 "has_class" = true)
    (k11 : PySem.W.keepIn K (.ref f11) = true)
    (a12 : PySem.W.nsIn K mainGlobals "members_of" = some (some (.ref f12)))
    (l12 : K.lookup f12 = some ⟨oc12, od12, .func (PySem.W.fnOf "members_of" "members_of" (defArgs sMembers) (defBody sMembers) (defScope sMembers) .none kV12 dc12 pm12 an12 cd12 ct12), sl12⟩)
    (c12 : PySem.W.codeIn K cd12 "members_of" = true)
    (k12 : PySem.W.keepIn K (.ref f12) = true)
    (a13 : PySem.W.nsIn K mainGlobals "row_of" = some (some (.ref f13)))
    (l13 : K.lookup f13 = some ⟨oc13, od13, .func (PySem.W.fnOf "row_of" "row_of" (defArgs sRowOf) (defBody sRowOf) (defScope sRowOf) .none kV13 dc13 pm13 an13 cd13 ct13), sl13⟩)
    (c13 : PySem.W.codeIn K cd13 "row_of" = true)
    (k13 : PySem.W.keepIn K (.ref f13) = true)
    (a14 : PySem.W.nsIn K mainGlobals "answer_begin" = some (some (.ref f14)))
    (l14 : K.lookup f14 = some ⟨oc14, od14, .func (PySem.W.fnOf "answer_begin" "answer_begin" (defArgs sBegin) (defBody sBegin) (defScope sBegin) .none kV14 dc14 pm14 an14 cd14 ct14), sl14⟩)
    (c14 : PySem.W.codeIn K cd14 "answer_begin" = true)
    (k14 : PySem.W.keepIn K (.ref f14) = true)
    (a15 : PySem.W.nsIn K mainGlobals "answer_split" = some (some (.ref f15)))
    (l15 : K.lookup f15 = some ⟨oc15, od15, .func (PySem.W.fnOf "answer_split" "answer_split" (defArgs sSplit) (defBody sSplit) (defScope sSplit) .none kV15 dc15 pm15 an15 cd15 ct15), sl15⟩)
    (c15 : PySem.W.codeIn K cd15 "answer_split" = true)
    (k15 : PySem.W.keepIn K (.ref f15) = true)
    (a16 : PySem.W.nsIn K mainGlobals "answer_other" = some (some (.ref f16)))
    (l16 : K.lookup f16 = some ⟨oc16, od16, .func (PySem.W.fnOf "answer_other" "answer_other" (defArgs sOther) (defBody sOther) (defScope sOther) .none kV16 dc16 pm16 an16 cd16 ct16), sl16⟩)
    (c16 : PySem.W.codeIn K cd16 "answer_other" = true)
    (k16 : PySem.W.keepIn K (.ref f16) = true)
    (a17 : PySem.W.nsIn K mainGlobals "answer_root" = some (some (.ref f17)))
    (l17 : K.lookup f17 = some ⟨oc17, od17, .func (PySem.W.fnOf "answer_root" "answer_root" (defArgs sRoot) (defBody sRoot) (defScope sRoot) .none kV17 dc17 pm17 an17 cd17 ct17), sl17⟩)
    (c17 : PySem.W.codeIn K cd17 "answer_root" = true)
    (k17 : PySem.W.keepIn K (.ref f17) = true)
    (a18 : PySem.W.nsIn K mainGlobals "answer_roots" = some (some (.ref f18)))
    (l18 : K.lookup f18 = some ⟨oc18, od18, .func (PySem.W.fnOf "answer_roots" "answer_roots" (defArgs sAllRoots) (defBody sAllRoots) (defScope sAllRoots) .none kV18 dc18 pm18 an18 cd18 ct18), sl18⟩)
    (c18 : PySem.W.codeIn K cd18 "answer_roots" = true)
    (k18 : PySem.W.keepIn K (.ref f18) = true)
    (a19 : PySem.W.nsIn K mainGlobals "answer_index" = some (some (.ref f19)))
    (l19 : K.lookup f19 = some ⟨oc19, od19, .func (PySem.W.fnOf "answer_index" "answer_index" (defArgs sIdx) (defBody sIdx) (defScope sIdx) .none kV19 dc19 pm19 an19 cd19 ct19), sl19⟩)
    (c19 : PySem.W.codeIn K cd19 "answer_index" = true)
    (k19 : PySem.W.keepIn K (.ref f19) = true)
    (a20 : PySem.W.nsIn K mainGlobals "answer_class" = some (some (.ref f20)))
    (l20 : K.lookup f20 = some ⟨oc20, od20, .func (PySem.W.fnOf "answer_class" "answer_class" (defArgs sClass) (defBody sClass) (defScope sClass) .none kV20 dc20 pm20 an20 cd20 ct20), sl20⟩)
    (c20 : PySem.W.codeIn K cd20 "answer_class" = true)
    (k20 : PySem.W.keepIn K (.ref f20) = true)
    (a21 : PySem.W.nsIn K mainGlobals "answer_power" = some (some (.ref f21)))
    (l21 : K.lookup f21 = some ⟨oc21, od21, .func (PySem.W.fnOf "answer_power" "answer_power" (defArgs sPower) (defBody sPower) (defScope sPower) .none kV21 dc21 pm21 an21 cd21 ct21), sl21⟩)
    (c21 : PySem.W.codeIn K cd21 "answer_power" = true)
    (k21 : PySem.W.keepIn K (.ref f21) = true)
    (a22 : PySem.W.nsIn K mainGlobals "answer_members" = some (some (.ref f22)))
    (l22 : K.lookup f22 = some ⟨oc22, od22, .func (PySem.W.fnOf "answer_members" "answer_members" (defArgs sMem) (defBody sMem) (defScope sMem) .none kV22 dc22 pm22 an22 cd22 ct22), sl22⟩)
    (c22 : PySem.W.codeIn K cd22 "answer_members" = true)
    (k22 : PySem.W.keepIn K (.ref f22) = true)
    (a23 : PySem.W.nsIn K mainGlobals "answer_first" = some (some (.ref f23)))
    (l23 : K.lookup f23 = some ⟨oc23, od23, .func (PySem.W.fnOf "answer_first" "answer_first" (defArgs sFirst) (defBody sFirst) (defScope sFirst) .none kV23 dc23 pm23 an23 cd23 ct23), sl23⟩)
    (c23 : PySem.W.codeIn K cd23 "answer_first" = true)
    (k23 : PySem.W.keepIn K (.ref f23) = true)
    (a24 : PySem.W.nsIn K mainGlobals "answer_behind" = some (some (.ref f24)))
    (l24 : K.lookup f24 = some ⟨oc24, od24, .func (PySem.W.fnOf "answer_behind" "answer_behind" (defArgs sBehind) (defBody sBehind) (defScope sBehind) .none kV24 dc24 pm24 an24 cd24 ct24), sl24⟩)
    (c24 : PySem.W.codeIn K cd24 "answer_behind" = true)
    (k24 : PySem.W.keepIn K (.ref f24) = true)
    (a25 : PySem.W.nsIn K mainGlobals "answer_row" = some (some (.ref f25)))
    (l25 : K.lookup f25 = some ⟨oc25, od25, .func (PySem.W.fnOf "answer_row" "answer_row" (defArgs sRow) (defBody sRow) (defScope sRow) .none kV25 dc25 pm25 an25 cd25 ct25), sl25⟩)
    (c25 : PySem.W.codeIn K cd25 "answer_row" = true)
    (k25 : PySem.W.keepIn K (.ref f25) = true)
    (a26 : PySem.W.nsIn K mainGlobals "answer_table" = some (some (.ref f26)))
    (l26 : K.lookup f26 = some ⟨oc26, od26, .func (PySem.W.fnOf "answer_table" "answer_table" (defArgs sTable) (defBody sTable) (defScope sTable) .none kV26 dc26 pm26 an26 cd26 ct26), sl26⟩)
    (c26 : PySem.W.codeIn K cd26 "answer_table" = true)
    (k26 : PySem.W.keepIn K (.ref f26) = true)
    (a27 : PySem.W.nsIn K mainGlobals "answer_differs" = some (some (.ref f27)))
    (l27 : K.lookup f27 = some ⟨oc27, od27, .func (PySem.W.fnOf "answer_differs" "answer_differs" (defArgs sDiffers) (defBody sDiffers) (defScope sDiffers) .none kV27 dc27 pm27 an27 cd27 ct27), sl27⟩)
    (c27 : PySem.W.codeIn K cd27 "answer_differs" = true)
    (k27 : PySem.W.keepIn K (.ref f27) = true)
    (a28 : PySem.W.nsIn K mainGlobals "answer_even" = some (some (.ref f28)))
    (l28 : K.lookup f28 = some ⟨oc28, od28, .func (PySem.W.fnOf "answer_even" "answer_even" (defArgs sEven) (defBody sEven) (defScope sEven) .none kV28 dc28 pm28 an28 cd28 ct28), sl28⟩)
    (c28 : PySem.W.codeIn K cd28 "answer_even" = true)
    (k28 : PySem.W.keepIn K (.ref f28) = true)
    (a29 : PySem.W.nsIn K mainGlobals "answer_evenzero" = some (some (.ref f29)))
    (l29 : K.lookup f29 = some ⟨oc29, od29, .func (PySem.W.fnOf "answer_evenzero" "answer_evenzero" (defArgs sEvenZero) (defBody sEvenZero) (defScope sEvenZero) .none kV29 dc29 pm29 an29 cd29 ct29), sl29⟩)
    (c29 : PySem.W.codeIn K cd29 "answer_evenzero" = true)
    (k29 : PySem.W.keepIn K (.ref f29) = true)
    (a30 : PySem.W.nsIn K mainGlobals "answer_sum" = some (some (.ref f30)))
    (l30 : K.lookup f30 = some ⟨oc30, od30, .func (PySem.W.fnOf "answer_sum" "answer_sum" (defArgs sSum) (defBody sSum) (defScope sSum) .none kV30 dc30 pm30 an30 cd30 ct30), sl30⟩)
    (c30 : PySem.W.codeIn K cd30 "answer_sum" = true)
    (k30 : PySem.W.keepIn K (.ref f30) = true)
    (a31 : PySem.W.nsIn K mainGlobals "answer_times" = some (some (.ref f31)))
    (l31 : K.lookup f31 = some ⟨oc31, od31, .func (PySem.W.fnOf "answer_times" "answer_times" (defArgs sTimes) (defBody sTimes) (defScope sTimes) .none kV31 dc31 pm31 an31 cd31 ct31), sl31⟩)
    (c31 : PySem.W.codeIn K cd31 "answer_times" = true)
    (k31 : PySem.W.keepIn K (.ref f31) = true)
    (a32 : PySem.W.nsIn K mainGlobals "answer_opposite" = some (some (.ref f32)))
    (l32 : K.lookup f32 = some ⟨oc32, od32, .func (PySem.W.fnOf "answer_opposite" "answer_opposite" (defArgs sOpposite) (defBody sOpposite) (defScope sOpposite) .none kV32 dc32 pm32 an32 cd32 ct32), sl32⟩)
    (c32 : PySem.W.codeIn K cd32 "answer_opposite" = true)
    (k32 : PySem.W.keepIn K (.ref f32) = true)
    (a33 : PySem.W.nsIn K mainGlobals "answer_told" = some (some (.ref f33)))
    (l33 : K.lookup f33 = some ⟨oc33, od33, .func (PySem.W.fnOf "answer_told" "answer_told" (defArgs sTold) (defBody sTold) (defScope sTold) .none kV33 dc33 pm33 an33 cd33 ct33), sl33⟩)
    (c33 : PySem.W.codeIn K cd33 "answer_told" = true)
    (k33 : PySem.W.keepIn K (.ref f33) = true)
    (a34 : PySem.W.nsIn K mainGlobals "answer_call" = some (some (.ref f34)))
    (l34 : K.lookup f34 = some ⟨oc34, od34, .func (PySem.W.fnOf "answer_call" "answer_call" (defArgs sCall) (defBody sCall) (defScope sCall) .none kV34 dc34 pm34 an34 cd34 ct34), sl34⟩)
    (c34 : PySem.W.codeIn K cd34 "answer_call" = true)
    (k34 : PySem.W.keepIn K (.ref f34) = true)
    (a35 : PySem.W.nsIn K mainGlobals "answers" = some (some (.ref f35)))
    (l35 : K.lookup f35 = some ⟨oc35, od35, .func (PySem.W.fnOf "answers" "answers" (defArgs sAns) (defBody sAns) (defScope sAns) .none kV35 dc35 pm35 an35 cd35 ct35), sl35⟩)
    (c35 : PySem.W.codeIn K cd35 "answers" = true)
    (k35 : PySem.W.keepIn K (.ref f35) = true)
    (z0 : PySem.W.nsIn K mainGlobals "PRIME_BOUND" = some (some (.int (200) t0)))
    (z1 : PySem.W.nsIn K mainGlobals "NO_CLASS" = some (some (.int (-2) t1)))
    (z2 : PySem.W.nsIn K mainGlobals "NOT_BEGUN" = some (some (.int (-11) t2)))
    (z3 : PySem.W.nsIn K mainGlobals "BAD_NUMBER" = some (some (.int (-22) t3)))
    (z4 : PySem.W.nsIn K mainGlobals "BAD_SPLIT" = some (some (.int (-33) t4)))
    (z5 : PySem.W.nsIn K mainGlobals "FEWEST_CLASSES" = some (some (.int (2) t5)))
    (z6 : PySem.W.nsIn K mainGlobals "MOST_CLASSES" = some (some (.int (8) t6)))
    (z7 : PySem.W.nsIn K mainGlobals "BEGIN" = some (some (.int (0) t7)))
    (n0 : PySem.W.nsIn K mainGlobals "range" = some none)
    (n1 : PySem.W.nsIn K mainGlobals "list" = some none)
    (n2 : PySem.W.nsIn K mainGlobals "sorted" = some none)
    (n3 : PySem.W.nsIn K mainGlobals "len" = some none)
    (n4 : PySem.W.nsIn K mainGlobals "min" = some none)
    (n5 : PySem.W.nsIn K mainGlobals "max" = some none)
    (n6 : PySem.W.nsIn K mainGlobals "sum" = some none)
    (aC : PySem.W.nsIn K mainGlobals "PowerClasses" = some (some (.ref C)))
    (aI : PySem.W.findIn K (.ref C) "__init__" = some (some (.ref fI)))
    (iI : PySem.W.isFn K (.ref fI) = true)
    (lI : K.lookup fI = some ⟨ocI, odI, .func (PySem.W.fnOf "__init__" "PowerClasses.__init__" (defArgs sInit) (defBody sInit) (defScope sInit) .none kVI dcI pmI anI cdI ctI), slI⟩)
    (cI : PySem.W.codeIn K cdI "PowerClasses.__init__" = true)
    (kI : PySem.W.keepIn K (.ref fI) = true)
    (pg : PySem.W.plainGet K C Str.empty = true)
    (hd : PySem.W.hasDictIn K C = true)
    (po : PySem.W.plainOver K C = true)
    (sa : PySem.W.findIn K (.ref C) "__setattr__" = some (some (.builtin "object.__setattr__")))
    (mk : PySem.W.makesIn K C = true)
    (kc : PySem.W.keepIn K (.ref C) = true)
    (at0 : PySem.W.findIn K (.ref C) "prime" = some none)
    (at1 : PySem.W.findIn K (.ref C) "class_count" = some none)
    (at2 : PySem.W.findIn K (.ref C) "powers" = some none)
    (aT_ : PySem.W.nsIn K mainGlobals "ARGUMENT_COUNTS" = some (some (.ref aT)))
    (lT : K.lookup aT = some ⟨.type "tuple", odT, .seq #[.int 2 u0, .int 1 u1, .int 1 u2, .int 0 u3, .int 0 u4, .int 1 u5, .int 1 u6, .int 1 u7, .int 1 u8, .int 1 u9, .int 2 u10, .int 1 u11, .int 0 u12, .int 2 u13, .int 1 u14, .int 1 u15, .int 1 u16, .int 2 u17, .int 1 u18, .int 0 u19] nT, slT⟩)
    (aA_ : PySem.W.nsIn K mainGlobals "ANSWERERS" = some (some (.ref aA)))
    (lA : K.lookup aA = some ⟨.type "tuple", odA, .seq #[.ref f14, .ref f15, .ref f16, .ref f17, .ref f18, .ref f19, .ref f20, .ref f21, .ref f22, .ref f23, .ref f24, .ref f25, .ref f26, .ref f27, .ref f28, .ref f29, .ref f30, .ref f31, .ref f32, .ref f33] nA, slA⟩)
    : ∃ fd : FuncData, (∀ (s : Shared) (us : List Value), us.length = (["calls"] : List Str).length → BindsTo s fd ⟨us, []⟩ ((["calls"] : List Str).zip us)) ∧ ∀ base : Heap, K.In base → base.Ns mainGlobals mg → FnOk P w K mg base CX0 7 fa fd ["calls"] (spAns K) := by
  have e := hfa.symm.trans (PySem.W.mg_of X G a35)
  cases e
  have R : TR mg := ⟨mg_no X G n0, mg_no X G n1, mg_no X G n2, ⟨_, PySem.W.mg_of X G z0⟩⟩
  have TP_ : TP mg := ⟨mg_no X G n3, mg_no X G n4, mg_no X G n5, mg_no X G n6⟩
  have T : TC K mg C := ⟨⟨pg, hd, po, sa⟩, at0, at1, at2, mg_no X G n3, ⟨_, PySem.W.mg_of X G z1⟩, ⟨_, PySem.W.mg_of X G z2⟩, ⟨_, PySem.W.mg_of X G z3⟩, ⟨_, PySem.W.mg_of X G z4⟩, ⟨_, PySem.W.mg_of X G z5⟩, ⟨_, PySem.W.mg_of X G z6⟩, ⟨_, PySem.W.mg_of X G z7⟩⟩
  have F0 := fun_mk (st := sBehindN) l0 c0 k0
  have b0 := F0.binds (ps := ["members", "others"]) fun _ _ _ _ _ _ us hl => match us, hl with | [_, _], _ => rfl
  have F1 := fun_mk (st := sDiffs) l1 c1 k1
  have b1 := F1.binds (ps := ["members", "prime"]) fun _ _ _ _ _ _ us hl => match us, hl with | [_, _], _ => rfl
  have F2 := fun_mk (st := sEvenly) l2 c2 k2
  have b2 := F2.binds (ps := ["members", "prime"]) fun _ _ _ _ _ _ us hl => match us, hl with | [_, _], _ => rfl
  have F3 := fun_mk (st := sPrime) l3 c3 k3
  have b3 := F3.binds (ps := ["number"]) fun _ _ _ _ _ _ us hl => match us, hl with | [_], _ => rfl
  have F4 := fun_mk (st := sPowers) l4 c4 k4
  have b4 := F4.binds (ps := ["number", "prime"]) fun _ _ _ _ _ _ us hl => match us, hl with | [_, _], _ => rfl
  have F5 := fun_mk (st := sLeaves) l5 c5 k5
  have b5 := F5.binds (ps := ["number", "prime"]) fun _ _ _ _ _ _ us hl => match us, hl with | [_, _], _ => rfl
  have F6 := fun_mk (st := sLeast) l6 c6 k6
  have b6 := F6.binds (ps := ["prime"]) fun _ _ _ _ _ _ us hl => match us, hl with | [_], _ => rfl
  have F7 := fun_mk (st := sRoots) l7 c7 k7
  have b7 := F7.binds (ps := ["prime"]) fun _ _ _ _ _ _ us hl => match us, hl with | [_], _ => rfl
  have F8 := fun_mk (st := sCan) l8 c8 k8
  have b8 := F8.binds (ps := ["prime", "class_count"]) fun _ _ _ _ _ _ us hl => match us, hl with | [_, _], _ => rfl
  have F9 := fun_mk (st := sIndex) l9 c9 k9
  have b9 := F9.binds (ps := ["held", "remainder"]) fun _ _ _ _ _ _ us hl => match us, hl with | [_, _], _ => rfl
  have F10 := fun_mk (st := sClassOf) l10 c10 k10
  have b10 := F10.binds (ps := ["held", "remainder"]) fun _ _ _ _ _ _ us hl => match us, hl with | [_, _], _ => rfl
  have F11 := fun_mk (st := sHas) l11 c11 k11
  have b11 := F11.binds (ps := ["held", "number"]) fun _ _ _ _ _ _ us hl => match us, hl with | [_, _], _ => rfl
  have F12 := fun_mk (st := sMembers) l12 c12 k12
  have b12 := F12.binds (ps := ["held", "number"]) fun _ _ _ _ _ _ us hl => match us, hl with | [_, _], _ => rfl
  have F13 := fun_mk (st := sRowOf) l13 c13 k13
  have b13 := F13.binds (ps := ["held", "number"]) fun _ _ _ _ _ _ us hl => match us, hl with | [_, _], _ => rfl
  have F14 := fun_mk (st := sBegin) l14 c14 k14
  have b14 := F14.binds (ps := ["held", "told"]) fun _ _ _ _ _ _ us hl => match us, hl with | [_, _], _ => rfl
  have F15 := fun_mk (st := sSplit) l15 c15 k15
  have b15 := F15.binds (ps := ["held", "told"]) fun _ _ _ _ _ _ us hl => match us, hl with | [_, _], _ => rfl
  have F16 := fun_mk (st := sOther) l16 c16 k16
  have b16 := F16.binds (ps := ["held", "told"]) fun _ _ _ _ _ _ us hl => match us, hl with | [_, _], _ => rfl
  have F17 := fun_mk (st := sRoot) l17 c17 k17
  have b17 := F17.binds (ps := ["held", "told"]) fun _ _ _ _ _ _ us hl => match us, hl with | [_, _], _ => rfl
  have F18 := fun_mk (st := sAllRoots) l18 c18 k18
  have b18 := F18.binds (ps := ["held", "told"]) fun _ _ _ _ _ _ us hl => match us, hl with | [_, _], _ => rfl
  have F19 := fun_mk (st := sIdx) l19 c19 k19
  have b19 := F19.binds (ps := ["held", "told"]) fun _ _ _ _ _ _ us hl => match us, hl with | [_, _], _ => rfl
  have F20 := fun_mk (st := sClass) l20 c20 k20
  have b20 := F20.binds (ps := ["held", "told"]) fun _ _ _ _ _ _ us hl => match us, hl with | [_, _], _ => rfl
  have F21 := fun_mk (st := sPower) l21 c21 k21
  have b21 := F21.binds (ps := ["held", "told"]) fun _ _ _ _ _ _ us hl => match us, hl with | [_, _], _ => rfl
  have F22 := fun_mk (st := sMem) l22 c22 k22
  have b22 := F22.binds (ps := ["held", "told"]) fun _ _ _ _ _ _ us hl => match us, hl with | [_, _], _ => rfl
  have F23 := fun_mk (st := sFirst) l23 c23 k23
  have b23 := F23.binds (ps := ["held", "told"]) fun _ _ _ _ _ _ us hl => match us, hl with | [_, _], _ => rfl
  have F24 := fun_mk (st := sBehind) l24 c24 k24
  have b24 := F24.binds (ps := ["held", "told"]) fun _ _ _ _ _ _ us hl => match us, hl with | [_, _], _ => rfl
  have F25 := fun_mk (st := sRow) l25 c25 k25
  have b25 := F25.binds (ps := ["held", "told"]) fun _ _ _ _ _ _ us hl => match us, hl with | [_, _], _ => rfl
  have F26 := fun_mk (st := sTable) l26 c26 k26
  have b26 := F26.binds (ps := ["held", "told"]) fun _ _ _ _ _ _ us hl => match us, hl with | [_, _], _ => rfl
  have F27 := fun_mk (st := sDiffers) l27 c27 k27
  have b27 := F27.binds (ps := ["held", "told"]) fun _ _ _ _ _ _ us hl => match us, hl with | [_, _], _ => rfl
  have F28 := fun_mk (st := sEven) l28 c28 k28
  have b28 := F28.binds (ps := ["held", "told"]) fun _ _ _ _ _ _ us hl => match us, hl with | [_, _], _ => rfl
  have F29 := fun_mk (st := sEvenZero) l29 c29 k29
  have b29 := F29.binds (ps := ["held", "told"]) fun _ _ _ _ _ _ us hl => match us, hl with | [_, _], _ => rfl
  have F30 := fun_mk (st := sSum) l30 c30 k30
  have b30 := F30.binds (ps := ["held", "told"]) fun _ _ _ _ _ _ us hl => match us, hl with | [_, _], _ => rfl
  have F31 := fun_mk (st := sTimes) l31 c31 k31
  have b31 := F31.binds (ps := ["held", "told"]) fun _ _ _ _ _ _ us hl => match us, hl with | [_, _], _ => rfl
  have F32 := fun_mk (st := sOpposite) l32 c32 k32
  have b32 := F32.binds (ps := ["held", "told"]) fun _ _ _ _ _ _ us hl => match us, hl with | [_, _], _ => rfl
  have F33 := fun_mk (st := sTold) l33 c33 k33
  have b33 := F33.binds (ps := ["held", "told"]) fun _ _ _ _ _ _ us hl => match us, hl with | [_, _], _ => rfl
  have F34 := fun_mk (st := sCall) l34 c34 k34
  have b34 := F34.binds (ps := ["held", "call", "told"]) fun _ _ _ _ _ _ us hl => match us, hl with | [_, _, _], _ => rfl
  have F35 := fun_mk (st := sAns) l35 c35 k35
  have FI := fun_mk (st := sInit) lI cI kI
  have bI := FI.binds (ps := ["self"]) fun _ _ _ _ _ _ us hl => match us, hl with | [_], _ => rfl
  have M : TM K mg C := ⟨PySem.W.mg_of X G aC, aT, PySem.W.mg_of X G aT_, fun H => .inr ⟨_, _, _, lT, rfl, rfl, by show 20 ≤ sizeLine; decide, vals_counts⟩⟩
  refine ⟨PySem.W.fnOf "answers" "answers" (defArgs sAns) (defBody sAns) (defScope sAns) .none kV35 dc35 pm35 an35 cd35 ct35, fun s us hu => match us, hu with | [_], _ => .of_eq rfl, fun base _ _ => ?_⟩
  have H0 : Has P w K mg base 1 "count_behind" _ := ⟨_, _, _, PySem.W.mg_of X G a0, k0, b0, ok_behindN F0 TP_⟩
  have H1 : Has P w K mg base 1 "difference_counts" _ := ⟨_, _, _, PySem.W.mg_of X G a1, k1, b1, ok_diffs F1⟩
  have H2 : Has P w K mg base 2 "differ_evenly" _ := ⟨_, _, _, PySem.W.mg_of X G a2, k2, b2, ok_evenly F2 TP_ H1⟩
  have H3 : Has P w K mg base 1 "is_odd_prime" _ := ⟨_, _, _, PySem.W.mg_of X G a3, k3, b3, ok_prime F3 R⟩
  have H4 : Has P w K mg base 1 "powers_of" _ := ⟨_, _, _, PySem.W.mg_of X G a4, k4, b4, ok_powers F4 R⟩
  have H5 : Has P w K mg base 2 "leaves_all" _ := ⟨_, _, _, PySem.W.mg_of X G a5, k5, b5, ok_leaves F5 R H4⟩
  have H6 : Has P w K mg base 3 "least_root" _ := ⟨_, _, _, PySem.W.mg_of X G a6, k6, b6, ok_least F6 H5⟩
  have H7 : Has P w K mg base 3 "all_roots" _ := ⟨_, _, _, PySem.W.mg_of X G a7, k7, b7, ok_roots F7 R H5⟩
  have H8 : Has P w K mg base 1 "can_split" _ := ⟨_, _, _, PySem.W.mg_of X G a8, k8, b8, ok_can F8 T⟩
  have H9 : Has P w K mg base 1 "index_of" _ := ⟨_, _, _, PySem.W.mg_of X G a9, k9, b9, ok_index F9 T⟩
  have H10 : Has P w K mg base 2 "class_of" _ := ⟨_, _, _, PySem.W.mg_of X G a10, k10, b10, ok_classOf F10 T H9⟩
  have H11 : Has P w K mg base 1 "has_class" _ := ⟨_, _, _, PySem.W.mg_of X G a11, k11, b11, ok_has F11 T⟩
  have H12 : Has P w K mg base 1 "members_of" _ := ⟨_, _, _, PySem.W.mg_of X G a12, k12, b12, ok_members F12 R T⟩
  have H13 : Has P w K mg base 2 "row_of" _ := ⟨_, _, _, PySem.W.mg_of X G a13, k13, b13, ok_rowOf F13 R T H12 H0⟩
  have C0 : Callee P w K mg base 5 f14 (spA C 0) := ⟨_, _, _, b14, k14, by decide, ok_begin F14 T H3 H8 H6 H4⟩
  have C1 : Callee P w K mg base 5 f15 (spA C 1) := ⟨_, _, _, b15, k15, by decide, ok_split F15 T H8⟩
  have C2 : Callee P w K mg base 5 f16 (spA C 2) := ⟨_, _, _, b16, k16, by decide, ok_other F16 T H5 H9 H4⟩
  have C3 : Callee P w K mg base 5 f17 (spA C 3) := ⟨_, _, _, b17, k17, by decide, ok_root F17 T H6⟩
  have C4 : Callee P w K mg base 5 f18 (spA C 4) := ⟨_, _, _, b18, k18, by decide, ok_allRoots F18 T H7⟩
  have C5 : Callee P w K mg base 5 f19 (spA C 5) := ⟨_, _, _, b19, k19, by decide, ok_idx F19 T H9⟩
  have C6 : Callee P w K mg base 5 f20 (spA C 6) := ⟨_, _, _, b20, k20, by decide, ok_class F20 T H10⟩
  have C7 : Callee P w K mg base 5 f21 (spA C 7) := ⟨_, _, _, b21, k21, by decide, ok_power F21 T⟩
  have C8 : Callee P w K mg base 5 f22 (spA C 8) := ⟨_, _, _, b22, k22, by decide, ok_mem F22 T H11 H12⟩
  have C9 : Callee P w K mg base 5 f23 (spA C 9) := ⟨_, _, _, b23, k23, by decide, ok_first F23 T H11 H12⟩
  have C10 : Callee P w K mg base 5 f24 (spA C 10) := ⟨_, _, _, b24, k24, by decide, ok_behind F24 T H11 H12 H0⟩
  have C11 : Callee P w K mg base 5 f25 (spA C 11) := ⟨_, _, _, b25, k25, by decide, ok_row F25 T H11 H13⟩
  have C12 : Callee P w K mg base 5 f26 (spA C 12) := ⟨_, _, _, b26, k26, by decide, ok_table F26 R T H13⟩
  have C13 : Callee P w K mg base 5 f27 (spA C 13) := ⟨_, _, _, b27, k27, by decide, ok_differs F27 T H11 H12 H1⟩
  have C14 : Callee P w K mg base 5 f28 (spA C 14) := ⟨_, _, _, b28, k28, by decide, ok_even F28 T H11 H12 H2⟩
  have C15 : Callee P w K mg base 5 f29 (spA C 15) := ⟨_, _, _, b29, k29, by decide, ok_evenZero F29 T H11 H12 H2⟩
  have C16 : Callee P w K mg base 5 f30 (spA C 16) := ⟨_, _, _, b30, k30, by decide, ok_sum F30 T H11 TP_ H12⟩
  have C17 : Callee P w K mg base 5 f31 (spA C 17) := ⟨_, _, _, b31, k31, by decide, ok_times F31 T H11 H12 H10⟩
  have C18 : Callee P w K mg base 5 f32 (spA C 18) := ⟨_, _, _, b32, k32, by decide, ok_opposite F32 T H11 H12 H10⟩
  have C19 : Callee P w K mg base 5 f33 (spA C 19) := ⟨_, _, _, b33, k33, by decide, ok_told F33 T⟩
  have hfs : ∀ (j : Nat) (f : Addr), ([f14, f15, f16, f17, f18, f19, f20, f21, f22, f23, f24, f25, f26, f27, f28, f29, f30, f31, f32, f33] : List Addr)[j]? = some f → Callee P w K mg base 5 f (spA C (j : Int)) := by
    intro j f e
    match j, e with
    | 0, e => have e : some f14 = some f := e; cases e; exact C0
    | 1, e => have e : some f15 = some f := e; cases e; exact C1
    | 2, e => have e : some f16 = some f := e; cases e; exact C2
    | 3, e => have e : some f17 = some f := e; cases e; exact C3
    | 4, e => have e : some f18 = some f := e; cases e; exact C4
    | 5, e => have e : some f19 = some f := e; cases e; exact C5
    | 6, e => have e : some f20 = some f := e; cases e; exact C6
    | 7, e => have e : some f21 = some f := e; cases e; exact C7
    | 8, e => have e : some f22 = some f := e; cases e; exact C8
    | 9, e => have e : some f23 = some f := e; cases e; exact C9
    | 10, e => have e : some f24 = some f := e; cases e; exact C10
    | 11, e => have e : some f25 = some f := e; cases e; exact C11
    | 12, e => have e : some f26 = some f := e; cases e; exact C12
    | 13, e => have e : some f27 = some f := e; cases e; exact C13
    | 14, e => have e : some f28 = some f := e; cases e; exact C14
    | 15, e => have e : some f29 = some f := e; cases e; exact C15
    | 16, e => have e : some f30 = some f := e; cases e; exact C16
    | 17, e => have e : some f31 = some f := e; cases e; exact C17
    | 18, e => have e : some f32 = some f := e; cases e; exact C18
    | 19, e => have e : some f33 = some f := e; cases e; exact C19
    | _ + 20, e => have e : (none : Option Addr) = some f := e; cases e
  have D : TD P w K mg base C 20 := ⟨aA, [f14, f15, f16, f17, f18, f19, f20, f21, f22, f23, f24, f25, f26, f27, f28, f29, f30, f31, f32, f33], PySem.W.mg_of X G aA_, fun H => .inr ⟨_, _, _, lA, rfl, rfl, by show 20 ≤ sizeLine; decide, vals_refs [f14, f15, f16, f17, f18, f19, f20, f21, f22, f23, f24, f25, f26, f27, f28, f29, f30, f31, f32, f33]⟩, rfl, hfs⟩
  have HC : Has P w K mg base 6 "answer_call" (spCall C) := ⟨_, _, _, PySem.W.mg_of X G a34, k34, b34, ok_call F34 T D⟩
  exact ok_ans (kc := 4) F35 T M ⟨mk, aI, iI, kc⟩ (ok_init FI T) bI HC
end Pw
open PySem PySem.W PyProof.Rows
set_option maxRecDepth 100000 in
set_option maxHeartbeats 0 in
theorem PySem.Challenge.cw_powerclasses_s01_answers_holds : PySem.Challenge.rw_powerclasses_s01_answers.Holds := by
  w_on; k_headS; (case hw => exact ⟨[.list [.int 3]], by decide +kernel, by decide +kernel⟩)
  k_fillS
  refine L2.walk_specK (r := PySem.Challenge.rw_powerclasses_s01_answers) (k := 7) (CX := L2.CX0) (ps := ["calls"]) (sp := Pw.spAns) (by decide +kernel) rfl rfl ⟨rfl, by decide, by decide⟩ (fun w h Y => PySem.W.kIn_of Y) ?F ?S (fun _ _ _ _ z => z)
  case F =>
    intro w mg fa h Y KX G hmg
    refine' Pw.all_mk KX G hmg ?a0 ?l0 ?c0 ?k0 ?a1 ?l1 ?c1 ?k1 ?a2 ?l2 ?c2 ?k2 ?a3 ?l3 ?c3 ?k3 ?a4 ?l4 ?c4 ?k4 ?a5 ?l5 ?c5 ?k5 ?a6 ?l6 ?c6 ?k6 ?a7 ?l7 ?c7 ?k7 ?a8 ?l8 ?c8 ?k8 ?a9 ?l9 ?c9 ?k9 ?a10 ?l10 ?c10 ?k10 ?a11 ?l11 ?c11 ?k11 ?a12 ?l12 ?c12 ?k12 ?a13 ?l13 ?c13 ?k13 ?a14 ?l14 ?c14 ?k14 ?a15 ?l15 ?c15 ?k15 ?a16 ?l16 ?c16 ?k16 ?a17 ?l17 ?c17 ?k17 ?a18 ?l18 ?c18 ?k18 ?a19 ?l19 ?c19 ?k19 ?a20 ?l20 ?c20 ?k20 ?a21 ?l21 ?c21 ?k21 ?a22 ?l22 ?c22 ?k22 ?a23 ?l23 ?c23 ?k23 ?a24 ?l24 ?c24 ?k24 ?a25 ?l25 ?c25 ?k25 ?a26 ?l26 ?c26 ?k26 ?a27 ?l27 ?c27 ?k27 ?a28 ?l28 ?c28 ?k28 ?a29 ?l29 ?c29 ?k29 ?a30 ?l30 ?c30 ?k30 ?a31 ?l31 ?c31 ?k31 ?a32 ?l32 ?c32 ?k32 ?a33 ?l33 ?c33 ?k33 ?a34 ?l34 ?c34 ?k34 ?a35 ?l35 ?c35 ?k35 ?z0 ?z1 ?z2 ?z3 ?z4 ?z5 ?z6 ?z7 ?n0 ?n1 ?n2 ?n3 ?n4 ?n5 ?n6 ?aC ?aI ?iI ?lI ?cI ?kI ?pg ?hd ?po ?sa ?mk ?kc ?at0 ?at1 ?at2 ?aT_ ?lT ?aA_ ?lA
    (case a0 => k_is)
    (case l0 => k_is)
    (case c0 => k_is)
    (case k0 => k_is)
    (case a1 => k_is)
    (case l1 => k_is)
    (case c1 => k_is)
    (case k1 => k_is)
    (case a2 => k_is)
    (case l2 => k_is)
    (case c2 => k_is)
    (case k2 => k_is)
    (case a3 => k_is)
    (case l3 => k_is)
    (case c3 => k_is)
    (case k3 => k_is)
    (case a4 => k_is)
    (case l4 => k_is)
    (case c4 => k_is)
    (case k4 => k_is)
    (case a5 => k_is)
    (case l5 => k_is)
    (case c5 => k_is)
    (case k5 => k_is)
    (case a6 => k_is)
    (case l6 => k_is)
    (case c6 => k_is)
    (case k6 => k_is)
    (case a7 => k_is)
    (case l7 => k_is)
    (case c7 => k_is)
    (case k7 => k_is)
    (case a8 => k_is)
    (case l8 => k_is)
    (case c8 => k_is)
    (case k8 => k_is)
    (case a9 => k_is)
    (case l9 => k_is)
    (case c9 => k_is)
    (case k9 => k_is)
    (case a10 => k_is)
    (case l10 => k_is)
    (case c10 => k_is)
    (case k10 => k_is)
    (case a11 => k_is)
    (case l11 => k_is)
    (case c11 => k_is)
    (case k11 => k_is)
    (case a12 => k_is)
    (case l12 => k_is)
    (case c12 => k_is)
    (case k12 => k_is)
    (case a13 => k_is)
    (case l13 => k_is)
    (case c13 => k_is)
    (case k13 => k_is)
    (case a14 => k_is)
    (case l14 => k_is)
    (case c14 => k_is)
    (case k14 => k_is)
    (case a15 => k_is)
    (case l15 => k_is)
    (case c15 => k_is)
    (case k15 => k_is)
    (case a16 => k_is)
    (case l16 => k_is)
    (case c16 => k_is)
    (case k16 => k_is)
    (case a17 => k_is)
    (case l17 => k_is)
    (case c17 => k_is)
    (case k17 => k_is)
    (case a18 => k_is)
    (case l18 => k_is)
    (case c18 => k_is)
    (case k18 => k_is)
    (case a19 => k_is)
    (case l19 => k_is)
    (case c19 => k_is)
    (case k19 => k_is)
    (case a20 => k_is)
    (case l20 => k_is)
    (case c20 => k_is)
    (case k20 => k_is)
    (case a21 => k_is)
    (case l21 => k_is)
    (case c21 => k_is)
    (case k21 => k_is)
    (case a22 => k_is)
    (case l22 => k_is)
    (case c22 => k_is)
    (case k22 => k_is)
    (case a23 => k_is)
    (case l23 => k_is)
    (case c23 => k_is)
    (case k23 => k_is)
    (case a24 => k_is)
    (case l24 => k_is)
    (case c24 => k_is)
    (case k24 => k_is)
    (case a25 => k_is)
    (case l25 => k_is)
    (case c25 => k_is)
    (case k25 => k_is)
    (case a26 => k_is)
    (case l26 => k_is)
    (case c26 => k_is)
    (case k26 => k_is)
    (case a27 => k_is)
    (case l27 => k_is)
    (case c27 => k_is)
    (case k27 => k_is)
    (case a28 => k_is)
    (case l28 => k_is)
    (case c28 => k_is)
    (case k28 => k_is)
    (case a29 => k_is)
    (case l29 => k_is)
    (case c29 => k_is)
    (case k29 => k_is)
    (case a30 => k_is)
    (case l30 => k_is)
    (case c30 => k_is)
    (case k30 => k_is)
    (case a31 => k_is)
    (case l31 => k_is)
    (case c31 => k_is)
    (case k31 => k_is)
    (case a32 => k_is)
    (case l32 => k_is)
    (case c32 => k_is)
    (case k32 => k_is)
    (case a33 => k_is)
    (case l33 => k_is)
    (case c33 => k_is)
    (case k33 => k_is)
    (case a34 => k_is)
    (case l34 => k_is)
    (case c34 => k_is)
    (case k34 => k_is)
    (case a35 => k_is)
    (case l35 => k_is)
    (case c35 => k_is)
    (case k35 => k_is)
    (case z0 => k_is)
    (case z1 => k_is)
    (case z2 => k_is)
    (case z3 => k_is)
    (case z4 => k_is)
    (case z5 => k_is)
    (case z6 => k_is)
    (case z7 => k_is)
    (case n0 => k_is)
    (case n1 => k_is)
    (case n2 => k_is)
    (case n3 => k_is)
    (case n4 => k_is)
    (case n5 => k_is)
    (case n6 => k_is)
    (case aC => k_is)
    (case aI => k_is)
    (case iI => k_is)
    (case lI => k_is)
    (case cI => k_is)
    (case kI => k_is)
    (case pg => k_is)
    (case hd => k_is)
    (case po => k_is)
    (case sa => k_is)
    (case mk => k_is)
    (case kc => k_is)
    (case at0 => k_is)
    (case at1 => k_is)
    (case at2 => k_is)
    (case aT_ => k_is)
    (case lT => k_is)
    (case aA_ => k_is)
    (case lA => k_is)
  case S =>
    intro K H xs a hO hwi hask hx
    cases hx with
    | cons h1 h2 =>
      cases h2
      cases h1 with
      | lst hs ha =>
        have e := L2.ints_dw a.1 _ ha
        subst e
        have q : ((Codec.inLen 0 200 a.1 && a.1.all (Codec.inInt 0 4294967295)) && true) = true := hwi
        rw [Bool.and_eq_true, Bool.and_eq_true] at q
        exact ⟨_, a.1, rfl, hs, (Codec.inNat_iff.mp q.1.1).2, hask, fun H' p hp => .lst (L2.SqL.of hp) (L2.dw_ints _)⟩
