import PyProof.Rows.All
import Wide.All
import OpenK.AllK
import Wide.FinOn
import Lean
import PyProof.EqAt
import PyProof.EqKinds
import PyProof.Rows.SeqGen
import PyProof.ConsumeWalk
import PyProof.ListRange
import PyProof.NeKinds
import PyProof.TupleCall
import PySem.Challenge.RW_slipcurve_k06_too_few_by_all_doors
set_option Elab.async false
set_option linter.all false
set_option maxRecDepth 100000
/-! THE HAND LAYER, for ints, bools, texts, own classes, LISTS and tuples (index, slices, in, append, pop ..), calls, loops. Paste it whole ahead of your own text; what your proof does not reach may be deleted. -/
namespace L2
open PySem PySem.Spec PyProof.Rows

/-- a key: an int or a str -/
abbrev Key := Sum Int Str
def keyIs : Key → Value → Bool
  | .inl k, v => Value.isInt k v
  | .inr x, v => Value.isStrOf x v
def keyH (w : World) : Key → Int
  | .inl k => hashInt k
  | .inr x => hashStr w x
theorem keyIs_shape : ∀ {k : Key} {v : Value}, keyIs k v = true → (∃ i t, k = Sum.inl i ∧ v = Value.int i t) ∨ (∃ x t, k = Sum.inr x ∧ v = Value.str x t)
  | .inl i, v, h => by
    obtain ⟨t, e⟩ := Value.isInt_shape (k := i) (v := v) h
    exact .inl ⟨i, t, rfl, e⟩
  | .inr x, v, h => by
    obtain ⟨t, e⟩ := Value.isStrOf_shape (x := x) (v := v) h
    exact .inr ⟨x, t, rfl, e⟩
theorem keyIs_int (i : Int) (t : Tok) : keyIs (.inl i) (.int i t) = true := by simp [keyIs, Value.isInt]
theorem keyIs_str (x : Str) (t : Tok) : keyIs (.inr x) (.str x t) = true := by simp [keyIs, Value.isStrOf]
theorem key_ll (a b : Int) : decide ((Sum.inl a : Key) = Sum.inl b) = (a == b) := by
  by_cases e : a = b
  · subst e; simp
  · have h : ¬ (Sum.inl a : Key) = Sum.inl b := fun q => e (Sum.inl.inj q)
    rw [decide_eq_false h]
    exact (beq_eq_false_iff_ne.mpr e).symm
theorem key_rr (a b : Str) : decide ((Sum.inr a : Key) = Sum.inr b) = decide (a = b) := by
  by_cases e : a = b
  · subst e; simp
  · have h : ¬ (Sum.inr a : Key) = Sum.inr b := fun q => e (Sum.inr.inj q)
    rw [decide_eq_false h, decide_eq_false e]
theorem key_lr (a : Int) (b : Str) : decide ((Sum.inl a : Key) = Sum.inr b) = false := decide_eq_false (fun q => nomatch q)
theorem key_rl (a : Str) (b : Int) : decide ((Sum.inr a : Key) = Sum.inl b) = false := decide_eq_false (fun q => nomatch q)

def mixKind (prog : Program) (w : World) : PySem.KeyKind prog w Key where
  is := keyIs
  hash := keyH w
  inj := fun v a b ha hb => by
    rcases keyIs_shape ha with ⟨i, t, rfl, rfl⟩ | ⟨x, t, rfl, rfl⟩
    · rcases keyIs_shape hb with ⟨j, u, rfl, e⟩ | ⟨y, u, rfl, e⟩
      · injection e with e1 _; rw [e1]
      · exact nomatch e
    · rcases keyIs_shape hb with ⟨j, u, rfl, e⟩ | ⟨y, u, rfl, e⟩
      · exact nomatch e
      · injection e with e1 _; rw [e1]
  byValue := fun k v h => by
    rcases keyIs_shape h with ⟨i, t, rfl, rfl⟩ | ⟨x, t, rfl, rfl⟩ <;> rfl
  pyHash := fun hv h => by
    rcases keyIs_shape hv with ⟨i, t, rfl, rfl⟩ | ⟨x, t, rfl, rfl⟩
    · exact wpAny_pyHash_int h
    · exact wpAny_pyHash_str h
  eqBool := fun hu hv h => by
    rcases keyIs_shape hu with ⟨i, t, rfl, rfl⟩ | ⟨x, t, rfl, rfl⟩
    · rcases keyIs_shape hv with ⟨j, u, rfl, rfl⟩ | ⟨y, u, rfl, rfl⟩
      · rw [key_ll] at h; exact wpAny_eqBool_int h
      · rw [key_lr] at h; exact SeqAt.EqAt.int_str i t y u _ _ _ _ h
    · rcases keyIs_shape hv with ⟨j, u, rfl, rfl⟩ | ⟨y, u, rfl, rfl⟩
      · rw [key_rl] at h; exact SeqAt.EqAt.str_int x t j u _ _ _ _ h
      · rw [key_rr] at h; exact wpAny_eqBool_str h
  «strs» := fun k x t v h => by
    rcases keyIs_shape h with ⟨i, u, rfl, e⟩ | ⟨y, u, rfl, e⟩
    · exact nomatch e
    · injection e with e1 _
      subst e1
      cases v <;> rfl

theorem mixKind_int (prog : Program) (w : World) (i : Int) (t : Tok) : (mixKind prog w).is (.inl i) (.int i t) = true := keyIs_int i t
theorem mixKind_str (prog : Program) (w : World) (x : Str) (t : Tok) : (mixKind prog w).is (.inr x) (.str x t) = true := keyIs_str x t
end L2

namespace L2
open PySem PySem.Spec PyProof.Rows

/-- a value, without the heap -/
inductive V where
  | non | bl (b : Bool) | int (i : Int) | str (x : Str) | byt (b : Array UInt8) | flt (b : UInt64) | ref (a : Addr) | ty (n : String)
  deriving DecidableEq

def RelV : V → Value → Prop
  | .non, u => u = Value.none
  | .bl b, u => u = Value.bool b
  | .int i, u => ∃ t, u = Value.int i t
  | .str x, u => ∃ t, u = Value.str x t
  | .byt b, u => ∃ t, u = Value.bytes b t
  | .flt b, u => ∃ t, u = Value.float b t
  | .ref a, u => u = Value.ref a
  | .ty n, u => u = Value.type n

abbrev Vals : List V → List Value → Prop := Paired RelV
theorem Vals.length {xs : List V} {us : List Value} (r : Vals xs us) : xs.length = us.length := Paired.length r
theorem Vals.get : ∀ {xs : List V} {us : List Value} {i : Nat} {x : V}, Vals xs us → xs[i]? = some x → ∃ u, us[i]? = some u ∧ RelV x u
  | _, _, _, _, .nil, e => by simp at e
  | _, _, 0, _, .cons r _, e => by simp at e; subst e; exact ⟨_, rfl, r⟩
  | _, _, i + 1, x, .cons _ t, e => by
    obtain ⟨u, h1, h2⟩ := Vals.get (i := i) (x := x) t (by simpa using e)
    exact ⟨u, by simpa using h1, h2⟩
theorem Vals.append : ∀ {xs ys : List V} {us ws : List Value}, Vals xs us → Vals ys ws → Vals (xs ++ ys) (us ++ ws)
  | _, _, _, _, .nil, s => s
  | _, _, _, _, .cons r t, s => .cons r (Vals.append t s)
theorem Vals.take : ∀ {xs : List V} {us : List Value} (n : Nat), Vals xs us → Vals (xs.take n) (us.take n)
  | _, _, 0, _ => .nil
  | _, _, _ + 1, .nil => .nil
  | _, _, n + 1, .cons r t => .cons r (Vals.take n t)
theorem Vals.drop : ∀ {xs : List V} {us : List Value} (n : Nat), Vals xs us → Vals (xs.drop n) (us.drop n)
  | _, _, 0, r => r
  | _, _, _ + 1, .nil => .nil
  | _, _, n + 1, .cons _ t => Vals.drop n t
def RelO : Option V → Option Value → Prop
  | some v, some u => RelV v u
  | none, none => True
  | _, _ => False
def KV {κ : Type} : List (κ × V) → List (κ × Value) → Prop := Paired fun (p : κ × V) (q : κ × Value) => p.1 = q.1 ∧ RelV p.2 q.2

/-- a key of a dict (00_mix): an int or a text -/
def kV : Key → V
  | .inl i => .int i
  | .inr x => .str x

/-- what stands at a tracked address -/
inductive HO where
  /-- a list -/
  | lst (xs : List V)
  /-- a tuple (never changes) -/
  | tup (xs : List V)
  /-- a dict whose keys are ints and texts; one whose keys are tuples of ints and texts (the empty one is both) -/
  | dK (kvs : List (Key × V)) | dT (kvs : List (List Key × V))
  /-- a set of ints: its members, its size -/
  | set (S : Int → Bool) (n : Nat)
  /-- an instance of the class at C, its dict at dx, its attributes -/
  | ins (C dx : Addr) (fs : List (Str × V))
  /-- the dict of the instance at x -/
  | own (x : Addr)
  /-- the dict of an exception -/
  | xd (fs : List (Str × V))
  /-- a bound method, f of x -/
  | met (f x : Addr)
  /-- a range object lo, lo + 1, .. below hi -/
  | rng (lo hi : Int)
  /-- a thing that is known to the object (the script; a dict while a loop walks it): read, never written while it is so -/
  | frz (o : Obj) (u : HO)
  /-- a code object's table -/
  | tbl (ps : Array Value)
  /-- any other thing, by what is true of its one object (a def of one's own: SetO a S n := HO.ext fun h => ..) -/
  | ext (φ : Heap → Prop)

abbrev Hp := Addr → Option HO
def upd (H : Hp) (a : Addr) (o : HO) : Hp := fun b => if b = a then some o else H b
theorem upd_same {H : Hp} {a : Addr} {o : HO} : upd H a o a = some o := by unfold upd; rw [if_pos rfl]
theorem upd_ne {H : Hp} {a b : Addr} {o : HO} (h : b ≠ a) : upd H a o b = H b := by unfold upd; rw [if_neg h]
/-- two objects of different content stand apart -/
theorem ne_of {H : Hp} {a b : Addr} {o u : HO} (h : H a = some o) (h' : H b = some u) (d : o ≠ u) : a ≠ b := by
  intro e; subst e; rw [h] at h'; exact d (Option.some.inj h')
theorem ne_of_none {H : Hp} {a b : Addr} {o : HO} (h : H a = some o) (h' : H b = none) : a ≠ b := by
  intro e; subst e; rw [h] at h'; cases h'

section
variable (P : Program) (w : World)
def ObjOk (H : Hp) (h : Heap) (a : Addr) : HO → Prop
  | .lst xs => xs.length ≤ sizeLine ∧ ∃ (its : List Value) (n : Nat), Vals xs its ∧ h.get? a = some { cls := .type "list", data := .seq its.toArray n }
  | .tup xs => xs.length ≤ sizeLine ∧ ∃ its : List Value, Vals xs its ∧ IsTup h a its.toArray
  | .dK kvs => kvs.length ≤ sizeLine ∧ (a == sysModules) = false ∧ ∃ vs, KV kvs vs ∧ h.DictOf (mixKind P w) a vs
  | .dT kvs => kvs.length ≤ sizeLine ∧ (a == sysModules) = false ∧ ∃ xs : List (List Key × Addr × Value),
      Paired (fun (p : List Key × V) (q : List Key × Addr × Value) => p.1 = q.1 ∧ H q.2.1 = some (.tup (p.1.map kV)) ∧ RelV p.2 q.2.2) kvs xs ∧
      ∃ o es ep, h.get? a = some o ∧ o.ExactDict ∧ o.data = .dict es ep ∧ es.toList = xs.map (entryOfKey (tupleKind (mixKind P w))) ∧ (xs.map (·.1)).Nodup
  | .set S n => h.SetOf (intKind P w) a S n
  | .ins C dx fs => H dx = some (.own a) ∧ fs.length ≤ 1000 ∧ dx ≠ a ∧ h.get? a = some (PySem.W.instObj C dx) ∧
      ∃ mA, h.Ns1 dx mA ∧ (∀ f, RelO (fs.lookup f) (mA f)) ∧ PySem.Within mA (fs.map (·.1))
  | .own _ => ∃ o, h.get? a = some o
  | .xd fs => ∃ mA, h.Ns1 a mA ∧ ∀ f, RelO (fs.lookup f) (mA f)
  | .rng lo hi => ∃ t u v, h.get? a = some { cls := .type "range", data := .fields #[.int lo t, .int hi u, .int 1 v] }
  | .frz o u => h.get? a = some o ∧ ObjOk H h a u
  | .tbl ps => h.get? a = some { cls := .none, data := .fields ps }
  | .met f x => h.get? a = some (PySem.W.methodObj (.ref f) (.ref x))
  | .ext φ => φ h ∧ (∃ o, h.get? a = some o) ∧ ∀ h1 h2 : Heap, φ h1 → (∀ o, h1.get? a = some o → h2.get? a = some o) → φ h2
/-- the abstract heap is held -/
def HOk (H : Hp) (h : Heap) : Prop := ∀ a o, H a = some o → ObjOk P w H h a o
end

section
variable {P : Program} {w : World} {H H' : Hp} {h h' : Heap} {a : Addr} {o : HO}
theorem ObjOk.lt (x : ObjOk P w H h a o) : a < h.objs.size := by
  cases o with
  | lst xs => obtain ⟨_, _, _, _, e⟩ := x; exact Heap.lt_size e
  | tup xs => obtain ⟨_, _, _, p⟩ := x; exact p.lt
  | dK kvs => obtain ⟨_, _, _, _, o, _, _, e, _⟩ := x; exact Heap.lt_size e
  | dT kvs => obtain ⟨_, _, _, _, o, _, _, e, _⟩ := x; exact Heap.lt_size e
  | set S n => obtain ⟨o, _, _, _, e, _⟩ := x; exact Heap.lt_size e
  | ins C dx fs => obtain ⟨_, _, _, e, _⟩ := x; exact Heap.lt_size e
  | own y => obtain ⟨_, e⟩ := x; exact Heap.lt_size e
  | xd fs => obtain ⟨_, ⟨_, _, _, e, _⟩, _⟩ := x; exact Heap.lt_size e
  | rng lo hi => obtain ⟨_, _, _, e⟩ := x; exact Heap.lt_size e
  | frz ob u => obtain ⟨e, _⟩ := x; exact Heap.lt_size e
  | tbl ps => exact Heap.lt_size (show h.get? a = some _ from x)
  | met f y => exact Heap.lt_size (show h.get? a = some _ from x)
  | ext φ => obtain ⟨_, ⟨_, e⟩, _⟩ := x; exact Heap.lt_size e
theorem Paired.mapP {α β : Type} {F G : α → β → Prop} : ∀ {l₁ : List α} {l₂ : List β}, Paired F l₁ l₂ → (∀ a b, F a b → G a b) → Paired G l₁ l₂
  | _, _, .nil, _ => .nil
  | _, _, .cons r t, f => .cons (f _ _ r) (Paired.mapP t f)
/-- what an object's description leans on: its own object, its own dict, the tuples -/
theorem ObjOk.stay (x : ObjOk P w H h a o) (k : ∀ b u, (b = a ∨ H b = some (.own a)) → h.get? b = some u → h'.get? b = some u)
    (ho : ∀ b, H b = some (.own a) → H' b = some (.own a)) (ht : ∀ b xs, H b = some (.tup xs) → H' b = some (.tup xs)) : ObjOk P w H' h' a o := by
  induction o with
  | lst xs => obtain ⟨z, its, n, r, e⟩ := x; exact ⟨z, its, n, r, k _ _ (.inl rfl) e⟩
  | tup xs => obtain ⟨z, its, r, ob, e, c⟩ := x; exact ⟨z, its, r, ob, k _ _ (.inl rfl) e, c⟩
  | dK kvs => obtain ⟨z, y, vs, r, ob, es, ep, e, c⟩ := x; exact ⟨z, y, vs, r, ob, es, ep, k _ _ (.inl rfl) e, c⟩
  | dT kvs =>
    obtain ⟨z, y, xs, r, ob, es, ep, e, c⟩ := x
    exact ⟨z, y, xs, Paired.mapP r fun p q z => ⟨z.1, ht _ _ z.2.1, z.2.2⟩, ob, es, ep, k _ _ (.inl rfl) e, c⟩
  | set S n => obtain ⟨ob, es, ep, t, e, c⟩ := x; exact ⟨ob, es, ep, t, k _ _ (.inl rfl) e, c⟩
  | ins C dx fs =>
    obtain ⟨d, z, ne, e, mA, ⟨od, es, ep, e2, c⟩, r⟩ := x
    exact ⟨ho _ d, z, ne, k _ _ (.inl rfl) e, mA, ⟨od, es, ep, k _ _ (.inr d) e2, c⟩, r⟩
  | own y => obtain ⟨ob, e⟩ := x; exact ⟨ob, k _ _ (.inl rfl) e⟩
  | xd fs => obtain ⟨mA, ⟨od, es, ep, e, c⟩, r⟩ := x; exact ⟨mA, ⟨od, es, ep, k _ _ (.inl rfl) e, c⟩, r⟩
  | rng lo hi => obtain ⟨t, u, v, e⟩ := x; exact ⟨t, u, v, k _ _ (.inl rfl) e⟩
  | frz ob u ih => obtain ⟨e, q⟩ := x; exact ⟨k _ _ (.inl rfl) e, ih q⟩
  | tbl ps =>
    have e : h.get? a = some { cls := .none, data := .fields ps } := x
    show h'.get? a = some { cls := .none, data := .fields ps }
    exact k a _ (.inl rfl) e
  | met f y =>
    have e : h.get? a = some (PySem.W.methodObj (.ref f) (.ref y)) := x
    show h'.get? a = some (PySem.W.methodObj (.ref f) (.ref y))
    exact k a _ (.inl rfl) e
  | ext φ => obtain ⟨p, ⟨o, e⟩, st⟩ := x; exact ⟨st _ _ p fun o q => k _ _ (.inl rfl) q, ⟨o, k _ _ (.inl rfl) e⟩, st⟩
theorem HOk.lt (x : HOk P w H h) (e : H a = some o) : a < h.objs.size := (x a o e).lt
theorem HOk.fresh (x : HOk P w H h) (e : h.objs.size ≤ a) : H a = none := by
  cases q : H a with
  | none => rfl
  | some u => exact absurd (Nat.lt_of_lt_of_le (x.lt q) e) (Nat.lt_irrefl _)
/-- every object of the heap is kept -/
theorem HOk.kept (x : HOk P w H h) (k : ∀ b u, h.get? b = some u → h'.get? b = some u) : HOk P w H h' := fun a o e =>
  (x a o e).stay (fun b u _ q => k b u q) (fun _ q => q) fun _ _ q => q
/-- a new object is laid and tracked -/
theorem HOk.laid (x : HOk P w H h) (k : ∀ b u, h.get? b = some u → h'.get? b = some u) (hp : h.objs.size ≤ a) (new : ObjOk P w (upd H a o) h' a o) : HOk P w (upd H a o) h' := fun b u e => by
  have hn := x.fresh hp
  by_cases hb : b = a
  · subst hb; rw [upd_same] at e; cases e; exact new
  · rw [upd_ne hb] at e
    exact (x b u e).stay (fun c v _ q => k c v q) (fun c q => by rw [upd_ne (ne_of_none q hn)]; exact q) fun c xs q => by rw [upd_ne (ne_of_none q hn)]; exact q
end

/-- what may be read as u: it is u, or a known u -/
def Rd (H : Hp) (a : Addr) (u : HO) : Prop := H a = some u ∨ ∃ o, H a = some (.frz o u)
theorem Rd.ok {P : Program} {w : World} {H : Hp} {h : Heap} {a : Addr} {u : HO} (r : Rd H a u) (x : HOk P w H h) : ObjOk P w H h a u := by
  rcases r with r | ⟨o, r⟩
  · exact x a u r
  · obtain ⟨_, q⟩ := x a _ r
    exact q
/-- what may be written -/
def Mut : Option HO → Prop
  | some (.lst _) => True
  | some (.dK _) => True
  | some (.dT _) => True
  | some (.set _ _) => True
  | some (.ins _ _ _) => True
  | some (.ext _) => True
  | _ => False
section
variable {P : Program} {w : World} {H : Hp} {h h' : Heap} {x e : Addr} {o' : HO}
/-- the object at e is changed: x itself, or the dict of the instance x -/
theorem HOk.write (ok : HOk P w H h) (mu : Mut (H x)) (he : e = x ∨ H e = some (.own x)) (k : ∀ b u, b ≠ e → h.get? b = some u → h'.get? b = some u) (heo : ∃ u, h'.get? e = some u)
    (new : ObjOk P w (upd H x o') h' x o') : HOk P w (upd H x o') h' := fun b u q => by
  have nown : ∀ c y, H c = some (.own y) → c ≠ x := fun c y r z => by subst z; rw [r] at mu; exact mu
  have ntup : ∀ c xs, H c = some (.tup xs) → c ≠ x := fun c xs r z => by subst z; rw [r] at mu; exact mu
  by_cases hb : b = x
  · subst hb; rw [upd_same] at q; cases q; exact new
  · rw [upd_ne hb] at q
    by_cases hbe : b = e
    · have q' : H b = some (.own x) := by
        rcases he with z | z
        · exact absurd (hbe.trans z) hb
        · rw [hbe]; exact z
      rw [q] at q'; cases q'
      obtain ⟨v, hv⟩ := heo
      exact ⟨v, by rw [hbe]; exact hv⟩
    · refine (ok b u q).stay (fun c v hc r => k c v ?_ r) (fun c r => by rw [upd_ne (nown c b r)]; exact r) fun c xs r => by rw [upd_ne (ntup c xs r)]; exact r
      rcases hc with rfl | hc
      · exact hbe
      · rintro rfl
        rcases he with z | z
        · exact nown c b hc z
        · rw [hc] at z; cases z; exact hb rfl
end

/-! ### kept unless tracked; of the frames at fs (the callers') the slots may change (an exception that passes writes there); of the records at ex (iterators) nothing is said -/
structure Un (fs ex : List Addr) (H H' : Hp) (h h' : Heap) : Prop where
  keep : ∀ b o, h.get? b = some o → H b = none → b ∉ fs → b ∉ ex → h'.get? b = some o
  slot : ∀ b o, h.get? b = some o → H b = none → b ∈ fs → b ∉ ex → ∃ sl, h'.get? b = some { o with slots := sl }
  free : ∀ b o, h.get? b = some o → H b = none → b ∉ ex → H' b = none
  there : ∀ b o, h.get? b = some o → b ∉ ex → ∃ o', h'.get? b = some o'
  tups : ∀ b xs, H b = some (.tup xs) → H' b = some (.tup xs)
  frzs : ∀ b o u, H b = some (.frz o u) → H' b = some (.frz o u)
  tbls : ∀ b ps, H b = some (.tbl ps) → ∃ more, H' b = some (.tbl (ps ++ more))
section
variable {fs fs' ex ex' : List Addr} {H H1 H2 : Hp} {h h1 h2 h' : Heap} {a x e : Addr} {o : HO}
theorem Un.any (u : Un fs ex H H1 h h1) {b : Addr} {ob : Obj} (q : h.get? b = some ob) (n : H b = none) (hx : b ∉ ex) : ∃ sl, h1.get? b = some { ob with slots := sl } := by
  by_cases hb : b ∈ fs
  · exact u.slot b ob q n hb hx
  · exact ⟨ob.slots, u.keep b ob q n hb hx⟩
theorem Un.kept (k : ∀ b u, h.get? b = some u → h'.get? b = some u) : Un fs ex H H h h' :=
  ⟨fun b ob q _ _ _ => k b ob q, fun b ob q _ _ _ => ⟨ob.slots, k b ob q⟩, fun _ _ _ n _ => n, fun b ob q _ => ⟨ob, k b ob q⟩, fun _ _ q => q, fun _ _ _ q => q, fun _ ps q => ⟨#[], by rw [q]; simp⟩⟩
theorem Un.refl : Un fs ex H H h h := Un.kept fun _ _ q => q
theorem Un.laid (k : ∀ b u, h.get? b = some u → h'.get? b = some u) (hp : h.objs.size ≤ a) (hn : H a = none) : Un fs ex H (upd H a o) h h' where
  keep := fun b u q _ _ _ => k b u q
  slot := fun b u q _ _ _ => ⟨u.slots, k b u q⟩
  free := fun b u q n _ => by rw [upd_ne (Nat.ne_of_lt (Nat.lt_of_lt_of_le (Heap.lt_size q) hp))]; exact n
  there := fun b u q _ => ⟨u, k b u q⟩
  tups := fun b xs q => by rw [upd_ne (ne_of_none q hn)]; exact q
  frzs := fun b u xs q => by rw [upd_ne (ne_of_none q hn)]; exact q
  tbls := fun b ps q => ⟨#[], by rw [upd_ne (ne_of_none q hn), q]; simp⟩
theorem Un.write (mu : Mut (H x)) (he : e = x ∨ H e = some (.own x)) (k : ∀ b u, b ≠ e → h.get? b = some u → h'.get? b = some u) (heo : ∃ u, h'.get? e = some u) : Un fs ex H (upd H x o) h h' := by
  have hx : ∀ b, H b = none → b ≠ x := fun b n z => by subst z; rw [n] at mu; exact mu
  have hb : ∀ b, H b = none → b ≠ e := fun b n z => by
    subst z
    rcases he with r | r
    · exact hx b n r
    · rw [n] at r; cases r
  have hm : ∀ b u, H b = some u → ¬ Mut (some u) → b ≠ x := fun b u q nm z => by subst z; rw [q] at mu; exact nm mu
  refine ⟨fun b u q n _ _ => k b u (hb b n) q, fun b u q n _ _ => ⟨u.slots, k b u (hb b n) q⟩, fun b u q n _ => by rw [upd_ne (hx b n)]; exact n, fun b u q _ => ?_,
    fun b xs q => by rw [upd_ne (hm b _ q fun z => z)]; exact q, fun b u xs q => by rw [upd_ne (hm b _ q fun z => z)]; exact q, fun b ps q => ⟨#[], by rw [upd_ne (hm b _ q fun z => z), q]; simp⟩⟩
  by_cases hbe : b = e
  · subst hbe; exact heo
  · exact ⟨u, k b u hbe q⟩
end

/-! ### the heap without what is tracked -/
def trk (h : Heap) (H : Hp) : List Addr := (List.range h.objs.size).filter fun a => (H a).isSome
def hidT (h : Heap) (H : Hp) : Heap := PySem.W.hideAll h (trk h H)
theorem hidT_size (h : Heap) (H : Hp) : (hidT h H).objs.size = h.objs.size := PySem.W.hideAll_size _ _
theorem hidT_get {h : Heap} {H : Hp} {b : Addr} {o : Obj} (e : h.get? b = some o) (n : H b = none) : (hidT h H).get? b = some o :=
  PySem.W.hideAll_get _ e fun hm => by
    have q : (H b).isSome = true := (List.mem_filter.mp hm).2
    rw [n] at q; simp at q
theorem of_hidT {h : Heap} {H : Hp} {b : Addr} {o : Obj} (e : (hidT h H).get? b = some o) : h.get? b = some o ∧ H b = none := by
  have e' : h.get? b = some o := PySem.W.of_hideAll (trk h H) e
  refine ⟨e', ?_⟩
  cases q : H b with
  | none => rfl
  | some x =>
    have hm : b ∈ trk h H := List.mem_filter.mpr ⟨List.mem_range.mpr (Heap.lt_size e'), by simp [q]⟩
    have z : (hidT h H).get? b = none := PySem.W.hideAll_none (trk h H) hm
    rw [z] at e; cases e

/-! ### OpenK's ledger, filled with every new object but one -/
def allNews (g h : Heap) (L : Addr) : List (Addr × Obj) := (List.range h.objs.size).filterMap fun a => if a = L ∨ (g.get? a).isSome = true then none else (h.get? a).map fun o => (a, o)
def rest (g h : Heap) (L d : Addr) : List (Addr × Obj) := (allNews g h L).filter fun p => decide (p.1 ≠ d)
end L2

namespace L2
open PySem PySem.Spec PyProof.Rows

/-- the module's facts, over the base: the heap at the law's entry without what is tracked there -/
structure Mod (K : PySem.W.Frag) (mg : Str → Option Value) (base : Heap) : Prop where
  kin : K.In base
  glob : base.Ns mainGlobals mg
  blt : ∃ mb, base.Ns builtinsNs mb ∧ ∀ x : Str, x ≠ "__name__" → mb x = bootBuiltins x
  nolimit : base.NoLimit

/-- the context: a def's body (or a comprehension's block) running. base: fixed through the whole law; s₀, H₀: the entry; outer: the frames whose slots others may change (a def's callers); stack: all frames that run;
   ex: iterators that were made ahead of the entry and are walked here (a comprehension's); fn: the names whose cells were made at the entry (a def: all; a comprehension's block: its own); calm: not within an except suite; pn: pins that every state bears; xe: what is wanted of an exception that leaves the code -/
structure Cx where
  prog : Program
  w : World
  K : PySem.W.Frag
  mg : Str → Option Value
  base : Heap
  A : Around
  N : List Str
  s₀ : Shared
  H₀ : Hp
  env : Env
  outer : List Env
  stack : List Env
  ex : List Addr
  fn : Str → Bool
  calm : Bool
  pn : List (Addr × Obj)
  xe : Value → Shared → Prop
/-- the callers' frames -/
def frs (l : List Env) : List Addr := l.filterMap (·.frame)
abbrev Cx.fs (X : Cx) : List Addr := frs X.outer

def Vis (sc : Scope) (x : Str) : Prop := sc.names.lookup x = some .local ∨ sc.names.lookup x = some .cell ∨ sc.names.lookup x = some .free
def Loc (sc : Scope) (x : Str) : Prop := sc.names.lookup x = some .local ∨ sc.names.lookup x = some .cell
def Look (env : Env) (h : Heap) (m : Str → Option Value) (x : Str) (u : Value) : Prop :=
  (env.kindOf x = some .local ∧ m x = some u) ∨ ((env.kindOf x = some .cell ∨ env.kindOf x = some .free) ∧ ∃ c, env.cells.lookup x = some c ∧ h.IsCell c (some u))

structure Cx.Ok (X : Cx) : Prop where
  mod : Mod X.K X.mg X.base
  kind : X.env.scope.kind = .function
  glob : X.env.globals = mainGlobals
  blt : X.env.builtins = builtinsNs
  above : X.s₀.heap.objs.size ≤ X.env.locals
  inj : ∀ x y c, X.env.cells.lookup x = some c → X.env.cells.lookup y = some c → x = y
  has : ∀ x, (X.env.kindOf x = some .cell ∨ X.env.kindOf x = some .free) → ∃ c, X.env.cells.lookup x = some c
  cab : ∀ x c, X.fn x = true → X.env.cells.lookup x = some c → X.s₀.heap.objs.size ≤ c
  hd : X.calm = true → X.A.handled = none
  frames : X.A.frames = some X.stack
  stk : X.stack = X.outer ∨ (X.stack = X.env :: X.outer ∧ X.env.frame = some X.env.locals)
  exf : ∀ b ∈ X.ex, b ≠ X.env.locals ∧ ∀ x c, X.env.cells.lookup x = some c → c ≠ b
  bs : ∀ b o, X.base.get? b = some o → X.s₀.heap.get? b = some o ∧ X.H₀ b = none
  bsz : X.base.objs.size ≤ X.s₀.heap.objs.size
  noex : ∀ b o, X.base.get? b = some o → b ∉ X.ex
  exfs : ∀ b ∈ X.ex, b ∉ X.fs
  funs : X.s₀.heap.FunFrames X.base X.outer
  frf : ∀ b ∈ X.fs, X.H₀ b = none

structure Inv (X : Cx) (pins : List (Addr × Obj)) (σ : List (Option V)) (H : Hp) (s : Shared) : Prop where
  ok : X.Ok
  os : s.os = X.s₀.os
  bare : AllBare s.gens
  base : Un X.fs X.ex X.H₀ H X.s₀.heap s.heap
  loc : ∃ m, s.heap.Ns X.env.locals m ∧ ∀ (i : Nat) (x : Str) (v : V), X.N[i]? = some x → σ[i]? = some (some v) → Vis X.env.scope x → ∃ u, RelV v u ∧ Look X.env s.heap m x u
  cell : ∀ x c, X.env.cells.lookup x = some c → ∃ v, s.heap.IsCell c v
  free : H X.env.locals = none
  freeC : ∀ x c, X.env.cells.lookup x = some c → H c = none
  pin : ∀ p ∈ X.pn ++ pins, s.heap.get? p.1 = some p.2 ∧ H p.1 = none ∧ p.1 ≠ X.env.locals ∧ p.1 ∉ X.fs ∧ ∀ v, p.2.data ≠ .cell v
  hok : HOk X.prog X.w H s.heap
  len : σ.length = X.N.length

section
variable {X : Cx} {pins : List (Addr × Obj)} {σ : List (Option V)} {H H' : Hp} {s : Shared} {h' : Heap}

theorem Cx.Ok.nofr (ok : X.Ok) {b : Addr} {o : Obj} (e : X.base.get? b = some o) : b ∉ X.fs := fun hb => by
  have := (ok.funs.mem hb).1
  rw [e] at this; cases this
theorem Inv.bs (I : Inv X pins σ H s) : ∀ b o, X.base.get? b = some o → s.heap.get? b = some o ∧ H b = none := fun b o e =>
  ⟨I.base.keep b o (I.ok.bs b o e).1 (I.ok.bs b o e).2 (I.ok.nofr e) (I.ok.noex b o e), I.base.free b o (I.ok.bs b o e).1 (I.ok.bs b o e).2 (I.ok.noex b o e)⟩
theorem Inv.bk (I : Inv X pins σ H s) : ∀ b o, X.base.get? b = some o → s.heap.get? b = some o := fun b o e => (I.bs b o e).1
theorem Inv.mod (I : Inv X pins σ H s) : Mod X.K X.mg X.base := I.ok.mod
theorem Inv.kIn (I : Inv X pins σ H s) : X.K.In s.heap := I.ok.mod.kin.keeps I.bk
theorem Inv.lt (I : Inv X pins σ H s) : X.env.locals < s.heap.objs.size := let ⟨_, hn, _⟩ := I.loc; hn.lt
theorem Inv.sz (I : Inv X pins σ H s) : X.s₀.heap.objs.size ≤ s.heap.objs.size := Nat.le_trans I.ok.above (Nat.le_of_lt I.lt)
theorem Inv.nofs (I : Inv X pins σ H s) {a : Addr} (h : s.heap.objs.size ≤ a) : a ∉ X.fs := fun hb => by
  obtain ⟨_, o, ho, _⟩ := I.ok.funs.mem hb
  exact absurd (Nat.lt_of_lt_of_le (Heap.lt_size ho) (Nat.le_trans I.sz h)) (Nat.lt_irrefl _)
theorem Inv.cne (I : Inv X pins σ H s) : ∀ x c, X.env.cells.lookup x = some c → c ≠ X.env.locals := fun x c e z => by
  obtain ⟨v, o, ho, hd⟩ := I.cell x c e
  obtain ⟨m, ⟨o', es, ep, ho', hd', _⟩, _⟩ := I.loc
  rw [z, ho'] at ho; cases ho; rw [hd'] at hd; cases hd
theorem Inv.funs (I : Inv X pins σ H s) : s.heap.FunFrames X.base X.outer := by
  have all : ∀ (l : List Env), (∀ b ∈ frs l, b ∈ X.fs) → X.s₀.heap.FunFrames X.base l → s.heap.FunFrames X.base l := by
    intro l
    induction l with
    | nil => intro _ _; trivial
    | cons env r ih =>
      intro hs hl
      obtain ⟨hk, ⟨L, o, hf, hn, ho, hd⟩, hr⟩ := hl
      have hL : L ∈ X.fs := hs L (by unfold frs; rw [List.filterMap_cons, hf]; exact List.mem_cons_self)
      obtain ⟨sl, e⟩ := I.base.slot L o ho (I.ok.frf L hL) hL fun z => I.ok.exfs L z hL
      exact ⟨hk, ⟨L, _, hf, hn, e, hd⟩, ih (fun b hb => hs b (by unfold frs; rw [List.filterMap_cons, hf]; exact List.mem_cons_of_mem _ hb)) hr⟩
  exact all X.outer (fun _ hb => hb) I.ok.funs

/-- the frames that run, for a call -/
theorem Inv.stack (I : Inv X pins σ H s) : s.heap.FunFrames X.base X.stack := by
  rcases I.ok.stk with e | ⟨e, hf⟩
  · rw [e]; exact I.funs
  · rw [e]
    obtain ⟨m, hn, _⟩ := I.loc
    refine .cons (by rw [I.ok.kind]; decide) hf hn ?_ I.funs
    exact Heap.get?_none_of_le (Nat.le_trans I.ok.bsz I.ok.above)
theorem Inv.stkSub (I : Inv X pins σ H s) : ∀ b ∈ frs X.stack, b ∈ X.env.locals :: X.fs := fun b hb => by
  rcases I.ok.stk with e | ⟨e, hf⟩
  · rw [e] at hb; exact List.mem_cons_of_mem _ hb
  · rw [e] at hb
    unfold frs at hb
    rw [List.filterMap_cons, hf] at hb
    exact hb
theorem Inv.stkFree (I : Inv X pins σ H s) : ∀ b ∈ frs X.stack, H b = none := fun b hb => by
  rcases List.mem_cons.mp (I.stkSub b hb) with e | hb
  · rw [e]; exact I.free
  · obtain ⟨_, o, ho, _⟩ := I.ok.funs.mem hb
    exact I.base.free b o ho (I.ok.frf b hb) fun z => I.ok.exfs b z hb

/-- THE STEP: the untracked objects but the frame and the records at ch are kept (the callers' frames up to slots), the frame's map is kept, the new abstract heap is held -/
theorem Inv.step {g' : Array GenState} {t' : Nat} {d' : Drawn} {ch : List Addr} (I : Inv X pins σ H s)
    (hch : ∀ b ∈ ch, (b ∈ X.ex ∨ X.s₀.heap.objs.size ≤ b) ∧ b ≠ X.env.locals ∧ (∀ x c, X.env.cells.lookup x = some c → c ≠ b) ∧ ∀ p ∈ X.pn ++ pins, p.1 ≠ b)
    (keep : ∀ b o, b ≠ X.env.locals → b ∉ X.fs → b ∉ ch → s.heap.get? b = some o → H b = none → h'.get? b = some o)
    (slot : ∀ b o, b ≠ X.env.locals → b ∈ X.fs → b ∉ ch → s.heap.get? b = some o → H b = none → ∃ sl, h'.get? b = some { o with slots := sl }) (free : ∀ b o, b ∉ ch → s.heap.get? b = some o → H b = none → H' b = none)
    (there : ∀ b o, b ∉ ch → s.heap.get? b = some o → ∃ o', h'.get? b = some o')
    (tups : ∀ b xs, H b = some (.tup xs) → H' b = some (.tup xs)) (frzs : ∀ b o u, H b = some (.frz o u) → H' b = some (.frz o u)) (tbls : ∀ b ps, H b = some (.tbl ps) → ∃ more, H' b = some (.tbl (ps ++ more)))
    (ns : ∀ m, s.heap.Ns X.env.locals m → h'.Ns X.env.locals m) (hok : HOk X.prog X.w H' h') (hg : AllBare g') :
    Inv X pins σ H' { s with heap := h', gens := g', drawn := d', toks := t' } := by
  have neL : ∀ b o, X.s₀.heap.get? b = some o → b ≠ X.env.locals := fun b o e => Nat.ne_of_lt (Nat.lt_of_lt_of_le (Heap.lt_size e) I.ok.above)
  have neC : ∀ b o, X.s₀.heap.get? b = some o → b ∉ X.ex → b ∉ ch := fun b o e hx hb => by
    rcases (hch b hb).1 with z | z
    · exact hx z
    · exact absurd (Nat.lt_of_lt_of_le (Heap.lt_size e) z) (Nat.lt_irrefl _)
  have cellK : ∀ x c, X.env.cells.lookup x = some c → ∀ v, s.heap.IsCell c v → h'.IsCell c v := fun x c e v ⟨o, ho, hd⟩ => by
    have nch : c ∉ ch := fun z => (hch c z).2.2.1 x c e rfl
    by_cases hc : c ∈ X.fs
    · obtain ⟨sl, q⟩ := slot c o (I.cne x c e) hc nch ho (I.freeC x c e)
      exact ⟨_, q, hd⟩
    · exact ⟨o, keep c o (I.cne x c e) hc nch ho (I.freeC x c e), hd⟩
  refine ⟨I.ok, I.os, hg, ⟨fun b o e n hb hx => ?_, fun b o e n hb hx => ?_, fun b o e n hx => ?_, fun b o e hx => ?_, fun b xs e => tups b xs (I.base.tups b xs e), fun b o xs e => frzs b o xs (I.base.frzs b o xs e), fun b ps e => ?_⟩, ?_, fun x c e => ?_, ?_, fun x c e => ?_, fun p hp => ?_, hok, I.len⟩
  · exact keep b o (neL b o e) hb (neC b o e hx) (I.base.keep b o e n hb hx) (I.base.free b o e n hx)
  · obtain ⟨sl, e1⟩ := I.base.slot b o e n hb hx
    obtain ⟨sl', e2⟩ := slot b _ (neL b o e) hb (neC b o e hx) e1 (I.base.free b o e n hx)
    exact ⟨sl', e2⟩
  · obtain ⟨o', e1⟩ := I.base.there b o e hx
    exact free b o' (neC b o e hx) e1 (I.base.free b o e n hx)
  · obtain ⟨o', e1⟩ := I.base.there b o e hx
    exact there b o' (neC b o e hx) e1
  · obtain ⟨m1, e1⟩ := I.base.tbls b ps e
    obtain ⟨m2, e2⟩ := tbls b _ e1
    exact ⟨m1 ++ m2, by rw [e2, Array.append_assoc]⟩
  · obtain ⟨m, hn, hl⟩ := I.loc
    refine ⟨m, ns m hn, fun i x v e1 e2 e3 => ?_⟩
    obtain ⟨u, r, l⟩ := hl i x v e1 e2 e3
    refine ⟨u, r, ?_⟩
    rcases l with l | ⟨k, c, e, z⟩
    · exact .inl l
    · exact .inr ⟨k, c, e, cellK x c e _ z⟩
  · obtain ⟨v, z⟩ := I.cell x c e
    exact ⟨v, cellK x c e v z⟩
  · obtain ⟨m, ⟨o, _, _, ho, _⟩, _⟩ := I.loc
    exact free _ o (fun z => (hch _ z).2.1 rfl) ho I.free
  · obtain ⟨v, o, ho, hd⟩ := I.cell x c e
    exact free c o (fun z => (hch c z).2.2.1 x c e rfl) ho (I.freeC x c e)
  · obtain ⟨e, n, ne, nf, d⟩ := I.pin p hp
    have nch : p.1 ∉ ch := fun z => (hch p.1 z).2.2.2 p hp rfl
    exact ⟨keep p.1 p.2 ne nf nch e n, free p.1 p.2 nch e n, ne, nf, d⟩
/-- .. where the frame's own object is kept too -/
theorem Inv.un {t' : Nat} (I : Inv X pins σ H s) (u : Un X.fs [] H H' s.heap h') (hok : HOk X.prog X.w H' h') : Inv X pins σ H' { s with heap := h', toks := t' } := by
  obtain ⟨m, ⟨o, es, ep, ho, r⟩, _⟩ := id I.loc
  obtain ⟨sl, hL⟩ := u.any ho I.free (by simp)
  exact I.step (g' := s.gens) (d' := s.drawn) (ch := []) (fun _ z => nomatch z) (fun b o _ hb _ e n => u.keep b o e n hb (by simp)) (fun b o _ hb _ e n => u.slot b o e n hb (by simp)) (fun b o _ e n => u.free b o e n (by simp)) (fun b o _ e => u.there b o e (by simp)) u.tups u.frzs u.tbls (fun m' hm => by
    obtain ⟨o', es', ep', ho', r'⟩ := hm
    rw [ho] at ho'; cases ho'
    exact ⟨_, es', ep', hL, r'⟩) hok I.bare
/-- behind a call (or a comprehension's block): the slots of this frame may have changed too, the records at ch may have turned -/
theorem Inv.call {g' : Array GenState} {t' : Nat} {d' : Drawn} {ch : List Addr} (I : Inv X pins σ H s) (u : Un (frs X.stack) ch H H' s.heap h') (hok : HOk X.prog X.w H' h') (hg : AllBare g')
    (hch : ∀ b ∈ ch, (b ∈ X.ex ∨ X.s₀.heap.objs.size ≤ b) ∧ b ≠ X.env.locals ∧ (∀ x c, X.env.cells.lookup x = some c → c ≠ b) ∧ ∀ p ∈ X.pn ++ pins, p.1 ≠ b) :
    Inv X pins σ H' { s with heap := h', gens := g', drawn := d', toks := t' } := by
  obtain ⟨m, ⟨o, es, ep, ho, r⟩, _⟩ := id I.loc
  obtain ⟨sl, hL⟩ := u.any ho I.free fun z => (hch _ z).2.1 rfl
  exact I.step (ch := ch) hch (fun b o hL hb hc e n => u.keep b o e n (fun z => (List.mem_cons.mp (I.stkSub b z)).elim hL hb) hc) (fun b o _ _ hc e n => u.any e n hc) (fun b o hc e n => u.free b o e n hc) (fun b o hc e => u.there b o e hc) u.tups u.frzs u.tbls (fun m' hm => by
    obtain ⟨o', es', ep', ho', r'⟩ := hm
    rw [ho] at ho'; cases ho'
    exact ⟨_, es', ep', hL, r'⟩) hok hg
/-- an untracked record of ours (an iterator) has turned -/
theorem Inv.turned {t' : Nat} {it : Addr} (I : Inv X pins σ H s) (k : ∀ b o, b ≠ it → s.heap.get? b = some o → h'.get? b = some o) (hn : H it = none) (hL : it ≠ X.env.locals)
    (h1 : it ∈ X.ex ∨ X.s₀.heap.objs.size ≤ it) (h2 : ∀ x c, X.env.cells.lookup x = some c → c ≠ it) (h3 : ∀ p ∈ X.pn ++ pins, p.1 ≠ it) : Inv X pins σ H { s with heap := h', toks := t' } := by
  have nit : ∀ b u, H b = some u → b ≠ it := fun b u e z => by rw [z, hn] at e; cases e
  refine I.step (g' := s.gens) (d' := s.drawn) (ch := [it]) (fun b hb => ?_) (fun b o _ _ hc e _ => k b o (fun z => hc (by simp [z])) e) (fun b o _ _ hc e _ => ⟨o.slots, k b o (fun z => hc (by simp [z])) e⟩) (fun _ _ _ _ n => n)
    (fun b o hc e => ⟨o, k b o (fun z => hc (by simp [z])) e⟩) (fun _ _ e => e) (fun _ _ _ e => e) (fun b ps e => ⟨#[], by rw [e]; simp⟩) (fun m hm => ?_) (fun b u e => ?_) I.bare
  · have e : b = it := by simpa using hb
    subst e
    exact ⟨h1, hL, h2, h3⟩
  · obtain ⟨o, es, ep, ho, r⟩ := hm
    exact ⟨o, es, ep, k _ o (Ne.symm hL) ho, r⟩
  · refine (I.hok b u e).stay (fun c v hc q => k c v ?_ q) (fun _ q => q) fun _ _ q => q
    rcases hc with z | z
    · rw [z]; exact nit b u e
    · exact nit c _ z
theorem Inv.tok (I : Inv X pins σ H s) (t : Nat) : Inv X pins σ H { s with toks := t } := I.un (h' := s.heap) (t' := t) Un.refl I.hok
/-- all objects kept -/
theorem Inv.kept {t' : Nat} (I : Inv X pins σ H s) (k : ∀ b u, s.heap.get? b = some u → h'.get? b = some u) : Inv X pins σ H { s with heap := h', toks := t' } := I.un (Un.kept k) (I.hok.kept k)
/-- a new object laid and tracked -/
theorem Inv.laid {a : Addr} {o : HO} {t' : Nat} (I : Inv X pins σ H s) (k : ∀ b u, s.heap.get? b = some u → h'.get? b = some u) (hp : s.heap.objs.size ≤ a) (new : ObjOk X.prog X.w (upd H a o) h' a o) :
    Inv X pins σ (upd H a o) { s with heap := h', toks := t' } := I.un (Un.laid k hp (I.hok.fresh hp)) (I.hok.laid k hp new)
/-- an object written -/
theorem Inv.write {x e : Addr} {o : HO} {t' : Nat} (I : Inv X pins σ H s) (mu : Mut (H x)) (he : e = x ∨ H e = some (.own x)) (k : ∀ b u, b ≠ e → s.heap.get? b = some u → h'.get? b = some u) (heo : ∃ u, h'.get? e = some u)
    (new : ObjOk X.prog X.w (upd H x o) h' x o) : Inv X pins σ (upd H x o) { s with heap := h', toks := t' } := I.un (Un.write mu he k heo) (I.hok.write mu he k heo new)
/-- forgetting slots, pins -/
theorem Inv.weak {σ' : List (Option V)} (I : Inv X pins σ H s) (hl : σ'.length = σ.length) (w : ∀ (i : Nat) v, σ'[i]? = some (some v) → σ[i]? = some (some v)) : Inv X pins σ' H s :=
  ⟨I.ok, I.os, I.bare, I.base, let ⟨m, hn, hl'⟩ := I.loc; ⟨m, hn, fun i x v e1 e2 e3 => hl' i x v e1 (w i v e2) e3⟩, I.cell, I.free, I.freeC, I.pin, I.hok, hl.trans I.len⟩
theorem Inv.pins_of {pins' : List (Addr × Obj)} (I : Inv X pins σ H s) (h : ∀ p ∈ pins', s.heap.get? p.1 = some p.2 ∧ H p.1 = none ∧ p.1 ≠ X.env.locals ∧ p.1 ∉ X.fs ∧ ∀ v, p.2.data ≠ .cell v) : Inv X pins' σ H s :=
  ⟨I.ok, I.os, I.bare, I.base, I.loc, I.cell, I.free, I.freeC, fun p hp => (List.mem_append.mp hp).elim (fun z => I.pin p (List.mem_append_left _ z)) (h p), I.hok, I.len⟩

theorem nodup_ix {N : List Str} (hN : N.Nodup) {i j : Nat} {x : Str} (a : N[i]? = some x) (b : N[j]? = some x) : i = j := by
  obtain ⟨h1, e1⟩ := List.getElem?_eq_some_iff.mp a
  obtain ⟨h2, e2⟩ := List.getElem?_eq_some_iff.mp b
  exact (List.getElem_inj hN).mp (e1.trans e2.symm)

/-- a name is stored; what changed -/
theorem store_ok2 {M : Model} {A : Around} {E : Value → Shared → Prop} {i : Nat} {x : Str} {v : V} {u : Value} {Q : Unit → Shared → Prop} (I : Inv X pins σ H s) (hN : X.N.Nodup) (hi : X.N[i]? = some x) (hx : Loc X.env.scope x) (r : RelV v u)
    (h : ∀ s', Inv X pins (σ.set i (some v)) H s' → (∃ a, Heap.SameBut a s.heap s'.heap ∧ (a = X.env.locals ∨ X.env.cells.lookup x = some a)) → Q () s') (hf : X.fn x = true ∨ X.env.scope.names.lookup x = some .local := by first | exact .inl rfl | exact .inr rfl | assumption) : wpAny M A (storeName X.env x u) Q E s := by
  obtain ⟨m, hn, hl⟩ := id I.loc
  have hcls : (X.env.scope.kind == .class || (X.env.scope.kind == .module && X.env.locals != X.env.globals)) = false := by rw [I.ok.kind]; rfl
  have hiσ : i < σ.length := by rw [I.len]; exact (List.getElem?_eq_some_iff.mp hi).1
  have cne := I.cne
  have tracked : ∀ {a : Addr} {h' : Heap}, (∃ o, s.heap.get? a = some o ∧ H a = none) → Heap.SameBut a s.heap h' → HOk X.prog X.w H h' := fun {a h'} ha hs b ob e => by
    obtain ⟨_, _, hfree⟩ := ha
    refine (I.hok b ob e).stay (fun c w' hc q => (hs.2 c ?_).trans q) (fun _ q => q) fun _ _ q => q
    rintro rfl
    rcases hc with rfl | hc
    · rw [hfree] at e; cases e
    · rw [hfree] at hc; cases hc
  rcases hx with hk | hk
  · refine wpAny_storeName_local hk hn (fun h' hn' hs => ?_) hcls
    obtain ⟨oL, _, _, hoL, _⟩ := id hn
    refine h _ ⟨I.ok, I.os, I.bare, ⟨fun b o e n hb hx => ?_, fun b o e n hb hx => ?_, I.base.free, fun b o e hx => ?_, I.base.tups, I.base.frzs, I.base.tbls⟩, ⟨_, hn', fun j y v' e1 e2 e3 => ?_⟩, fun y c e => ?_, I.free, I.freeC, fun p hp => ?_, tracked ⟨oL, hoL, I.free⟩ hs, by simpa using I.len⟩ ⟨_, hs, .inl rfl⟩
    · exact (hs.2 b (Nat.ne_of_lt (Nat.lt_of_lt_of_le (Heap.lt_size e) I.ok.above))).trans (I.base.keep b o e n hb hx)
    · obtain ⟨sl, e1⟩ := I.base.slot b o e n hb hx
      exact ⟨sl, (hs.2 b (Nat.ne_of_lt (Nat.lt_of_lt_of_le (Heap.lt_size e) I.ok.above))).trans e1⟩
    · obtain ⟨o', e1⟩ := I.base.there b o e hx
      exact ⟨o', (hs.2 b (Nat.ne_of_lt (Nat.lt_of_lt_of_le (Heap.lt_size e) I.ok.above))).trans e1⟩
    · by_cases hj : j = i
      · subst hj
        rw [hi] at e1; cases e1
        rw [List.getElem?_set_self hiσ] at e2
        cases e2
        exact ⟨u, r, .inl ⟨hk, by simp⟩⟩
      · rw [List.getElem?_set_ne (Ne.symm hj)] at e2
        obtain ⟨u', r', q⟩ := hl j y v' e1 e2 e3
        refine ⟨u', r', ?_⟩
        rcases q with ⟨k, e⟩ | ⟨k, c, e, z⟩
        · refine .inl ⟨k, ?_⟩
          have : y ≠ x := fun e => hj (nodup_ix hN e1 (e ▸ hi))
          simp [this, e]
        · exact .inr ⟨k, c, e, z.sameBut hs (cne y c e)⟩
    · obtain ⟨w', z⟩ := I.cell y c e
      exact ⟨w', z.sameBut hs (cne y c e)⟩
    · obtain ⟨e, n, ne, nf, d⟩ := I.pin p hp
      exact ⟨(hs.2 p.1 ne).trans e, n, ne, nf, d⟩
  · have hfn : X.fn x = true := by
      rcases hf with z | z
      · exact z
      · rw [z] at hk; cases hk
    obtain ⟨c, hc⟩ := I.ok.has x (.inl hk)
    obtain ⟨w', z⟩ := I.cell x c hc
    refine wpAny_storeName_cell I.ok.kind hk hc z (fun h' hc' hs => ?_)
    obtain ⟨oc, hoc, hocd⟩ := id z
    refine h { s with heap := h' } ⟨I.ok, I.os, I.bare, ⟨fun b o e n hb hx => ?_, fun b o e n hb hx => ?_, I.base.free, fun b o e hx => ?_, I.base.tups, I.base.frzs, I.base.tbls⟩, ⟨m, hn.sameBut hs (Ne.symm (cne x c hc)), fun j y v' e1 e2 e3 => ?_⟩, fun y c' e => ?_, I.free, I.freeC, fun p hp => ?_, tracked ⟨oc, hoc, I.freeC x c hc⟩ hs, by simpa using I.len⟩ ⟨c, hs, .inr hc⟩
    · exact (hs.2 b (Nat.ne_of_lt (Nat.lt_of_lt_of_le (Heap.lt_size e) (I.ok.cab x c hfn hc)))).trans (I.base.keep b o e n hb hx)
    · obtain ⟨sl, e1⟩ := I.base.slot b o e n hb hx
      exact ⟨sl, (hs.2 b (Nat.ne_of_lt (Nat.lt_of_lt_of_le (Heap.lt_size e) (I.ok.cab x c hfn hc)))).trans e1⟩
    · obtain ⟨o', e1⟩ := I.base.there b o e hx
      exact ⟨o', (hs.2 b (Nat.ne_of_lt (Nat.lt_of_lt_of_le (Heap.lt_size e) (I.ok.cab x c hfn hc)))).trans e1⟩
    · by_cases hj : j = i
      · subst hj
        rw [hi] at e1; cases e1
        rw [List.getElem?_set_self hiσ] at e2
        cases e2
        exact ⟨u, r, .inr ⟨.inl hk, c, hc, hc'⟩⟩
      · rw [List.getElem?_set_ne (Ne.symm hj)] at e2
        obtain ⟨u', r', q⟩ := hl j y v' e1 e2 e3
        refine ⟨u', r', ?_⟩
        rcases q with q | ⟨k, c', e, z'⟩
        · exact .inl q
        · refine .inr ⟨k, c', e, z'.sameBut hs ?_⟩
          rintro rfl
          exact hj (nodup_ix hN e1 (I.ok.inj _ _ _ e hc ▸ hi))
    · by_cases hcc : c' = c
      · subst hcc; exact ⟨_, hc'⟩
      · obtain ⟨w2, z2⟩ := I.cell y c' e
        exact ⟨w2, z2.sameBut hs hcc⟩
    · obtain ⟨e, n, ne, nf, d⟩ := I.pin p hp
      refine ⟨(hs.2 p.1 ?_).trans e, n, ne, nf, d⟩
      intro q
      rw [q, hoc] at e
      have q' : oc = p.2 := Option.some.inj e
      exact d w' (by rw [← q']; exact hocd)
theorem store_ok {M : Model} {A : Around} {E : Value → Shared → Prop} {i : Nat} {x : Str} {v : V} {u : Value} {Q : Unit → Shared → Prop} (I : Inv X pins σ H s) (hN : X.N.Nodup) (hi : X.N[i]? = some x) (hx : Loc X.env.scope x) (r : RelV v u)
    (h : ∀ s', Inv X pins (σ.set i (some v)) H s' → Q () s') (hf : X.fn x = true ∨ X.env.scope.names.lookup x = some .local := by first | exact .inl rfl | exact .inr rfl | assumption) : wpAny M A (storeName X.env x u) Q E s :=
  store_ok2 I hN hi hx r (fun s' I' _ => h s' I') hf
/-- behind a call or a block, the state as it is -/
theorem Inv.call' {s' : Shared} {ch : List Addr} (I : Inv X pins σ H s) (ho : s'.os = s.os) (u : Un (frs X.stack) ch H H' s.heap s'.heap) (hok : HOk X.prog X.w H' s'.heap) (hg : AllBare s'.gens)
    (hch : ∀ b ∈ ch, (b ∈ X.ex ∨ X.s₀.heap.objs.size ≤ b) ∧ b ≠ X.env.locals ∧ (∀ x c, X.env.cells.lookup x = some c → c ≠ b) ∧ ∀ p ∈ X.pn ++ pins, p.1 ≠ b) : Inv X pins σ H' s' := by
  obtain ⟨h', g', d', t', o'⟩ := s'
  have e : o' = s.os := ho
  subst e
  exact I.call (g' := g') (t' := t') (d' := d') u hok hg hch
end

/-! ### the judgements -/
/-- an exception: its class, its own dict's address (where it has one), the abstract heap behind it -/
abbrev XK := Value → Option Addr → Hp → Prop
abbrev St := List (Option V)
abbrev VK := V → Hp → Prop
/-- an expression's reading; a test's; an argument list's -/
abbrev TE := St → Hp → VK → Prop
abbrev TT := St → Hp → (Bool → Hp → Prop) → Prop
abbrev TA := St → Hp → (List V → Hp → Prop) → Prop
/-- what is wanted behind a statement -/
structure Ends where
  nx : St → Hp → Prop
  rt : VK
  bk : St → Hp → Prop := fun _ _ => False
  ct : St → Hp → Prop := fun _ _ => False
abbrev TS := Ends → St → Hp → Prop

def EP (X : Cx) (pins : List (Addr × Obj)) (σ : St) (Q : VK) (u : Value) (s' : Shared) : Prop := ∃ v H', Inv X pins σ H' s' ∧ RelV v u ∧ Q v H'
def TP (X : Cx) (pins : List (Addr × Obj)) (σ : St) (Q : Bool → Hp → Prop) (b : Bool) (s' : Shared) : Prop := ∃ H', Inv X pins σ H' s' ∧ Q b H'
def AP (X : Cx) (pins : List (Addr × Obj)) (σ : St) (Q : List V → Hp → Prop) (us : List Value) (s' : Shared) : Prop := ∃ vs H', Inv X pins σ H' s' ∧ Vals vs us ∧ Q vs H'
def SP (X : Cx) (pins : List (Addr × Obj)) (D : Ends) (f : Flow) (s' : Shared) : Prop :=
  match f with
  | .next => ∃ σ' H', Inv X pins σ' H' s' ∧ D.nx σ' H'
  | .brk => ∃ σ' H', Inv X pins σ' H' s' ∧ D.bk σ' H'
  | .cont => ∃ σ' H', Inv X pins σ' H' s' ∧ D.ct σ' H'
  | .ret u => ∃ v σ' H', Inv X pins σ' H' s' ∧ RelV v u ∧ D.rt v H'

def PE (X : Cx) (e : Expr) (t : TE) : Prop :=
  ∀ (pins : List (Addr × Obj)) (s : Shared) (σ : St) (H : Hp) (Q : VK), Inv X pins σ H s → t σ H Q → wpAny (model X.prog X.w) X.A (eval e X.env) (EP X pins σ Q) X.xe s
def PT (X : Cx) (e : Expr) (t : TT) : Prop :=
  ∀ (pins : List (Addr × Obj)) (s : Shared) (σ : St) (H : Hp) (Q : Bool → Hp → Prop), Inv X pins σ H s → t σ H Q → wpAny (model X.prog X.w) X.A (isTrue e X.env (eval e X.env)) (TP X pins σ Q) X.xe s
/-- a test whatever its 'whole' is (and, or) -/
def PW (X : Cx) (e : Expr) (t : TT) : Prop :=
  ∀ (whole : Sem Value) (pins : List (Addr × Obj)) (s : Shared) (σ : St) (H : Hp) (Q : Bool → Hp → Prop), Inv X pins σ H s → t σ H Q → wpAny (model X.prog X.w) X.A (isTrue e X.env whole) (TP X pins σ Q) X.xe s
theorem PW.pt {X : Cx} {e : Expr} {t : TT} (h : PW X e t) : PT X e t := h _
/-- an argument list (no star), from the left -/
def PA (X : Cx) (es : List Expr) (t : TA) : Prop :=
  ∀ (pos : Pos) (pins : List (Addr × Obj)) (s : Shared) (σ : St) (H : Hp) (Q : List V → Hp → Prop), Inv X pins σ H s → t σ H Q → wpAny (model X.prog X.w) X.A (spliced (backTo pos (starEach es X.env))) (AP X pins σ Q) X.xe s
def PS (X : Cx) (st : Stmt) (t : TS) : Prop :=
  ∀ (pins : List (Addr × Obj)) (s : Shared) (σ : St) (H : Hp) (D : Ends), Inv X pins σ H s → t D σ H → wpAny (model X.prog X.w) X.A (exec st X.env) (SP X pins D) X.xe s
def PSs (X : Cx) (st : List Stmt) (t : TS) : Prop :=
  ∀ (pins : List (Addr × Obj)) (s : Shared) (σ : St) (H : Hp) (D : Ends), Inv X pins σ H s → t D σ H → wpAny (model X.prog X.w) X.A (execs st X.env) (SP X pins D) X.xe s
/-- weaken the end -/
theorem thn {α : Type} {t : Sem α} {Q Q' : α → Shared → Prop} {M : Model} {A : Around} {E : Value → Shared → Prop} {s : Shared} (h : wpAny M A t Q E s) (hQ : ∀ a s, Q a s → Q' a s) : wpAny M A t Q' E s := wpAny_mono h hQ fun _ _ x => x
end L2

namespace L2
open PySem PySem.Spec PyProof.Rows
section
variable {X : Cx}

/-! ### names and constants -/
def tVar (i : Nat) : TE := fun σ H Q => ∃ v, σ[i]? = some (some v) ∧ Q v H
def tC (v : V) : TE := fun _ H Q => Q v H
theorem pe_var {i : Nat} {x : Str} {pos : Pos} (hN : X.N[i]? = some x) (hv : Vis X.env.scope x) (hd : (x == ("__debug__" : Str)) = false := by decide) (hcd : (x == ("__classdict__" : Str)) = false := by decide) : PE X (.Name x pos) (tVar i) := by
  intro pins s σ H Q I h
  obtain ⟨v, e, h⟩ := h
  obtain ⟨m, hn, hl⟩ := I.loc
  obtain ⟨u, r, l⟩ := hl i x v hN e hv
  have fin : EP X pins σ Q u s := ⟨v, H, I, r, h⟩
  rcases l with ⟨hk, hm⟩ | ⟨hk, c, hc, hcell⟩
  · exact wpAny_Name (wpAny_loadName_local I.ok.kind hk hn hm fin) hd
  · rcases hk with hk | hk
    · exact wpAny_Name (wpAny_loadName_cell I.ok.kind hk hc hcell fin) hd
    · exact wpAny_Name (wpAny_loadName_free I.ok.kind hk hc hcell fin hcd) hd
theorem pe_int {i j pos} : PE X (.Constant (.int i) j pos) (tC (.int i)) := fun _ _ _ H _ I h => wpAny_Constant_int ⟨.int i, H, I.tok _, ⟨_, rfl⟩, h⟩
theorem pe_bl {b j pos} : PE X (.Constant (.bool b) j pos) (tC (.bl b)) := fun _ _ _ H _ I h => Constant_bool ⟨.bl b, H, I, rfl, h⟩
theorem pe_non {j pos} : PE X (.Constant .none j pos) (tC .non) := fun _ _ _ H _ I h => Constant_none ⟨.non, H, I, rfl, h⟩
theorem pe_str {x j pos} : PE X (.Constant (.str x) j pos) (tC (.str x)) := fun _ _ _ H _ I h => Calls.Constant_str ⟨.str x, H, I.tok _, ⟨_, rfl⟩, h⟩

/-- a global name of the def -/
def Gl (X : Cx) (x : Str) : Prop := X.env.kindOf x = some .globalImplicit
theorem ld_glob {E : Value → Shared → Prop} {pins : List (Addr × Obj)} {s : Shared} {σ : St} {H : Hp} {x : Str} {u : Value} {pos : Pos} {Q : Value → Shared → Prop} (I : Inv X pins σ H s) (hg : Gl X x) (hm : X.mg x = some u) (h : Q u s)
    (hd : (x == ("__debug__" : Str)) = false := by decide) : wpAny (model X.prog X.w) X.A (eval (.Name x pos) X.env) Q E s :=
  Calls.Name_function_global I.ok.kind hg (Calls.loadGlobal_global (by rw [I.ok.glob]; exact I.mod.glob.keeps I.bk) hm h) hd
theorem ld_blt {E : Value → Shared → Prop} {pins : List (Addr × Obj)} {s : Shared} {σ : St} {H : Hp} {x : Str} {u : Value} {pos : Pos} {Q : Value → Shared → Prop} (I : Inv X pins σ H s) (hg : Gl X x) (hm : X.mg x = none) (hv : bootBuiltins x = some u) (h : Q u s)
    (hn : x ≠ "__name__" := by decide) (hd : (x == ("__debug__" : Str)) = false := by decide) : wpAny (model X.prog X.w) X.A (eval (.Name x pos) X.env) Q E s := by
  obtain ⟨mb, h1, h2⟩ := I.mod.blt
  exact Calls.Name_function_global I.ok.kind hg (Calls.loadGlobal_builtin (by rw [I.ok.glob]; exact I.mod.glob.keeps I.bk) hm (by rw [I.ok.blt]; exact h1.keeps I.bk) ((h2 x hn).trans hv) h) hd
/-- a module's constant, a class, a function, as a value -/
theorem pe_glob {x : Str} {v : V} {u : Value} {pos : Pos} (hg : Gl X x) (hm : X.mg x = some u) (r : RelV v u) (hd : (x == ("__debug__" : Str)) = false := by decide) : PE X (.Name x pos) (tC v) :=
  fun _ _ _ H _ I h => ld_glob I hg hm ⟨v, H, I, r, h⟩ hd
theorem pe_bltn {x : Str} {v : V} {u : Value} {pos : Pos} (hg : Gl X x) (hm : X.mg x = none) (hv : bootBuiltins x = some u) (r : RelV v u) (hn : x ≠ "__name__" := by decide) (hd : (x == ("__debug__" : Str)) = false := by decide) : PE X (.Name x pos) (tC v) :=
  fun _ _ _ H _ I h => ld_blt I hg hm hv ⟨v, H, I, r, h⟩ hn hd

/-! ### arithmetic -/
/-- two ints -/
def t2I (ta tb : TE) (k : Int → Int → Hp → Prop) : St → Hp → Prop := fun σ H => ta σ H fun x H1 => tb σ H1 fun y H2 => ∃ i j, x = .int i ∧ y = .int j ∧ k i j H2
def tAdd (ta tb : TE) : TE := fun σ H Q => t2I ta tb (fun i j H2 => Q (.int (i + j)) H2) σ H
def tSub (ta tb : TE) : TE := fun σ H Q => t2I ta tb (fun i j H2 => Q (.int (i - j)) H2) σ H
/-- the left factor below 2^64 -/
def tMul (ta tb : TE) : TE := fun σ H Q => t2I ta tb (fun i j H2 => (-(2 ^ 64) < i ∧ i < 2 ^ 64) ∧ Q (.int (i * j)) H2) σ H
variable {a b : Expr} {ta tb : TE} {pos : Pos}
/-! ### comparisons -/
def PC (X : Cx) (op : CmpOp) (a b : Expr) (t : TE) : Prop :=
  ∀ (pins : List (Addr × Obj)) (s : Shared) (σ : St) (H : Hp) (Q : VK), Inv X pins σ H s → t σ H Q →
    wpAny (model X.prog X.w) X.A (eval a X.env) (fun v s₁ => wpAny (model X.prog X.w) X.A (eval b X.env) (fun u s₂ => wpAny (model X.prog X.w) X.A (compareOp op v u) (EP X pins σ Q) X.xe s₂) X.xe s₁) X.xe s
def tCmp (p : Int → Int → Bool) (ta tb : TE) : TE := fun σ H Q => t2I ta tb (fun i j H2 => Q (.bl (p i j)) H2) σ H
abbrev tLt : TE → TE → TE := tCmp fun i j => decide (i < j)
abbrev tLe : TE → TE → TE := tCmp fun i j => decide (i ≤ j)
abbrev tGt : TE → TE → TE := tCmp fun i j => decide (j < i)
abbrev tGe : TE → TE → TE := tCmp fun i j => decide (j ≤ i)
abbrev tEqI : TE → TE → TE := tCmp fun i j => decide (i = j)
abbrev tNeI : TE → TE → TE := tCmp fun i j => !decide (i = j)
/-- is None -/
def tIsN (ta : TE) : TE := fun σ H Q => ta σ H fun x H1 => Q (.bl (decide (x = .non))) H1
def tNotN (ta : TE) : TE := fun σ H Q => ta σ H fun x H1 => Q (.bl (!decide (x = .non))) H1
/-- a comparison as a value, as a test -/
def tB (t : TE) : TT := fun σ H Q => t σ H fun x H1 => ∃ c, x = .bl c ∧ Q c H1
/-- an expression whose value is a bool, as a test -/
theorem pt_val {e : Expr} {t : TE} (h : PE X e t) (he : ∀ whole, isTrue e X.env whole = (do let v ← whole; standAt e.pos; holding [v] (truthy v)) := by intro _; rfl) : PT X e (tB t) := by
  intro pins s σ H Q I hw
  refine isTrue_plain (thn (h pins s σ H _ I hw) fun v s1 ⟨x, H1, I1, r1, q1⟩ => ?_) (he _)
  obtain ⟨d, rfl, q⟩ := q1
  cases r1
  exact wpAny_truthy_bool ⟨H1, I1, q⟩

/-! ### and, or, not -/
variable {tA tB' : TT} {rest : List Expr}
def tAnd (t u : TT) : TT := fun σ H Q => t σ H fun c H1 => if c = true then u σ H1 Q else Q false H1
def tOr (t u : TT) : TT := fun σ H Q => t σ H fun c H1 => if c = true then Q true H1 else u σ H1 Q
def tNot (t : TT) : TT := fun σ H Q => t σ H fun c H1 => Q (!c) H1
theorem pw_and1 (ha : PT X a tA) : PW X (.BoolOp .And [a] pos) tA := by
  intro wh pins s σ H Q I h
  refine isTrue_and (thn (ha pins s σ H Q I h) fun c s1 e => ?_)
  cases c with
  | true => exact isTrue_and_nil e
  | false => exact e
theorem pw_or1 (ha : PT X a tA) : PW X (.BoolOp .Or [a] pos) tA := by
  intro wh pins s σ H Q I h
  refine isTrue_or (thn (ha pins s σ H Q I h) fun c s1 e => ?_)
  cases c with
  | false => exact isTrue_or_nil e
  | true => exact e
theorem pw_and (ha : PT X a tA) (hb : PW X (.BoolOp .And (b :: rest) pos) tB') : PW X (.BoolOp .And (a :: b :: rest) pos) (tAnd tA tB') := by
  intro wh pins s σ H Q I h
  refine isTrue_and (thn (ha pins s σ H _ I h) fun c s1 ⟨H1, I1, q1⟩ => ?_)
  cases c with
  | true => exact hb wh pins s1 σ H1 Q I1 q1
  | false => exact ⟨H1, I1, q1⟩
theorem pw_or (ha : PT X a tA) (hb : PW X (.BoolOp .Or (b :: rest) pos) tB') : PW X (.BoolOp .Or (a :: b :: rest) pos) (tOr tA tB') := by
  intro wh pins s σ H Q I h
  refine isTrue_or (thn (ha pins s σ H _ I h) fun c s1 ⟨H1, I1, q1⟩ => ?_)
  cases c with
  | true => exact ⟨H1, I1, q1⟩
  | false => exact hb wh pins s1 σ H1 Q I1 q1
theorem pt_not (ha : PT X a tA) : PT X (.UnaryOp .Not a pos) (tNot tA) := by
  intro pins s σ H Q I h
  exact isTrue_not (ha pins s σ H (fun c H1 => Q (!c) H1) I h)
/-- .. as values (bools) -/
def tAndV (ta tb : TE) : TE := fun σ H Q => ta σ H fun x H1 => ∃ c, x = .bl c ∧ if c = true then tb σ H1 Q else Q (.bl false) H1
def tOrV (ta tb : TE) : TE := fun σ H Q => ta σ H fun x H1 => ∃ c, x = .bl c ∧ if c = true then Q (.bl true) H1 else tb σ H1 Q
def tNotV (ta : TE) : TE := fun σ H Q => ta σ H fun x H1 => ∃ c, x = .bl c ∧ Q (.bl (!c)) H1
/-- a if t else b -/
def tIf (t : TT) (ta tb : TE) : TE := fun σ H Q => t σ H fun c H1 => if c = true then ta σ H1 Q else tb σ H1 Q
theorem pe_ifExp {c : Expr} (hc : PT X c tA) (ha : PE X a ta) (hb : PE X b tb) : PE X (.IfExp c a b pos) (tIf tA ta tb) := by
  intro pins s σ H Q I h
  refine wpAny_IfExp (thn (hc pins s σ H _ I h) fun d s1 ⟨H1, I1, q1⟩ => ?_)
  cases d with
  | true => exact ha pins s1 σ H1 Q I1 q1
  | false => exact hb pins s1 σ H1 Q I1 q1
end
end L2

namespace L2
open PySem PySem.Spec PyProof.Rows

/-! ### a list, a tuple that is read: tracked, frozen, or an object of the module -/
def SqL (K : PySem.W.Frag) (H : Hp) (a : Addr) (xs : List V) : Prop :=
  Rd H a (.lst xs) ∨
    ∃ (o : Obj) (its : Array Value) (n : Nat), K.lookup a = some o ∧ o.cls = .type "list" ∧ o.dict = none ∧ o.data = .seq its n ∧ its.size ≤ sizeLine ∧ Vals xs its.toList
def SqT (K : PySem.W.Frag) (H : Hp) (a : Addr) (xs : List V) : Prop :=
  Rd H a (.tup xs) ∨
    ∃ (o : Obj) (its : Array Value) (n : Nat), K.lookup a = some o ∧ o.cls = .type "tuple" ∧ o.data = .seq its n ∧ its.size ≤ sizeLine ∧ Vals xs its.toList
def absV : Value → Option V
  | .none => some .non
  | .bool b => some (.bl b)
  | .int i _ => some (.int i)
  | .str x _ => some (.str x)
  | .bytes b _ => some (.byt b)
  | .float b _ => some (.flt b)
  | .ref a => some (.ref a)
  | .type n => some (.ty n)
  | _ => none
theorem RelV.abs {x : V} {u : Value} (r : RelV x u) : absV u = some x := by
  cases x with
  | non => cases r; rfl
  | bl _ => cases r; rfl
  | int _ => obtain ⟨t, rfl⟩ := r; rfl
  | str _ => obtain ⟨t, rfl⟩ := r; rfl
  | byt _ => obtain ⟨t, rfl⟩ := r; rfl
  | flt _ => obtain ⟨t, rfl⟩ := r; rfl
  | ref _ => cases r; rfl
  | ty _ => cases r; rfl
theorem RelV.inj {x y : V} {u : Value} (r : RelV x u) (q : RelV y u) : x = y := Option.some.inj (r.abs.symm.trans q.abs)
theorem Vals.inj : ∀ {xs ys : List V} {us : List Value}, Vals xs us → Vals ys us → xs = ys
  | _, _, _, .nil, .nil => rfl
  | _, _, _, .cons r t, .cons r' t' => by rw [r.inj r', Vals.inj t t']
section
variable {X : Cx} {pins : List (Addr × Obj)} {σ : St} {H : Hp} {s : Shared} {a : Addr} {xs ys : List V}
theorem SqL.of {K : PySem.W.Frag} (h : H a = some (.lst xs)) : SqL K H a xs := .inl (.inl h)
theorem SqT.of {K : PySem.W.Frag} (h : H a = some (.tup xs)) : SqT K H a xs := .inl (.inl h)
theorem Inv.list (I : Inv X pins σ H s) (h : SqL X.K H a xs) : ∃ its : List Value, Vals xs its ∧ PlainL s.heap a its.toArray ∧ xs.length ≤ sizeLine := by
  rcases h with h | ⟨o, its, n, hk, hc, hd, hs, hz, r⟩
  · obtain ⟨z, its, n, r, e⟩ := h.ok I.hok
    exact ⟨its, r, ⟨_, n, e, rfl, rfl, rfl⟩, z⟩
  · refine ⟨its.toList, r, ⟨o, n, I.kIn a o hk, hc, hd, by simpa using hs⟩, ?_⟩
    have e := r.length
    simp only [Array.length_toList] at e
    omega
theorem Inv.tuple (I : Inv X pins σ H s) (h : SqT X.K H a xs) : ∃ its : List Value, Vals xs its ∧ IsTup s.heap a its.toArray ∧ xs.length ≤ sizeLine := by
  rcases h with h | ⟨o, its, n, hk, hc, hs, hz, r⟩
  · obtain ⟨z, its, r, p⟩ := h.ok I.hok
    exact ⟨its, r, p, z⟩
  · refine ⟨its.toList, r, ⟨o, I.kIn a o hk, hc, n, by simpa using hs⟩, ?_⟩
    have e := r.length
    simp only [Array.length_toList] at e
    omega
theorem Inv.list_inj (I : Inv X pins σ H s) (h : SqL X.K H a xs) (h' : SqL X.K H a ys) : xs = ys := by
  obtain ⟨its, r, ⟨o, n, e, _, _, d⟩, _⟩ := I.list h
  obtain ⟨its', r', ⟨o', n', e', _, _, d'⟩, _⟩ := I.list h'
  rw [e] at e'; cases e'
  rw [d] at d'
  injection d' with d1 _
  have : its = its' := by simpa using congrArg Array.toList d1
  subst this
  exact r.inj r'
theorem Inv.tuple_inj (I : Inv X pins σ H s) (h : SqT X.K H a xs) (h' : SqT X.K H a ys) : xs = ys := by
  obtain ⟨its, r, ⟨o, e, _, n, d⟩, _⟩ := I.tuple h
  obtain ⟨its', r', ⟨o', e', _, n', d'⟩, _⟩ := I.tuple h'
  rw [e] at e'; cases e'
  rw [d] at d'
  injection d' with d1 _
  have : its = its' := by simpa using congrArg Array.toList d1
  subst this
  exact r.inj r'
end

/-! ### another wish about exceptions -/
abbrev Cx.wish (X : Cx) (E : Value → Shared → Prop) : Cx := { X with xe := E }
/-- no exception leaves -/
abbrev Cx.nox (X : Cx) : Cx := X.wish fun _ _ => False
theorem Cx.Ok.wish {X : Cx} (ok : X.Ok) (E : Value → Shared → Prop) : (X.wish E).Ok :=
  ⟨ok.mod, ok.kind, ok.glob, ok.blt, ok.above, ok.inj, ok.has, ok.cab, ok.hd, ok.frames, ok.stk, ok.exf, ok.bs, ok.bsz, ok.noex, ok.exfs, ok.funs, ok.frf⟩
theorem Cx.Ok.unwish {X : Cx} {E : Value → Shared → Prop} (ok : (X.wish E).Ok) : X.Ok :=
  ⟨ok.mod, ok.kind, ok.glob, ok.blt, ok.above, ok.inj, ok.has, ok.cab, ok.hd, ok.frames, ok.stk, ok.exf, ok.bs, ok.bsz, ok.noex, ok.exfs, ok.funs, ok.frf⟩
section
variable {X : Cx} {pins : List (Addr × Obj)} {σ : St} {H : Hp} {s : Shared} {E : Value → Shared → Prop}
theorem Inv.wish (I : Inv X pins σ H s) (E : Value → Shared → Prop) : Inv (X.wish E) pins σ H s := ⟨I.ok.wish E, I.os, I.bare, I.base, I.loc, I.cell, I.free, I.freeC, I.pin, I.hok, I.len⟩
theorem Inv.unwish (I : Inv (X.wish E) pins σ H s) : Inv X pins σ H s := ⟨I.ok.unwish, I.os, I.bare, I.base, I.loc, I.cell, I.free, I.freeC, I.pin, I.hok, I.len⟩
theorem SP.unwish {D : Ends} {f : Flow} {s' : Shared} (h : SP (X.wish E) pins D f s') : SP X pins D f s' := by
  cases f with
  | next => obtain ⟨σ', H', I, q⟩ := h; exact ⟨σ', H', I.unwish, q⟩
  | brk => obtain ⟨σ', H', I, q⟩ := h; exact ⟨σ', H', I.unwish, q⟩
  | cont => obtain ⟨σ', H', I, q⟩ := h; exact ⟨σ', H', I.unwish, q⟩
  | ret u => obtain ⟨v, σ', H', I, r, q⟩ := h; exact ⟨v, σ', H', I.unwish, r, q⟩
theorem PSs.nox {st : List Stmt} {t : TS} (h : PSs X.nox st t) : PSs X st t := fun pins s σ H D I hw =>
  wpAny_mono (h pins s σ H D (I.wish _) hw) (fun _ _ q => q.unwish) fun _ _ z => False.elim z
end

/-! ### blocks and small statements -/
section
variable {X : Cx} {st : Stmt} {rest : List Stmt} {t u : TS} {e : Expr} {te : TE} {pos : Pos}
def tNext : TS := fun D σ H => D.nx σ H
def tSeq (t u : TS) : TS := fun D σ H => t { D with nx := u D } σ H
theorem pss_nil : PSs X [] tNext := fun _ _ σ H _ I h => wpAny_execs_nil ⟨σ, H, I, h⟩
theorem pss_cons (h1 : PS X st t) (h2 : PSs X rest u) : PSs X (st :: rest) (tSeq t u) := by
  intro pins s σ H D I h
  refine wpAny_execs_cons (thn (h1 pins s σ H { D with nx := u D } I h) fun f s1 q => ?_)
  cases f with
  | next =>
    obtain ⟨σ', H', I', q⟩ := q
    exact h2 pins s1 σ' H' D I' q
  | ret v => exact q
  | brk => exact q
  | cont => exact q
theorem pss_one (h1 : PS X st t) : PSs X [st] t := by
  intro pins s σ H D I h
  refine wpAny_execs_cons (thn (h1 pins s σ H D I h) fun f s1 q => ?_)
  cases f with
  | next => exact wpAny_execs_nil q
  | ret v => exact q
  | brk => exact q
  | cont => exact q
def tBreak : TS := fun D σ H => D.bk σ H
def tCont : TS := fun D σ H => D.ct σ H
/-- in a def's body nothing is shown -/
theorem Inv.quiet {pins : List (Addr × Obj)} {σ : St} {H : Hp} {s : Shared} (I : Inv X pins σ H s) : interactive X.env = false := by simp [interactive, I.ok.kind]
/-- an expression whose value is dropped -/
def tDrop (te : TE) : TS := fun D σ H => te σ H fun _ H1 => D.nx σ H1
theorem ps_expr (he : PE X e te) (hs : swapsWith e none pos.line X.env = pure false := by rfl) : PS X (.Expr e pos) (tDrop te) := by
  intro pins s σ H D I h
  exact wpAny_Expr_any (thn (he pins s σ H _ I h) fun v s1 ⟨x, H1, I1, r1, q1⟩ => ⟨σ, H1, I1, q1⟩) I.quiet hs
def tRet (te : TE) : TS := fun D σ H => te σ H D.rt
theorem ps_ret (he : PE X e te) : PS X (.Return (some e) pos) (tRet te) := by
  intro pins s σ H D I h
  exact wpAny_Return_some (thn (he pins s σ H _ I h) fun v s1 ⟨x, H1, I1, r1, q1⟩ => ⟨x, σ, H1, I1, r1, q1⟩)
def tRetN : TS := fun D _ H => D.rt .non H
def tIfS (c : TT) (t u : TS) : TS := fun D σ H => c σ H fun b H1 => if b = true then t D σ H1 else u D σ H1
theorem ps_if {c : Expr} {a b : List Stmt} {tc : TT} (hc : PT X c tc) (ha : PSs X a t) (hb : PSs X b u) : PS X (.If c a b pos) (tIfS tc t u) := by
  intro pins s σ H D I h
  refine wpAny_If (thn (hc pins s σ H _ I h) fun d s1 ⟨H1, I1, q1⟩ => ?_)
  cases d with
  | true => exact ha pins s1 σ H1 D I1 q1
  | false => exact hb pins s1 σ H1 D I1 q1
/-- code that the proof never comes to -/
def tNever : TS := fun _ _ _ => False
theorem pss_never {sts : List Stmt} : PSs X sts tNever := fun _ _ _ _ _ _ h => h.elim
end

/-! ### targets -/
abbrev TG := V → St → Hp → (St → Hp → Prop) → Prop
abbrev TGs := List V → St → Hp → (St → Hp → Prop) → Prop
def PG (X : Cx) (target : Expr) (t : TG) : Prop :=
  ∀ (pins : List (Addr × Obj)) (s : Shared) (σ : St) (H : Hp) (v : V) (u : Value) (Q : St → Hp → Prop), Inv X pins σ H s → RelV v u → t v σ H Q →
    wpAny (model X.prog X.w) X.A (assign target X.env u) (fun _ s' => ∃ σ' H', Inv X pins σ' H' s' ∧ Q σ' H') X.xe s
/-- several targets, one after another -/
def PGs (X : Cx) (ts : List Expr) (t : TGs) : Prop :=
  ∀ (pins : List (Addr × Obj)) (s : Shared) (σ : St) (H : Hp) (vs : List V) (us : List Value) (Q : St → Hp → Prop), Inv X pins σ H s → Vals vs us → t vs σ H Q →
    wpAny (model X.prog X.w) X.A (assignInOrder ((assignEach ts X.env).map (·.2)) us) (fun _ s' => ∃ σ' H', Inv X pins σ' H' s' ∧ Q σ' H') X.xe s
/-- o[i] = v, by values -/
abbrev TSet := V → V → V → Hp → (Hp → Prop) → Prop
def PSet (X : Cx) (t : TSet) : Prop :=
  ∀ (pins : List (Addr × Obj)) (s : Shared) (σ : St) (H : Hp) (o i v : V) (ov iv u : Value) (Q : Hp → Prop), Inv X pins σ H s → RelV o ov → RelV i iv → RelV v u → t o i v H Q →
    wpAny (model X.prog X.w) X.A (setItem ov iv u) (fun _ s' => ∃ H', Inv X pins σ H' s' ∧ Q H') X.xe s
/-- a op= b, by values -/
abbrev TIp := V → V → Hp → VK → Prop
def PIp (X : Cx) (op : Operator) (t : TIp) : Prop :=
  ∀ (pins : List (Addr × Obj)) (s : Shared) (σ : St) (H : Hp) (x y : V) (v u : Value) (Q : VK), Inv X pins σ H s → RelV x v → RelV y u → t x y H Q →
    wpAny (model X.prog X.w) X.A (inplaceOp op v u) (EP X pins σ Q) X.xe s
section
variable {X : Cx} {pos : Pos}
def gName (i : Nat) : TG := fun v σ H Q => Q (σ.set i (some v)) H
theorem pg_name {i : Nat} {x : Str} (hN : X.N.Nodup) (hi : X.N[i]? = some x) (hx : Loc X.env.scope x) (hf : X.fn x = true ∨ X.env.scope.names.lookup x = some .local := by first | exact .inl rfl | exact .inr rfl | assumption) : PG X (.Name x pos) (gName i) := by
  intro pins s σ H v u Q I r h
  exact wpAny_assign_Name (store_ok I hN hi hx r (fun s' I' => ⟨_, H, I', h⟩) hf)
def gNil : TGs := fun vs σ H Q => vs = [] ∧ Q σ H
def gCons (t : TG) (u : TGs) : TGs := fun vs σ H Q => ∃ v r, vs = v :: r ∧ t v σ H fun σ' H' => u r σ' H' Q
theorem pgs_nil : PGs X [] gNil := by
  intro pins s σ H vs us Q I r h
  obtain ⟨e, h⟩ := h
  subst e
  cases r
  exact assignInOrder_nil ⟨σ, H, I, h⟩
theorem pgs_cons {e : Expr} {es : List Expr} {t : TG} {u : TGs} (h1 : PG X e t) (h2 : PGs X es u)
    (hs : (assignEach (e :: es) X.env).map (·.2) = assign e X.env :: (assignEach es X.env).map (·.2) := by rfl) : PGs X (e :: es) (gCons t u) := by
  intro pins s σ H vs us Q I r h
  obtain ⟨v, vr, e1, h⟩ := h
  subst e1
  cases r with
  | cons r rr =>
    rw [hs]
    refine assignInOrder_cons (thn (h1 pins s σ H _ _ _ I r h) fun _ s1 ⟨σ1, H1, I1, q1⟩ => ?_)
    exact h2 pins s1 σ1 H1 _ _ Q I1 rr q1
/-- (a, b, ..) = a tuple of that length -/
def gTup (K : PySem.W.Frag) (n : Nat) (t : TGs) : TG := fun v σ H Q => ∃ a xs, v = .ref a ∧ SqT K H a xs ∧ xs.length = n ∧ t xs σ H Q
theorem pg_tup {es : List Expr} {k : Nat} {t : TGs} {n : Nat} (hc : X.calm = true) (h : PGs X es t)
    (hn : (assignEach es X.env).length = n := by rfl) (hst : (assignEach es X.env).findIdx? (·.1) = none := by rfl) : PG X (.Tuple es k pos) (gTup X.K n t) := by
  intro pins s σ H v u Q I r hw
  obtain ⟨a, xs, e1, hq, hl, hw⟩ := hw
  subst e1
  cases r
  obtain ⟨its, rv, ht, hz⟩ := I.tuple hq
  refine assign_Tuple_tuple (I.ok.hd hc) ht (by simp [hn, ← hl, rv.length]) hst fun h' hx => ?_
  have I1 : Inv X pins σ H { s with heap := h' } := I.kept (t' := s.toks) fun b o e => hx b o (Nat.ne_of_lt (Heap.lt_size e)) e
  exact h pins _ σ H xs _ Q I1 (by simpa using rv) hw
/-- o[i] = .. -/
def gSub (to ti : TE) (t : TSet) : TG := fun v σ H Q => to σ H fun o H1 => ti σ H1 fun i H2 => t o i v H2 fun H3 => Q σ H3
/-- target = value -/
def tAsg (te : TE) (g : TG) : TS := fun D σ H => te σ H fun x H1 => g x σ H1 D.nx
theorem ps_asg {tg e : Expr} {te : TE} {g : TG} (he : PE X e te) (hg : PG X tg g) (hs : swapsWithSole [tg] e pos.line X.env = pure false := by rfl) (hw : swappedStores [tg] e X.env = pure none := by rfl)
    (h1 : (assignEach [tg] X.env).map (·.2) = [assign tg X.env] := by rfl) : PS X (.Assign [tg] e pos) (tAsg te g) := by
  intro pins s σ H D I h
  refine wpAny_Assign_stores (thn (he pins s σ H _ I h) fun v s1 ⟨x, H1, I1, r1, q1⟩ => ?_) hs hw
  rw [h1]
  exact thn (hg pins s1 σ H1 x v _ I1 r1 q1) fun _ s2 q => q
/-- name = value -/
theorem ps_set {i : Nat} {x : Str} {e : Expr} {te : TE} {pos' : Pos} (hN : X.N.Nodup) (hi : X.N[i]? = some x) (hx : Loc X.env.scope x) (he : PE X e te) (hs : swapsWith e (some (.Name x pos')) pos.line X.env = pure false := by rfl) (hf : X.fn x = true ∨ X.env.scope.names.lookup x = some .local := by first | exact .inl rfl | exact .inr rfl | assumption) :
    PS X (.Assign [.Name x pos'] e pos) (tAsg te (gName i)) := by
  intro pins s σ H D I h
  refine wpAny_Assign_Name (thn (he pins s σ H _ I h) fun v s1 ⟨y, H1, I1, r1, q1⟩ => ?_) hs
  exact store_ok I1 hN hi hx r1 (fun s2 I2 => ⟨_, H1, I2, q1⟩) hf
/-- a, b = x, y with plain local names: stored from the right; the pair itself is not tracked (the opening rows as in PyProof/Rows/TupAssign.lean:23) -/
def tPar (i j : Nat) (ta : TA) : TS := fun D σ H => ta σ H fun vs H1 => ∃ v w, vs = [v, w] ∧ D.nx ((σ.set i (some v)).set j (some w)) H1
/-- name op= e -/
def tAug (i : Nat) (te : TE) (ti : TIp) : TS := fun D σ H => ∃ x, σ[i]? = some (some x) ∧ te σ H fun y H1 => ti x y H1 fun z H2 => D.nx (σ.set i (some z)) H2
/-- o[i] op= e -/
def tAugS (to ti te : TE) (tget : V → V → Hp → VK → Prop) (tip : TIp) (tset : TSet) : TS := fun D σ H => to σ H fun o H1 => ti σ H1 fun i H2 => tget o i H2 fun x H3 => te σ H3 fun y H4 => tip x y H4 fun z H5 => tset o i z H5 fun H6 => D.nx σ H6
/-- o[i], by values -/
def PGet (X : Cx) (t : V → V → Hp → VK → Prop) : Prop :=
  ∀ (pins : List (Addr × Obj)) (s : Shared) (σ : St) (H : Hp) (o i : V) (ov iv : Value) (Q : VK), Inv X pins σ H s → RelV o ov → RelV i iv → t o i H Q →
    wpAny (model X.prog X.w) X.A (getItem ov iv) (EP X pins σ Q) X.xe s
/-- ints -/
def ipI (f : Int → Int → Int) : TIp := fun x y H Q => ∃ i j, x = .int i ∧ y = .int j ∧ Q (.int (f i j)) H
end

/-! ### while -/
section
variable {X : Cx} {pos : Pos}
/-- the invariant W with its measure -/
def tWhile (c : TT) (tb : TS) : TS := fun D σ H => ∃ W : Nat → St → Hp → Prop, (∃ m, W m σ H) ∧ ∀ m σ H, W m σ H →
  c σ H fun b H1 => if b = true then ∃ N : St → Hp → Prop, (∀ σ' H', N σ' H' → ∃ m', m' < m ∧ W m' σ' H') ∧ tb { D with nx := N, ct := N, bk := D.nx } σ H1 else D.nx σ H1
end

/-! ### what a loop or a comprehension walks -/
/-- at turn i: it yields x (the heap may grow), or it stops -/
structure It where
  go : Nat → Hp → Prop
  yld : Nat → Hp → V → Hp → Prop
  stop : Nat → Hp → Prop
/-- the iterator's own objects may turn: they are not the frame's, not pinned, younger than the entry (or a comprehension's own) -/
def FpOk (X : Cx) (pins : List (Addr × Obj)) (H : Hp) (b : Addr) : Prop :=
  H b = none ∧ b ≠ X.env.locals ∧ b ∉ X.fs ∧ (b ∈ X.ex ∨ X.s₀.heap.objs.size ≤ b) ∧ (∀ x c, X.env.cells.lookup x = some c → c ≠ b) ∧ ∀ p ∈ X.pn ++ pins, p.1 ≠ b
theorem Inv.fpOk {X : Cx} {pins : List (Addr × Obj)} {σ : St} {H H' : Hp} {s : Shared} {b : Addr} (I : Inv X pins σ H s) (hb : s.heap.objs.size ≤ b) (hn : H' b = none) : FpOk X pins H' b := by
  refine ⟨hn, Nat.ne_of_gt (Nat.lt_of_lt_of_le I.lt hb), I.nofs hb, .inr (Nat.le_trans I.sz hb), fun x c e z => ?_, fun p hp z => ?_⟩
  · obtain ⟨v, q⟩ := I.cell x c e
    exact absurd (Nat.lt_of_lt_of_le q.lt (by rw [z]; exact hb)) (Nat.lt_irrefl _)
  · exact absurd (Nat.lt_of_lt_of_le (Heap.lt_size (I.pin p hp).1) (by rw [z]; exact hb)) (Nat.lt_irrefl _)
structure Turn (P : Program) (w : World) (K : PySem.W.Frag) (tg : Expr) (J : It) (fp : List Addr) (it : Addr) (tn : Nat → Heap → Prop) : Prop where
  mem : it ∈ fp
  obj : ∀ i h, tn i h → ∀ b ∈ fp, ∃ o, h.get? b = some o ∧ ∀ v, o.data ≠ .cell v
  keep : ∀ i h h', tn i h → (∀ b ∈ fp, ∀ o, h.get? b = some o → h'.get? b = some o) → tn i h'
  item : ∀ (X : Cx), X.prog = P → X.w = w → X.K = K → X.calm = true → ∀ (i : Nat) (pins : List (Addr × Obj)) (s : Shared) (σ : St) (H : Hp) (E : Value → Shared → Prop), Inv X pins σ H s → (∀ b ∈ fp, FpOk X pins H b) → tn i s.heap → J.go i H →
    wpAny (model P w) X.A (pyNext (.ref it)) (fun r s1 => ∃ u, r = some u ∧
      wpAny (model P w) X.A (letOwnedTupleGo tg (.ref it) u) (fun _ s2 => ∃ x H', Inv X pins σ H' s2 ∧ RelV x u ∧ J.yld i H x H' ∧ tn (i + 1) s2.heap ∧ ∀ b ∈ fp, H' b = none) E s1) E s
  done : ∀ (X : Cx), X.prog = P → X.w = w → X.K = K → X.calm = true → ∀ (i : Nat) (pins : List (Addr × Obj)) (s : Shared) (σ : St) (H : Hp) (E : Value → Shared → Prop), Inv X pins σ H s → (∀ b ∈ fp, FpOk X pins H b) → tn i s.heap → J.stop i H →
    wpAny (model P w) X.A (pyNext (.ref it)) (fun r s1 => r = none ∧ Inv X pins σ H s1) E s
  self : ∀ (A : Around) (i : Nat) (s : Shared) (Q : Value → Shared → Prop) (E : Value → Shared → Prop), tn i s.heap → Q (.ref it) s → wpAny (model P w) A (pyIter (.ref it)) Q E s
abbrev TI := St → Hp → (It → Hp → Prop) → Prop
/-- an iterator has come -/
def PIE (X : Cx) (pins : List (Addr × Obj)) (σ : St) (tg : Expr) (R : It → Hp → Prop) (itv : Value) (s2 : Shared) : Prop :=
  ∃ (it : Addr) (fp : List Addr) (tn : Nat → Heap → Prop) (J : It) (H' : Hp), itv = .ref it ∧ Inv X pins σ H' s2 ∧ Turn X.prog X.w X.K tg J fp it tn ∧ tn 0 s2.heap ∧ (∀ b ∈ fp, FpOk X pins H' b) ∧ R J H'
def PI (X : Cx) (tg iter : Expr) (wi : TI) : Prop :=
  ∀ (pins : List (Addr × Obj)) (s : Shared) (σ : St) (H : Hp) (R : It → Hp → Prop), Inv X pins σ H s → wi σ H R →
    wpAny (model X.prog X.w) X.A (eval iter X.env) (fun v s1 => wpAny (model X.prog X.w) X.A (pyIter v) (PIE X pins σ tg R) X.xe s1) X.xe s

/-- the step ahead of the store is nothing for an iterator that keeps no tuple -/
theorem go_of {M : Model} {A : Around} {E : Value → Shared → Prop} {s : Shared} {tg : Expr} {it : Addr} {u : Value} {o : Obj} {n : String} {vs : Array Value} {Q : Unit → Shared → Prop} (ho : s.heap.get? it = some o) (hc : o.cls = .type n) (hd : o.data = .fields vs)
    (hn : ["enumerate", "zip", "dict_itemiterator", "dict_reverseitemiterator", "odict_iterator", "itertools.zip_longest", "itertools.pairwise"].contains n = false) (hQ : Q () s) : wpAny M A (letOwnedTupleGo tg (.ref it) u) Q E s := by
  unfold letOwnedTupleGo
  cases tg <;> first
    | exact wpAny_pure hQ
    | (cases u <;> first
        | exact wpAny_pure hQ
        | (refine wpAny_bind (wpAny_load ho ?_)
           rw [hc, hd]
           show wpAny M A (if (["enumerate", "zip", "dict_itemiterator", "dict_reverseitemiterator", "odict_iterator", "itertools.zip_longest", "itertools.pairwise"].contains n && vs[0]? == some (rawInt _)) = true then _ else _) Q E s
           rw [if_neg (by intro h; rw [hn, Bool.false_and] at h; cases h)]
           exact wpAny_pure hQ))

/-- the list at a, as it stands at each turn (a loop may append to it) -/
def Itl (K : PySem.W.Frag) (a : Addr) : It :=
  ⟨fun i H => ∃ xs x, SqL K H a xs ∧ xs[i]? = some x, fun i H x H' => H' = H ∧ ∀ xs, SqL K H a xs → xs[i]? = some x, fun i H => ∃ xs, SqL K H a xs ∧ xs.length ≤ i⟩
def Itt (K : PySem.W.Frag) (a : Addr) : It :=
  ⟨fun i H => ∃ xs x, SqT K H a xs ∧ xs[i]? = some x, fun i H x H' => H' = H ∧ ∀ xs, SqT K H a xs → xs[i]? = some x, fun i H => ∃ xs, SqT K H a xs ∧ xs.length ≤ i⟩
/-- lo, lo + 1, .. (n of them) -/
def Itr (lo : Int) (n : Nat) : It := ⟨fun i _ => i < n, fun i H x H' => H' = H ∧ x = .int (lo + i), fun i _ => n ≤ i⟩
theorem turn_list {P : Program} {w : World} {K : PySem.W.Frag} {tg : Expr} (a it : Addr) : Turn P w K tg (Itl K a) [it] it (fun i h => h.IsListIter it a i) where
  mem := by simp
  obj := fun i h st b hb => by
    have e : b = it := by simpa using hb
    subst e
    obtain ⟨o, e, c, d⟩ := st
    exact ⟨o, e, fun v z => by rw [d] at z; cases z⟩
  keep := fun i h h' st k => st.at fun o e => k it (by simp) o e
  item := by
    intro X hP hw hK hc i pins s σ H E I hf st hg
    subst hP hw hK
    obtain ⟨xs, x, hq, hx⟩ := hg
    obtain ⟨its, rv, p, hz⟩ := I.list hq
    obtain ⟨u, hu, ru⟩ := rv.get hx
    obtain ⟨f0, f1, f2, f3, f4, f5⟩ := hf it (by simp)
    refine wpAny_pyNext_list_item st p.isList (x := u) (by simpa using hu) fun h' st' sb => ?_
    have I1 : Inv X pins σ H { s with heap := h' } := I.turned (t' := s.toks) (fun b o hb e => (sb.2 b hb).trans e) f0 f1 f3 f4 f5
    obtain ⟨o, e, c, d⟩ := id st'
    exact ⟨u, rfl, go_of (s := { s with heap := h' }) e c d (by decide) ⟨x, H, I1, ru, ⟨rfl, fun ys hy => by rw [I.list_inj hy hq]; exact hx⟩, st', fun b hb => (hf b hb).1⟩⟩
  done := by
    intro X hP hw hK hc i pins s σ H E I hf st hg
    subst hP hw hK
    obtain ⟨xs, hq, hx⟩ := hg
    obtain ⟨its, rv, p, hz⟩ := I.list hq
    obtain ⟨f0, f1, f2, f3, f4, f5⟩ := hf it (by simp)
    have hl := rv.length
    exact wpAny_pyNext_list_end (I.ok.hd hc) st p.isList (by simp; omega) fun h' eb => ⟨rfl, I.turned (t' := s.toks) (fun b o hb e => eb b o hb e) f0 f1 f3 f4 f5⟩
  self := fun _ _ _ _ _ st h => wpAny_pyIter_listiter st h
theorem turn_tuple {P : Program} {w : World} {K : PySem.W.Frag} {tg : Expr} (a it : Addr) : Turn P w K tg (Itt K a) [it] it (fun i h => h.IsTupleIter it a i) where
  mem := by simp
  obj := fun i h st b hb => by
    have e : b = it := by simpa using hb
    subst e
    obtain ⟨o, e, c, d⟩ := st
    exact ⟨o, e, fun v z => by rw [d] at z; cases z⟩
  keep := fun i h h' st k => st.at fun o e => k it (by simp) o e
  item := by
    intro X hP hw hK hc i pins s σ H E I hf st hg
    subst hP hw hK
    obtain ⟨xs, x, hq, hx⟩ := hg
    obtain ⟨its, rv, p, hz⟩ := I.tuple hq
    obtain ⟨u, hu, ru⟩ := rv.get hx
    obtain ⟨f0, f1, f2, f3, f4, f5⟩ := hf it (by simp)
    refine wpAny_pyNext_tuple_item st (show s.heap.IsTuple a its.toArray from p) (x := u) (by simpa using hu) fun h' st' sb => ?_
    have I1 : Inv X pins σ H { s with heap := h' } := I.turned (t' := s.toks) (fun b o hb e => (sb.2 b hb).trans e) f0 f1 f3 f4 f5
    obtain ⟨o, e, c, d⟩ := id st'
    exact ⟨u, rfl, go_of (s := { s with heap := h' }) e c d (by decide) ⟨x, H, I1, ru, ⟨rfl, fun ys hy => by rw [I.tuple_inj hy hq]; exact hx⟩, st', fun b hb => (hf b hb).1⟩⟩
  done := by
    intro X hP hw hK hc i pins s σ H E I hf st hg
    subst hP hw hK
    obtain ⟨xs, hq, hx⟩ := hg
    obtain ⟨its, rv, p, hz⟩ := I.tuple hq
    obtain ⟨f0, f1, f2, f3, f4, f5⟩ := hf it (by simp)
    have hl := rv.length
    exact wpAny_pyNext_tuple_end (I.ok.hd hc) st (show s.heap.IsTuple a its.toArray from p) (by simp; omega) fun h' eb => ⟨rfl, I.turned (t' := s.toks) (fun b o hb e => eb b o hb e) f0 f1 f3 f4 f5⟩
  self := fun _ _ _ _ _ st h => wpAny_pyIter_tupleiter st h
theorem turn_range {P : Program} {w : World} {K : PySem.W.Frag} {tg : Expr} (it : Addr) (lo : Int) (n : Nat) : Turn P w K tg (Itr lo n) [it] it (fun i h => IsRangeIter h it (lo + (i : Nat) * 1) ((n : Int) - (i : Nat)) 1) where
  mem := by simp
  obj := fun i h st b hb => by
    have e : b = it := by simpa using hb
    subst e
    exact ⟨_, st, fun v z => by
      have z' : Data.fields _ = Data.cell v := z
      cases z'⟩
  keep := fun i h h' st k => k it (by simp) _ st
  item := by
    intro X hP hw hK hc i pins s σ H E I hf st hg
    subst hP hw hK
    obtain ⟨f0, f1, f2, f3, f4, f5⟩ := hf it (by simp)
    have W := Walks.range (prog := X.prog) (w := X.w) (I.ok.hd hc) it lo 1 n
    refine W.item i s _ _ hg st fun v h' tk hv st' kk => ?_
    obtain ⟨t, rfl⟩ := hv
    have I1 : Inv X pins σ H { s with heap := h', toks := tk } := I.turned (fun b o hb e => kk b o (by simpa using hb) e) f0 f1 f3 f4 f5
    refine ⟨_, rfl, go_of (s := { s with heap := h', toks := tk }) (n := "range_iterator") st' rfl rfl (by decide) ⟨.int (lo + i), H, I1, ⟨t, ?_⟩, ⟨rfl, rfl⟩, st', fun b hb => (hf b hb).1⟩⟩
    rw [Int.mul_one]
  done := by
    intro X hP hw hK hc i pins s σ H E I hf st hg
    subst hP hw hK
    obtain ⟨f0, f1, f2, f3, f4, f5⟩ := hf it (by simp)
    exact wpAny_pyNext_range_end (I.ok.hd hc) st (by have : n ≤ i := hg; omega) fun h' eb => ⟨rfl, I.turned (t' := s.toks) (fun b o hb e => eb b o hb e) f0 f1 f3 f4 f5⟩
  self := fun _ _ _ _ _ st h => wpAny_pyIter_rangeiter st h
end L2

namespace L2
open PySem PySem.Spec PyProof.Rows
section
variable {X : Cx} {tg : Expr}
def iList (K : PySem.W.Frag) (tl : TE) : TI := fun σ H R => tl σ H fun x H1 => ∃ a, x = .ref a ∧ (∃ xs, SqL K H1 a xs) ∧ R (Itl K a) H1
def iTup (K : PySem.W.Frag) (tl : TE) : TI := fun σ H R => tl σ H fun x H1 => ∃ a, x = .ref a ∧ (∃ xs, SqT K H1 a xs) ∧ R (Itt K a) H1
theorem pi_list {l : Expr} {tl : TE} (hl : PE X l tl) : PI X tg l (iList X.K tl) := by
  intro pins s σ H R I h
  refine thn (hl pins s σ H _ I h) fun v s1 ⟨x, H1, I1, r1, q1⟩ => ?_
  obtain ⟨a, e, ⟨xs, hq⟩, q⟩ := q1
  subst e
  cases r1
  obtain ⟨its, rv, p, hz⟩ := I1.list hq
  refine wpAny_pyIter_list p.isList ?_
  refine ⟨s1.heap.objs.size, [s1.heap.objs.size], _, _, H1, rfl, I1.kept (t' := s1.toks) fun b o e => Heap.get?_push_of_some _ e, turn_list a _, ⟨_, Heap.get?_push_size _ rfl, rfl, rfl⟩, fun b hb => ?_, q⟩
  have e : b = s1.heap.objs.size := by simpa using hb
  subst e
  exact I1.fpOk (Nat.le_refl _) (I1.hok.fresh (Nat.le_refl _))
/-- a range object just made, walked -/
theorem range_it {pins : List (Addr × Obj)} {σ : St} {H : Hp} {s : Shared} {R : It → Hp → Prop} {E : Value → Shared → Prop} {lo hi : Int} {t u v : Tok} {tk : Nat} (I : Inv X pins σ H s) (h1 : -(2 ^ 62) ≤ lo) (h2 : lo < 2 ^ 62) (h3 : -(2 ^ 62) ≤ hi) (h4 : hi < 2 ^ 62)
    (q : R (Itr lo (hi - lo).toNat) H) : wpAny (model X.prog X.w) X.A (pyIter (.ref s.heap.objs.size)) (PIE X pins σ tg R) E { s with heap := s.heap.push { cls := .type "range", data := .fields #[.int lo t, .int hi u, .int 1 v] }, toks := tk } := by
  refine wpAny_pyIter_range (IsRange.new ..) (small_one h1 h2 h3 h4) ?_
  have I1 : Inv X pins σ H { s with heap := s.heap.push { cls := .type "range", data := .fields #[.int lo t, .int hi u, .int 1 v] }, toks := tk } := I.kept fun b o e => Heap.get?_push_of_some _ e
  refine ⟨(s.heap.push { cls := .type "range", data := .fields #[.int lo t, .int hi u, .int 1 v] }).objs.size, [(s.heap.push { cls := .type "range", data := .fields #[.int lo t, .int hi u, .int 1 v] }).objs.size], _, _, H, rfl,
    I1.kept (t' := tk) fun b o e => Heap.get?_push_of_some _ e, turn_range _ lo (hi - lo).toNat, ?_, fun b hb => ?_, q⟩
  · have e1 : lo + ((0 : Nat) : Int) * 1 = lo := by simp
    have e2 : (((hi - lo).toNat : Nat) : Int) - ((0 : Nat) : Int) = Builtin.Range.rangeSize lo hi 1 := by rw [rangeSize_one]; split <;> omega
    show IsRangeIter _ _ (lo + ((0 : Nat) : Int) * 1) ((((hi - lo).toNat : Nat) : Int) - ((0 : Nat) : Int)) 1
    rw [e1, e2]
    exact Heap.get?_push_size _ rfl
  · have e : b = (s.heap.push { cls := .type "range", data := .fields #[.int lo t, .int hi u, .int 1 v] }).objs.size := by simpa using hb
    subst e
    exact I1.fpOk (Nat.le_refl _) (I1.hok.fresh (Nat.le_refl _))
def iRng1 (ta : TA) : TI := fun σ H R => ta σ H fun vs H1 => ∃ j : Int, vs = [.int j] ∧ -(2 ^ 62) ≤ j ∧ j < 2 ^ 62 ∧ R (Itr 0 j.toNat) H1
def iRng2 (ta : TA) : TI := fun σ H R => ta σ H fun vs H1 => ∃ i j : Int, vs = [.int i, .int j] ∧ (-(2 ^ 62) ≤ i ∧ i < 2 ^ 62 ∧ -(2 ^ 62) ≤ j ∧ j < 2 ^ 62) ∧ R (Itr i (j - i).toNat) H1
theorem pi_range1 {a : Expr} {ta : TA} {p pos : Pos} (hg : Gl X "range") (hm : X.mg "range" = none) (ha : PA X [a] ta) (hs : starEach [a] X.env = [(false, eval a X.env)] := by rfl) : PI X tg (.Call (.Name "range" p) [a] [] pos) (iRng1 ta) := by
  intro pins s σ H R I h
  refine Call_ (ld_blt I hg hm boot_range (PyProof.Rows.callWith_type1 (thn (ha pos pins s σ H _ I h) fun us s1 ⟨vs, H1, I1, r1, q1⟩ => ?_) hs rfl))
  obtain ⟨j, e, q1, q2, q⟩ := q1
  subst e
  cases r1 with
  | cons r rr =>
    cases rr
    obtain ⟨t, rfl⟩ := r
    exact call_range_1 (range_it I1 (by omega) (by omega) q1 q2 (by simpa using q))
theorem pi_range2 {a b : Expr} {ta : TA} {p pos : Pos} (hg : Gl X "range") (hm : X.mg "range" = none) (ha : PA X [a, b] ta) (hs : starEach [a, b] X.env = [(false, eval a X.env), (false, eval b X.env)] := by rfl) (hs2 : starEach [b] X.env = [(false, eval b X.env)] := by rfl) :
    PI X tg (.Call (.Name "range" p) [a, b] [] pos) (iRng2 ta) := by
  intro pins s σ H R I h
  refine Call_ (ld_blt I hg hm boot_range (PyProof.Rows.callWith_type1 (thn (ha pos pins s σ H _ I h) fun us s1 ⟨vs, H1, I1, r1, q1⟩ => ?_) (by rw [hs, hs2]) (by rw [hs2]; rfl)))
  obtain ⟨i, j, e, ⟨q1, q2, q3, q4⟩, q⟩ := q1
  subst e
  cases r1 with
  | cons r rr =>
    cases rr with
    | cons r' rr =>
      cases rr
      obtain ⟨t, rfl⟩ := r
      obtain ⟨t', rfl⟩ := r'
      exact call_range_2 (range_it I1 q1 q2 q3 q4 q)

/-! ### for -/
/-- W: the invariant by the turn and a measure; N: what the body is to reach -/
def tFor (wi : TI) (g : TG) (tb : TS) : TS := fun D σ H => wi σ H fun J H1 => ∃ W : Nat → Nat → St → Hp → Prop, (∃ m, W 0 m σ H1) ∧ ∀ i m σ H, W i m σ H →
  (J.stop i H ∧ D.nx σ H) ∨ (J.go i H ∧ ∃ N : St → Hp → Prop, (∀ σ' H', N σ' H' → ∃ m', m' < m ∧ W (i + 1) m' σ' H') ∧ ∀ x H', J.yld i H x H' → g x σ H' fun σ2 H2 => tb { D with nx := N, ct := N, bk := D.nx } σ2 H2)
/-- the records at fp as they stand -/
def pinsAt (fp : List Addr) (h : Heap) : List (Addr × Obj) := fp.filterMap fun b => (h.get? b).map fun o => (b, o)
theorem mem_pinsAt {fp : List Addr} {h : Heap} {b : Addr} {o : Obj} (hb : b ∈ fp) (e : h.get? b = some o) : (b, o) ∈ pinsAt fp h := List.mem_filterMap.mpr ⟨b, hb, by rw [e]; rfl⟩
theorem of_pinsAt {fp : List Addr} {h : Heap} {p : Addr × Obj} (hp : p ∈ pinsAt fp h) : p.1 ∈ fp ∧ h.get? p.1 = some p.2 := by
  obtain ⟨b, hb, e⟩ := List.mem_filterMap.mp hp
  cases q : h.get? b with
  | none => rw [q] at e; cases e
  | some o =>
    rw [q] at e
    have e' : (b, o) = p := Option.some.inj e
    subst e'
    exact ⟨hb, q⟩
theorem Inv.pinned {pins : List (Addr × Obj)} {σ : St} {H : Hp} {s : Shared} {fp : List Addr} (I : Inv X pins σ H s) (hf : ∀ b ∈ fp, FpOk X pins H b) (ho : ∀ b ∈ fp, ∃ o, s.heap.get? b = some o ∧ ∀ v, o.data ≠ .cell v) : Inv X (pins ++ pinsAt fp s.heap) σ H s :=
  I.pins_of fun p hp => (List.mem_append.mp hp).elim (fun z => I.pin p (List.mem_append_right _ z)) fun z => by
    obtain ⟨hb, e⟩ := of_pinsAt z
    obtain ⟨f0, f1, f2, _⟩ := hf p.1 hb
    obtain ⟨o, e', d⟩ := ho p.1 hb
    rw [e] at e'; cases e'
    exact ⟨e, f0, f1, f2, d⟩
theorem Inv.unpinned {pins pl : List (Addr × Obj)} {σ : St} {H : Hp} {s : Shared} (I : Inv X (pins ++ pl) σ H s) : Inv X pins σ H s := I.pins_of fun p hp => I.pin p (List.mem_append_right _ (List.mem_append_left _ hp))
theorem ps_for {iter : Expr} {body : List Stmt} {wi : TI} {g : TG} {tb : TS} {pos : Pos} (hp : PassesOwn (model X.prog X.w) X.A X.env X.xe) (hc : X.calm = true) (hi : PI X tg iter wi) (hg : PG X tg g) (hb : PSs X body tb)
    (hs : ∀ x, foldedSetIterable iter X.env x = pure x := by intro _; rfl) : PS X (.For tg iter body [] pos) (tFor wi g tb) := by
  intro pins s σ H D I h
  refine wpAny_For (thn (hi pins s σ H _ I h) fun v s1 h1 => thn h1 fun itv s2 h2 => ?_) hs
  obtain ⟨it, fp, tn, J, H2, e, I2, T, st2, f2, W, ⟨m0, w0⟩, turn⟩ := h2
  subst e
  -- what stays true of the iterator's objects through the loop
  have stat : ∀ {H' : Hp}, (∀ b ∈ fp, H' b = none) → ∀ b ∈ fp, FpOk X pins H' b := fun hn b hb => ⟨hn b hb, (f2 b hb).2⟩
  refine codeAny_forLoop_any (fun n s' => ∃ i σ' H', Inv X pins σ' H' s' ∧ tn i s'.heap ∧ (∀ b ∈ fp, H' b = none) ∧ W i n σ' H') ?_ m0 ⟨0, σ, H2, I2, st2, fun b hb => (f2 b hb).1, w0⟩
  rintro n s3 ⟨i, σ3, H3, I3, st3, fr3, w3⟩
  rcases turn i n σ3 H3 w3 with ⟨stop, qn⟩ | ⟨go, N, hN, step⟩
  · refine wpAny_passesOwn hp (thn (T.done X rfl rfl rfl hc i pins s3 σ3 H3 X.xe I3 (stat fr3) st3 stop) fun r s4 ⟨hr, I4⟩ => ?_)
    subst hr
    exact wpAny_execs_nil ⟨σ3, H3, I4, qn⟩
  · refine wpAny_passesOwn hp (thn (T.item X rfl rfl rfl hc i pins s3 σ3 H3 X.xe I3 (stat fr3) st3 go) fun r s4 ⟨u, hr, h4⟩ => ?_)
    subst hr
    refine wpAny_passesOwn hp (thn h4 fun _ s5 ⟨x, H5, I5, r5, y5, st5, fr5⟩ => ?_)
    have I5' := I5.pinned (stat fr5) (T.obj _ _ st5)
    refine wpAny_passesOwn hp (thn (hg _ s5 σ3 H5 x u _ I5' r5 (step x H5 y5)) fun _ s6 ⟨σ6, H6, I6, q6⟩ => ?_)
    refine wpAny_passesOwn hp (thn (hb _ s6 σ6 H6 _ I6 q6) fun f s7 q7 => ?_)
    have again : ∀ {σ7 : St} {H7 : Hp}, Inv X (pins ++ pinsAt fp s5.heap) σ7 H7 s7 → N σ7 H7 → ∃ m, m < n ∧ ∃ i σ' H', Inv X pins σ' H' s7 ∧ tn i s7.heap ∧ (∀ b ∈ fp, H' b = none) ∧ W i m σ' H' := fun {σ7 H7} I7 n7 => by
      obtain ⟨m', hm, w7⟩ := hN σ7 H7 n7
      refine ⟨m', hm, i + 1, σ7, H7, I7.unpinned, T.keep _ _ _ st5 fun b hb o e => (I7.pin (b, o) (List.mem_append_right _ (List.mem_append_right _ (mem_pinsAt hb e)))).1, fun b hb => ?_, w7⟩
      obtain ⟨o, e, d⟩ := T.obj _ _ st5 b hb
      exact (I7.pin (b, o) (List.mem_append_right _ (List.mem_append_right _ (mem_pinsAt hb e)))).2.1
    cases f with
    | next => obtain ⟨σ7, H7, I7, n7⟩ := q7; exact again I7 n7
    | cont => obtain ⟨σ7, H7, I7, n7⟩ := q7; exact again I7 n7
    | brk => obtain ⟨σ7, H7, I7, q7⟩ := q7; exact ⟨σ7, H7, I7.unpinned, q7⟩
    | ret v => obtain ⟨x7, σ7, H7, I7, r7, q7⟩ := q7; exact ⟨x7, σ7, H7, I7.unpinned, r7, q7⟩
end

/-! ### the forms one uses -/
/-- over a list that the body leaves as it is -/
theorem for_list {K : PySem.W.Frag} {a : Addr} {xs : List V} {g : TG} {tb : TS} {D : Ends} {σ : St} {H : Hp} (Pv : Nat → St → Hp → Prop) (h0 : Pv 0 σ H) (hl : ∀ i σ H, i ≤ xs.length → Pv i σ H → SqL K H a xs)
    (hs : ∀ i x σ H, xs[i]? = some x → Pv i σ H → g x σ H fun σ2 H2 => tb { D with nx := Pv (i + 1), ct := Pv (i + 1), bk := D.nx } σ2 H2) (hd : ∀ σ H, Pv xs.length σ H → D.nx σ H) :
    ∃ W : Nat → Nat → St → Hp → Prop, (∃ m, W 0 m σ H) ∧ ∀ i m σ H, W i m σ H →
      ((Itl K a).stop i H ∧ D.nx σ H) ∨ ((Itl K a).go i H ∧ ∃ N : St → Hp → Prop, (∀ σ' H', N σ' H' → ∃ m', m' < m ∧ W (i + 1) m' σ' H') ∧ ∀ x H', (Itl K a).yld i H x H' → g x σ H' fun σ2 H2 => tb { D with nx := N, ct := N, bk := D.nx } σ2 H2) := by
  refine ⟨fun i m σ H => m = xs.length - i ∧ i ≤ xs.length ∧ Pv i σ H, ⟨xs.length, by simp, Nat.zero_le _, h0⟩, ?_⟩
  rintro i m σ H ⟨rfl, hi, p⟩
  have q := hl i σ H hi p
  by_cases hlt : i < xs.length
  · refine .inr ⟨⟨xs, xs[i], q, by simp [hlt]⟩, Pv (i + 1), fun σ' H' p' => ⟨xs.length - (i + 1), by omega, rfl, hlt, p'⟩, fun x H' y => ?_⟩
    obtain ⟨e, y⟩ := y
    subst e
    exact hs i x σ _ (y xs q) p
  · have e : i = xs.length := by omega
    subst e
    exact .inl ⟨⟨xs, q, Nat.le_refl _⟩, hd σ H p⟩
theorem for_tup {K : PySem.W.Frag} {a : Addr} {xs : List V} {g : TG} {tb : TS} {D : Ends} {σ : St} {H : Hp} (Pv : Nat → St → Hp → Prop) (h0 : Pv 0 σ H) (hl : ∀ i σ H, i ≤ xs.length → Pv i σ H → SqT K H a xs)
    (hs : ∀ i x σ H, xs[i]? = some x → Pv i σ H → g x σ H fun σ2 H2 => tb { D with nx := Pv (i + 1), ct := Pv (i + 1), bk := D.nx } σ2 H2) (hd : ∀ σ H, Pv xs.length σ H → D.nx σ H) :
    ∃ W : Nat → Nat → St → Hp → Prop, (∃ m, W 0 m σ H) ∧ ∀ i m σ H, W i m σ H →
      ((Itt K a).stop i H ∧ D.nx σ H) ∨ ((Itt K a).go i H ∧ ∃ N : St → Hp → Prop, (∀ σ' H', N σ' H' → ∃ m', m' < m ∧ W (i + 1) m' σ' H') ∧ ∀ x H', (Itt K a).yld i H x H' → g x σ H' fun σ2 H2 => tb { D with nx := N, ct := N, bk := D.nx } σ2 H2) := by
  refine ⟨fun i m σ H => m = xs.length - i ∧ i ≤ xs.length ∧ Pv i σ H, ⟨xs.length, by simp, Nat.zero_le _, h0⟩, ?_⟩
  rintro i m σ H ⟨rfl, hi, p⟩
  have q := hl i σ H hi p
  by_cases hlt : i < xs.length
  · refine .inr ⟨⟨xs, xs[i], q, by simp [hlt]⟩, Pv (i + 1), fun σ' H' p' => ⟨xs.length - (i + 1), by omega, rfl, hlt, p'⟩, fun x H' y => ?_⟩
    obtain ⟨e, y⟩ := y
    subst e
    exact hs i x σ _ (y xs q) p
  · have e : i = xs.length := by omega
    subst e
    exact .inl ⟨⟨xs, q, Nat.le_refl _⟩, hd σ H p⟩
theorem for_range {lo : Int} {n : Nat} {g : TG} {tb : TS} {D : Ends} {σ : St} {H : Hp} (Pv : Nat → St → Hp → Prop) (h0 : Pv 0 σ H)
    (hs : ∀ i σ H, i < n → Pv i σ H → g (.int (lo + i)) σ H fun σ2 H2 => tb { D with nx := Pv (i + 1), ct := Pv (i + 1), bk := D.nx } σ2 H2) (hd : ∀ σ H, Pv n σ H → D.nx σ H) :
    ∃ W : Nat → Nat → St → Hp → Prop, (∃ m, W 0 m σ H) ∧ ∀ i m σ H, W i m σ H →
      ((Itr lo n).stop i H ∧ D.nx σ H) ∨ ((Itr lo n).go i H ∧ ∃ N : St → Hp → Prop, (∀ σ' H', N σ' H' → ∃ m', m' < m ∧ W (i + 1) m' σ' H') ∧ ∀ x H', (Itr lo n).yld i H x H' → g x σ H' fun σ2 H2 => tb { D with nx := N, ct := N, bk := D.nx } σ2 H2) := by
  refine ⟨fun i m σ H => m = n - i ∧ i ≤ n ∧ Pv i σ H, ⟨n, by simp, Nat.zero_le _, h0⟩, ?_⟩
  rintro i m σ H ⟨rfl, hi, p⟩
  by_cases hlt : i < n
  · refine .inr ⟨hlt, Pv (i + 1), fun σ' H' p' => ⟨n - (i + 1), by omega, rfl, hlt, p'⟩, fun x H' y => ?_⟩
    obtain ⟨e, y⟩ := y
    subst e y
    exact hs i σ _ hlt p
  · have e : i = n := by omega
    subst e
    exact .inl ⟨Nat.le_refl _, hd σ H p⟩
end L2

namespace L2
open PySem PySem.Spec PyProof.Rows

abbrev R2 := V → V → Hp → VK → Prop
/-- a two-place operation on values: f is binaryOp op, inplaceOp op or compareOp op -/
def OpR (X : Cx) (f : Value → Value → Sem Value) (r : R2) : Prop :=
  ∀ (pins : List (Addr × Obj)) (s : Shared) (σ : St) (H : Hp) (x y : V) (v u : Value) (Q : VK), Inv X pins σ H s → RelV x v → RelV y u → r x y H Q →
    wpAny (model X.prog X.w) X.A (f v u) (EP X pins σ Q) X.xe s
/-- a one-place operation -/
def UnR (X : Cx) (f : Value → Sem Value) (r : V → Hp → VK → Prop) : Prop :=
  ∀ (pins : List (Addr × Obj)) (s : Shared) (σ : St) (H : Hp) (x : V) (v : Value) (Q : VK), Inv X pins σ H s → RelV x v → r x H Q →
    wpAny (model X.prog X.w) X.A (f v) (EP X pins σ Q) X.xe s
/-- a call of a value that is known (a builtin, a type) with values -/
def CallR (X : Cx) (f : Value) (r : List V → Hp → VK → Prop) : Prop :=
  ∀ (pins : List (Addr × Obj)) (s : Shared) (σ : St) (H : Hp) (xs : List V) (us : List Value) (Q : VK), Inv X pins σ H s → Vals xs us → r xs H Q →
    wpAny (model X.prog X.w) X.A (call f us) (EP X pins σ Q) X.xe s
/-- a value's truth -/
def TruR (X : Cx) (r : V → Hp → (Bool → Hp → Prop) → Prop) : Prop :=
  ∀ (pins : List (Addr × Obj)) (s : Shared) (σ : St) (H : Hp) (x : V) (v : Value) (Q : Bool → Hp → Prop), Inv X pins σ H s → RelV x v → r x H Q →
    wpAny (model X.prog X.w) X.A (truthy v) (TP X pins σ Q) X.xe s

def tOp (r : R2) (ta tb : TE) : TE := fun σ H Q => ta σ H fun x H1 => tb σ H1 fun y H2 => r x y H2 Q
def tUn (r : V → Hp → VK → Prop) (ta : TE) : TE := fun σ H Q => ta σ H fun x H1 => r x H1 Q
/-- ints in, under C, and a value out -/
def rI (C : Int → Int → Prop) (g : Int → Int → V) : R2 := fun x y H Q => ∃ i j, x = .int i ∧ y = .int j ∧ C i j ∧ Q (g i j) H
def rI0 (g : Int → Int → V) : R2 := fun x y H Q => ∃ i j, x = .int i ∧ y = .int j ∧ Q (g i j) H
def rU (g : Int → V) : V → Hp → VK → Prop := fun x H Q => ∃ i, x = .int i ∧ Q (g i) H

section
variable {X : Cx} {a b c : Expr} {ta tb tc : TE} {pos : Pos}

theorem binT (ha : PE X a ta) (hb : PE X b tb) {pins : List (Addr × Obj)} {s : Shared} {σ : St} {H : Hp} {R : V → V → Hp → Prop} (I : Inv X pins σ H s)
    (h : ta σ H fun x H1 => tb σ H1 fun y H2 => R x y H2) {Q : Value → Shared → Prop} {f : Value → Value → Sem Value}
    (hf : ∀ v u s2 x y H2, Inv X pins σ H2 s2 → RelV x v → RelV y u → R x y H2 → wpAny (model X.prog X.w) X.A (f v u) Q X.xe s2) :
    wpAny (model X.prog X.w) X.A (eval a X.env) (fun v s₁ => wpAny (model X.prog X.w) X.A (eval b X.env) (fun u s₂ => wpAny (model X.prog X.w) X.A (f v u) Q X.xe s₂) X.xe s₁) X.xe s := by
  refine thn (ha pins s σ H _ I h) fun v s1 ⟨x, H1, I1, r1, q1⟩ => ?_
  refine thn (hb pins s1 σ H1 _ I1 q1) fun u s2 ⟨y, H2, I2, r2, q2⟩ => ?_
  exact hf v u s2 x y H2 I2 r1 r2 q2

theorem pe_op {op : Operator} {r : R2} (ho : OpR X (binaryOp op) r) (ha : PE X a ta) (hb : PE X b tb) : PE X (.BinOp a op b pos) (tOp r ta tb) := by
  intro pins s σ H Q I h
  exact wpAny_BinOp (binT ha hb I h fun v u s2 x y H2 I2 rx ry q => ho pins s2 σ H2 x y v u Q I2 rx ry q)
theorem pe_un {op : UnaryOp} {r : V → Hp → VK → Prop} (ho : UnR X (unaryOp op) r) (ha : PE X a ta) : PE X (.UnaryOp op a pos) (tUn r ta) := by
  intro pins s σ H Q I h
  exact UnaryOp_ (thn (ha pins s σ H _ I h) fun v s1 ⟨x, H1, I1, r1, q1⟩ => ho pins s1 σ H1 x v Q I1 r1 q1)
/-! ### ints -/
theorem opI {f : Value → Value → Sem Value} {C : Int → Int → Prop} {g : Int → Int → Int}
    (rule : ∀ (i j : Int) (t u : Tok) (s : Shared) (Q : Value → Shared → Prop) (E : Value → Shared → Prop), C i j → Q (.int (g i j) s.toks) { s with toks := s.toks + 1 } → wpAny (model X.prog X.w) X.A (f (.int i t) (.int j u)) Q E s) :
    OpR X f (rI C fun i j => .int (g i j)) := by
  intro pins s σ H x y v u Q I rx ry h
  obtain ⟨i, j, rfl, rfl, hc, q⟩ := h
  obtain ⟨t, rfl⟩ := rx
  obtain ⟨t', rfl⟩ := ry
  exact rule i j t t' s _ _ hc ⟨.int (g i j), H, I.tok _, ⟨_, rfl⟩, q⟩
theorem opI0 {f : Value → Value → Sem Value} {g : Int → Int → Int}
    (rule : ∀ (i j : Int) (t u : Tok) (s : Shared) (Q : Value → Shared → Prop) (E : Value → Shared → Prop), Q (.int (g i j) s.toks) { s with toks := s.toks + 1 } → wpAny (model X.prog X.w) X.A (f (.int i t) (.int j u)) Q E s) :
    OpR X f (rI0 fun i j => .int (g i j)) := by
  intro pins s σ H x y v u Q I rx ry h
  obtain ⟨i, j, rfl, rfl, q⟩ := h
  obtain ⟨t, rfl⟩ := rx
  obtain ⟨t', rfl⟩ := ry
  exact rule i j t t' s _ _ ⟨.int (g i j), H, I.tok _, ⟨_, rfl⟩, q⟩
theorem opB0 {f : Value → Value → Sem Value} {g : Int → Int → Bool}
    (rule : ∀ (i j : Int) (t u : Tok) (s : Shared) (Q : Value → Shared → Prop) (E : Value → Shared → Prop), Q (.bool (g i j)) s → wpAny (model X.prog X.w) X.A (f (.int i t) (.int j u)) Q E s) :
    OpR X f (rI0 fun i j => .bl (g i j)) := by
  intro pins s σ H x y v u Q I rx ry h
  obtain ⟨i, j, rfl, rfl, q⟩ := h
  obtain ⟨t, rfl⟩ := rx
  obtain ⟨t', rfl⟩ := ry
  exact rule i j t t' s _ _ ⟨.bl (g i j), H, I, rfl, q⟩

def CDiv (i j : Int) : Prop := 0 < j ∧ j < 1073741824
def CDivN (i j : Int) : Prop := j ≠ 0 ∧ j.natAbs < 1073741824
def CPow (i j : Int) : Prop := 0 ≤ j ∧ j ≤ 1000000 ∧ i.natAbs < 2 ^ 64
def CMul (i j : Int) : Prop := (-(2 ^ 64) < i ∧ i < 2 ^ 64) ∨ (-(2 ^ 64) < j ∧ j < 2 ^ 64)
theorem CMul.ok {i j : Int} (h : CMul i j) : IntMulOk i j := by
  rcases h with ⟨h1, h2⟩ | ⟨h1, h2⟩
  · exact .of_left (intBits_le_64 h1 h2)
  · exact .of_right (intBits_le_64 h1 h2)
theorem op_add : OpR X (binaryOp .Add) (rI0 fun i j => .int (i + j)) := opI0 fun _ _ _ _ _ _ _ q => add_int q
theorem op_sub : OpR X (binaryOp .Sub) (rI0 fun i j => .int (i - j)) := opI0 fun _ _ _ _ _ _ _ q => sub_int q
theorem op_mul : OpR X (binaryOp .Mult) (rI CMul fun i j => .int (i * j)) := opI fun _ _ _ _ _ _ _ hc q => mul_int q hc.ok
/-- // by a positive divisor -/
theorem op_fdiv : OpR X (binaryOp .FloorDiv) (rI CDiv fun i j => .int (i / j)) := opI fun i j _ _ _ _ _ hc q => by
  have h1 : (0 : Int) < j := hc.1
  have h2 : j < 1073741824 := hc.2
  exact floordiv_int (by omega) (by rw [Int.fdiv_eq_ediv_of_nonneg i (by omega)]; exact q) (.inl (PyProof.noPylong_small (by omega)))
/-- % by a positive divisor of any size -/
theorem op_mod : OpR X (binaryOp .Mod) (rI (fun _ j => 0 < j) fun i j => .int (i % j)) := opI fun i j _ _ _ _ _ hc q => by
  have h1 : (0 : Int) < j := hc
  exact mod_int' (by omega) (by rw [Int.fmod_eq_emod_of_nonneg i (by omega)]; exact q)
theorem op_pow : OpR X (binaryOp .Pow) (rI CPow fun i j => .int (i ^ j.toNat)) := opI fun _ _ _ _ _ _ _ hc q => pow_int_small hc.1 hc.2.1 hc.2.2 q
theorem unI {f : Value → Sem Value} {g : Int → Int}
    (rule : ∀ (i : Int) (t : Tok) (s : Shared) (Q : Value → Shared → Prop) (E : Value → Shared → Prop), Q (.int (g i) s.toks) { s with toks := s.toks + 1 } → wpAny (model X.prog X.w) X.A (f (.int i t)) Q E s) :
    UnR X f (rU fun i => .int (g i)) := by
  intro pins s σ H x v Q I rx h
  obtain ⟨i, rfl, q⟩ := h
  obtain ⟨t, rfl⟩ := rx
  exact rule i t s _ _ ⟨.int (g i), H, I.tok _, ⟨_, rfl⟩, q⟩
theorem un_neg : UnR X (unaryOp .USub) (rU fun i => .int (-i)) := unI fun _ _ _ _ _ q => neg_int q
/-! ### bools among ints: n += (a < b) -/
end

/-! ### comparisons -/
/-- the scalars that == tells apart as data does -/
def scal : V → V → Bool
  | .non, .non => true | .non, .int _ => true | .int _, .non => true | .non, .bl _ => true | .bl _, .non => true | .non, .str _ => true | .str _, .non => true
  | .int _, .int _ => true | .bl _, .bl _ => true | .str _, .str _ => true | .byt _, .byt _ => true
  | .int _, .str _ => true | .str _, .int _ => true | .bl _, .str _ => true | .str _, .bl _ => true
  | _, _ => false
def rEq : R2 := fun x y H Q => scal x y = true ∧ Q (.bl (decide (x = y))) H
def rNe : R2 := fun x y H Q => scal x y = true ∧ Q (.bl (!decide (x = y))) H

theorem dec_int {i j : Int} : decide (V.int i = V.int j) = (i == j) := by
  rw [Bool.eq_iff_iff]
  simp
theorem dec_bl {i j : Bool} : decide (V.bl i = V.bl j) = (i == j) := by
  rw [Bool.eq_iff_iff]
  simp
theorem dec_str {i j : Str} : decide (V.str i = V.str j) = (i == j) := by
  rw [Bool.eq_iff_iff]
  simp
theorem dec_byt {i j : Array UInt8} : decide (V.byt i = V.byt j) = (i.toList == j.toList) := by
  rw [Bool.eq_iff_iff]
  cases i
  cases j
  simp

section
variable {X : Cx} {a b c : Expr} {ta tb tc : TE} {pos : Pos}
theorem fin_bl {pins : List (Addr × Obj)} {σ : St} {H : Hp} {s : Shared} {Q : VK} {k k' : Bool} (I : Inv X pins σ H s) (q : Q (.bl k) H) (e : k = k') : EP X pins σ Q (.bool k') s := by
  subst e
  exact ⟨.bl k, H, I, rfl, q⟩
theorem op_eq : OpR X (compareOp .Eq) rEq := by
  intro pins s σ H x y v u Q I rx ry h
  obtain ⟨hs, q⟩ := h
  cases x with
  | non =>
    cases rx
    cases y with
    | non => cases ry; exact PySem.EqNone.eq_none_none (fin_bl I q (by simp))
    | bl j => cases ry; exact PySem.EqNone.eq_none_bool (fin_bl I q (by simp))
    | int j => obtain ⟨t', rfl⟩ := ry; exact PySem.EqNone.eq_none_int (fin_bl I q (by simp))
    | str j => obtain ⟨t', rfl⟩ := ry; exact PySem.EqNone.eq_none_str (fin_bl I q (by simp))
    | _ => exact absurd (show false = true from hs) Bool.false_ne_true
  | bl i =>
    cases rx
    cases y with
    | non => cases ry; exact PySem.EqNone.eq_bool_none (fin_bl I q (by simp))
    | bl j => cases ry; exact eq_bool (fin_bl I q dec_bl)
    | str j => obtain ⟨t', rfl⟩ := ry; exact PySem.EqMixed.eq_bool_str (fin_bl I q (by simp))
    | _ => exact absurd (show false = true from hs) Bool.false_ne_true
  | int i =>
    obtain ⟨t, rfl⟩ := rx
    cases y with
    | non => cases ry; exact PySem.EqNone.eq_int_none (fin_bl I q (by simp))
    | int j => obtain ⟨t', rfl⟩ := ry; exact eq_int (fin_bl I q dec_int)
    | str j => obtain ⟨t', rfl⟩ := ry; exact PySem.EqMixed.eq_int_str (fin_bl I q (by simp))
    | _ => exact absurd (show false = true from hs) Bool.false_ne_true
  | str i =>
    obtain ⟨t, rfl⟩ := rx
    cases y with
    | non => cases ry; exact PySem.EqNone.eq_str_none (fin_bl I q (by simp))
    | bl j => cases ry; exact PySem.EqMixed.eq_str_bool (fin_bl I q (by simp))
    | int j => obtain ⟨t', rfl⟩ := ry; exact PySem.EqMixed.eq_str_int (fin_bl I q (by simp))
    | str j => obtain ⟨t', rfl⟩ := ry; exact eq_str (fin_bl I q dec_str)
    | _ => exact absurd (show false = true from hs) Bool.false_ne_true
  | byt i =>
    obtain ⟨t, rfl⟩ := rx
    cases y with
    | byt j => obtain ⟨t', rfl⟩ := ry; exact PySem.W.eq_bytes (fin_bl I q dec_byt)
    | _ => exact absurd (show false = true from hs) Bool.false_ne_true
  | _ => cases y <;> exact absurd (show false = true from hs) Bool.false_ne_true
theorem op_ne : OpR X (compareOp .NotEq) rNe := by
  intro pins s σ H x y v u Q I rx ry h
  obtain ⟨hs, q⟩ := h
  cases x with
  | non =>
    cases rx
    cases y with
    | non => cases ry; exact PySem.EqNone.ne_none_none (fin_bl I q (by simp))
    | bl j => cases ry; exact PySem.EqNone.ne_none_bool (fin_bl I q (by simp))
    | int j => obtain ⟨t', rfl⟩ := ry; exact PySem.EqNone.ne_none_int (fin_bl I q (by simp))
    | str j => obtain ⟨t', rfl⟩ := ry; exact PySem.EqNone.ne_none_str (fin_bl I q (by simp))
    | _ => exact absurd (show false = true from hs) Bool.false_ne_true
  | bl i =>
    cases rx
    cases y with
    | non => cases ry; exact PySem.EqNone.ne_bool_none (fin_bl I q (by simp))
    | bl j => cases ry; exact ne_bool (fin_bl I q (congrArg not dec_bl))
    | str j => obtain ⟨t', rfl⟩ := ry; exact PySem.EqMixed.ne_bool_str (fin_bl I q (by simp))
    | _ => exact absurd (show false = true from hs) Bool.false_ne_true
  | int i =>
    obtain ⟨t, rfl⟩ := rx
    cases y with
    | non => cases ry; exact PySem.EqNone.ne_int_none (fin_bl I q (by simp))
    | int j => obtain ⟨t', rfl⟩ := ry; exact ne_int (fin_bl I q (congrArg not dec_int))
    | str j => obtain ⟨t', rfl⟩ := ry; exact PySem.EqMixed.ne_int_str (fin_bl I q (by simp))
    | _ => exact absurd (show false = true from hs) Bool.false_ne_true
  | str i =>
    obtain ⟨t, rfl⟩ := rx
    cases y with
    | non => cases ry; exact PySem.EqNone.ne_str_none (fin_bl I q (by simp))
    | bl j => cases ry; exact PySem.EqMixed.ne_str_bool (fin_bl I q (by simp))
    | int j => obtain ⟨t', rfl⟩ := ry; exact PySem.EqMixed.ne_str_int (fin_bl I q (by simp))
    | str j => obtain ⟨t', rfl⟩ := ry; exact ne_str (fin_bl I q (congrArg not dec_str))
    | _ => exact absurd (show false = true from hs) Bool.false_ne_true
  | byt i =>
    obtain ⟨t, rfl⟩ := rx
    cases y with
    | byt j => obtain ⟨t', rfl⟩ := ry; exact PySem.W.ne_bytes (fin_bl I q (congrArg not dec_byt))
    | _ => exact absurd (show false = true from hs) Bool.false_ne_true
  | _ => cases y <;> exact absurd (show false = true from hs) Bool.false_ne_true

theorem op_lt : OpR X (compareOp .Lt) (rI0 fun i j => .bl (decide (i < j))) := opB0 fun _ _ _ _ _ _ _ q => lt_int q
theorem op_le : OpR X (compareOp .LtE) (rI0 fun i j => .bl (decide (i ≤ j))) := opB0 fun _ _ _ _ _ _ _ q => le_int q
theorem op_gt : OpR X (compareOp .Gt) (rI0 fun i j => .bl (decide (j < i))) := opB0 fun _ _ _ _ _ _ _ q => gt_int q
theorem op_ge : OpR X (compareOp .GtE) (rI0 fun i j => .bl (decide (j ≤ i))) := opB0 fun _ _ _ _ _ _ _ q => ge_int q
theorem op_notN : OpR X (compareOp .IsNot) (fun x y H Q => y = .non ∧ Q (.bl (!decide (x = .non))) H) := by
  intro pins s σ H x y v u Q I rx ry h
  obtain ⟨rfl, q⟩ := h
  cases ry
  refine isnot_none_gen (fin_bl I q ?_)
  cases x <;> first
    | (cases rx; rfl)
    | (obtain ⟨t, rfl⟩ := rx; rfl)

/-- is, is not of two objects that are tracked lists or instances -/
def isObj : HO → Bool
  | .lst _ => true
  | .ins _ _ _ => true
  | _ => false
theorem nomark (b : Expr) {op : CmpOp} (h : op ≠ .In := by decide) (h2 : op ≠ .NotIn := by decide) : behindInMarks op b = false := by
  have e1 : (op == CmpOp.In) = false := by cases op <;> first | rfl | exact absurd rfl h
  have e2 : (op == CmpOp.NotIn) = false := by cases op <;> first | rfl | exact absurd rfl h2
  cases b <;> simp [behindInMarks, e1, e2]
/-- a reading of a value as a test -/
def tTest (t : TE) : TT := fun σ H Q => t σ H fun x H' => ∃ k, x = .bl k ∧ Q k H'
theorem pt_cmpR {op : CmpOp} {r : R2} (ho : OpR X (compareOp op) r) (ha : PE X a ta) (hb : PE X b tb) (hm : behindInMarks op b = false) : PT X (.Compare a [op] [b] pos) (tTest (tOp r ta tb)) := by
  intro pins s σ H Q I h
  refine wpAny_isTrue_Compare1 (thn (ha pins s σ H _ I h) fun v s1 ⟨x, H1, I1, r1, q1⟩ => thn (hb pins s1 σ H1 _ I1 q1) fun u s2 ⟨y, H2, I2, r2, q2⟩ =>
    thn (ho pins s2 σ H2 x y v u _ I2 r1 r2 q2) fun c s3 ⟨z, H3, I3, r3, k, e, q3⟩ => ?_) hm
  subst e
  cases r3
  exact wpAny_truthy_bool ⟨H3, I3, q3⟩
/-- a op1 b op2 c -/
def tChain (r r' : R2) (ta tb tc : TE) : TE := fun σ H Q => ta σ H fun x H1 => tb σ H1 fun y H2 => r x y H2 fun z H3 => ∃ k, z = .bl k ∧
  (if k = true then tc σ H3 fun w' H4 => r' y w' H4 Q else Q (.bl false) H3)
theorem pt_chain {op op' : CmpOp} {r r' : R2} (ho : OpR X (compareOp op) r) (ho' : OpR X (compareOp op') r') (ha : PE X a ta) (hb : PE X b tb) (hc : PE X c tc)
    (hm : lastMarks [op, op'] [b, c] = false := by with_unfolding_all rfl) : PT X (.Compare a [op, op'] [b, c] pos) (tTest (tChain r r' ta tb tc)) := by
  intro pins s σ H Q I h
  refine isTrue_chain (thn (ha pins s σ H _ I h) fun v s1 ⟨x, H1, I1, r1, q1⟩ => test_link (thn (hb pins s1 σ H1 _ I1 q1) fun u s2 ⟨y, H2, I2, r2, q2⟩ =>
    thn (ho pins s2 σ H2 x y v u _ I2 r1 r2 q2) fun d s3 ⟨z, H3, I3, r3, k, e, q3⟩ => ?_)) hm
  subst e
  cases r3
  refine wpAny_truthy_bool ?_
  cases k with
  | false =>
    obtain ⟨k', e', q'⟩ := q3
    cases e'
    exact ite_ff ⟨H3, I3, q'⟩
  | true =>
    refine ite_tt (test_last (thn (hc pins s3 σ H3 _ I3 q3) fun w' s4 ⟨z', H4, I4, r4, q4⟩ => thn (ho' pins s4 σ H4 y z' u w' _ I4 r2 r4 q4) fun d' s5 ⟨z2, H5, I5, r5, k2, e2, q5⟩ => ?_))
    subst e2
    cases r5
    exact wpAny_truthy_bool ⟨H5, I5, q5⟩

/-! ### truth -/
/-- a value's truth by the abstract heap -/
def TruV (K : PySem.W.Frag) (x : V) (H : Hp) (k : Bool) : Prop :=
  match x with
  | .non => k = false
  | .bl b => k = b
  | .int i => k = (i != 0)
  | .str y => y.length ≤ sizeLine ∧ k = ((y.length : Int) != 0)
  | .byt y => y.size ≤ sizeLine ∧ k = ((y.size : Int) != 0)
  | .ref p => (∃ xs, SqL K H p xs ∧ k = !xs.isEmpty) ∨ (∃ xs, SqT K H p xs ∧ k = !xs.isEmpty) ∨ ∃ kvs, H p = some (.dK kvs) ∧ k = !kvs.isEmpty
  | _ => False
theorem line63 : (sizeLine : Nat) < 2 ^ 63 := by rw [sizeLine_eq]; decide
/-! ### strs and bytes -/
def PlainIxT (b : Expr) : Prop := ∀ o i, subscripted b false o i = operate [o, i] (getItem o i)
/-! ### scalar builtins, by CallR -/
theorem vals1 {x : V} {us : List Value} (r : Vals [x] us) : ∃ u, us = [u] ∧ RelV x u := by
  cases r with
  | cons r1 r2 => cases r2; exact ⟨_, rfl, r1⟩
theorem vals2 {x y : V} {us : List Value} (r : Vals [x, y] us) : ∃ u w', us = [u, w'] ∧ RelV x u ∧ RelV y w' := by
  cases r with
  | cons r1 r2 =>
    cases r2 with
    | cons r3 r4 => cases r4; exact ⟨_, _, rfl, r1, r3⟩
theorem call_max2 (hc : X.calm = true) : CallR X (.builtin "max") (fun xs H Q => ∃ i j, xs = [.int i, .int j] ∧ Q (.int (if j > i then j else i)) H) := by
  intro pins s σ H xs us Q I r h
  obtain ⟨i, j, rfl, q⟩ := h
  obtain ⟨u, w', rfl, ⟨t, rfl⟩, ⟨t', rfl⟩⟩ := vals2 r
  refine max_two_ints (I.ok.hd hc) fun h' tk k => ⟨_, H, I.kept k, ?_, q⟩
  by_cases hj : j > i
  · rw [if_pos hj, if_pos hj]; exact ⟨_, rfl⟩
  · rw [if_neg hj, if_neg hj]; exact ⟨_, rfl⟩
theorem call_min2 (hc : X.calm = true) : CallR X (.builtin "min") (fun xs H Q => ∃ i j, xs = [.int i, .int j] ∧ Q (.int (if j < i then j else i)) H) := by
  intro pins s σ H xs us Q I r h
  obtain ⟨i, j, rfl, q⟩ := h
  obtain ⟨u, w', rfl, ⟨t, rfl⟩, ⟨t', rfl⟩⟩ := vals2 r
  refine min_two_ints (I.ok.hd hc) fun h' tk k => ⟨_, H, I.kept k, ?_, q⟩
  by_cases hj : j < i
  · rw [if_pos hj, if_pos hj]; exact ⟨_, rfl⟩
  · rw [if_neg hj, if_neg hj]; exact ⟨_, rfl⟩
/-- len of a str, a bytes, a list, a tuple -/
def LenV (K : PySem.W.Frag) (x : V) (H : Hp) (n : Nat) : Prop :=
  match x with
  | .str y => y.length ≤ sizeLine ∧ n = y.length
  | .byt y => y.size ≤ sizeLine ∧ n = y.size
  | .ref p => (∃ xs, SqL K H p xs ∧ n = xs.length) ∨ ∃ xs, SqT K H p xs ∧ n = xs.length
  | _ => False
end
end L2

namespace L2
open PySem PySem.Spec PyProof.Rows

/-! ### an instance, its attributes a map -/
structure ObjM (h : Heap) (x dx C : Addr) (mA : Str → Option Value) : Prop where
  obj : h.get? x = some (PySem.W.instObj C dx)
  ns : h.Ns1 dx mA
  ne : dx ≠ x

section
variable {prog : Program} {w : World} {A : Around} {E : Value → Shared → Prop} {s : Shared} {K : PySem.W.Frag} {x dx C f : Addr} {mA : Str → Option Value} {name : Str} {v : Value}

end

/-! ### the attributes as a list of pairs -/
def putF (f : Str) (v : V) : List (Str × V) → List (Str × V)
  | [] => [(f, v)]
  | (g, x) :: r => if g = f then (g, v) :: r else (g, x) :: putF f v r
section
variable {P : Program} {w : World} {H H' : Hp} {h h' : Heap} {a C dx : Addr} {fs fs' : List (Str × V)}
end

/-! ### what of the text a class must have -/
structure Cls (K : PySem.W.Frag) (C : Addr) : Prop where
  pg : PySem.W.plainGet K C Str.empty = true
  hd : PySem.W.hasDictIn K C = true
  po : PySem.W.plainOver K C = true
  sa : PySem.W.findIn K (.ref C) "__setattr__" = some (some (.builtin "object.__setattr__"))
/-- no class of it has the name -/
def NoAttr (K : PySem.W.Frag) (C : Addr) (f : Str) : Prop := PySem.W.findIn K (.ref C) f = some none
/-- a constant of the class -/
structure Con (K : PySem.W.Frag) (C : Addr) (f : Str) (v : V) (u : Value) : Prop where
  at_ : PySem.W.findIn K (.ref C) f = some (some u)
  rel : RelV v u
  get : PySem.W.specialIn K u "__get__" = some none
  cp : PySem.W.copiedNames.contains f = false
/-- a method: a plain def of the class or of one above it -/
structure Meth (K : PySem.W.Frag) (C : Addr) (m : Str) (f : Addr) : Prop where
  at_ : PySem.W.findIn K (.ref C) m = some (some (.ref f))
  fn : PySem.W.isFn K (.ref f) = true
  kp : PySem.W.keepIn K (.ref f) = true

section
variable {X : Cx} {pins : List (Addr × Obj)} {σ : St} {H : Hp} {s : Shared} {a C dx : Addr} {fs : List (Str × V)} {f : Str} {v : V} {A : Around} {E : Value → Shared → Prop}

end

/-! ### readings and rules -/
/-- e.f, an attribute of the instance -/
def tFld (K : PySem.W.Frag) (ta : TE) (f : Str) : TE := fun σ H Q => ta σ H fun x H1 => ∃ a C dx fs v, x = .ref a ∧ H1 a = some (.ins C dx fs) ∧ Cls K C ∧ NoAttr K C f ∧ fs.lookup f = some v ∧ Q v H1
/-- e.f, a constant of the class -/
def tCon (K : PySem.W.Frag) (ta : TE) (f : Str) : TE := fun σ H Q => ta σ H fun x H1 => ∃ a C dx fs v u, x = .ref a ∧ H1 a = some (.ins C dx fs) ∧ Cls K C ∧ Con K C f v u ∧ fs.lookup f = none ∧ Q v H1
/-- e.f = value -/
def sFld (K : PySem.W.Frag) (ta tv : TE) (f : Str) : TS := fun D σ H => tv σ H fun y H1 => ta σ H1 fun x H2 => ∃ a C dx fs, x = .ref a ∧ H2 a = some (.ins C dx fs) ∧ Cls K C ∧ NoAttr K C f ∧ fs.length < 1000 ∧
  D.nx σ (upd H2 a (.ins C dx (putF f y fs)))
/-- an augmented operator on two values -/
def InOp (X : Cx) (op : Operator) (rd : V → V → Hp → VK → Prop) : Prop :=
  ∀ (pins : List (Addr × Obj)) (s : Shared) (σ : St) (H : Hp) (x y : V) (u v : Value) (Q : VK), Inv X pins σ H s → RelV x u → RelV y v → rd x y H Q → wpAny (model X.prog X.w) X.A (inplaceOp op u v) (EP X pins σ Q) X.xe s
/-- e.f op= value -/
def sFldAug (K : PySem.W.Frag) (ta tv : TE) (rd : V → V → Hp → VK → Prop) (f : Str) : TS := fun D σ H => ta σ H fun x H1 => ∃ a C dx fs v, x = .ref a ∧ H1 a = some (.ins C dx fs) ∧ Cls K C ∧ NoAttr K C f ∧ fs.lookup f = some v ∧
  tv σ H1 fun y H2 => rd v y H2 fun z H3 => ∃ dx' fs', H3 a = some (.ins C dx' fs') ∧ fs'.length < 1000 ∧ D.nx σ (upd H3 a (.ins C dx' (putF f z fs')))

section
variable {X : Cx} {o e value : Expr} {f : Str} {pos pos' tpos : Pos} {ta tv : TE}
def rAdd : V → V → Hp → VK → Prop := fun x y H Q => ∃ i j, x = .int i ∧ y = .int j ∧ Q (.int (i + j)) H
def rSub : V → V → Hp → VK → Prop := fun x y H Q => ∃ i j, x = .int i ∧ y = .int j ∧ Q (.int (i - j)) H
end

/-! ### isinstance -/
section
variable {X : Cx} {pins : List (Addr × Obj)} {σ : St} {H : Hp} {s : Shared} {A : Around} {E : Value → Shared → Prop} {Q : Value → Shared → Prop} {c : Value} {b : Bool}
/-- the type of a value, as the fragment's deciders take it; for an instance its class -/
inductive TyOf (K : PySem.W.Frag) (H : Hp) : V → Value → Prop where
  | non : TyOf K H .non (.type "NoneType")
  | bl (x : Bool) : TyOf K H (.bl x) (.type "bool")
  | int (i : Int) : TyOf K H (.int i) (.type "int")
  | str (x : Str) : TyOf K H (.str x) (.type "str")
  | flt (x : UInt64) : TyOf K H (.flt x) (.type "float")
  | lst {a : Addr} {xs : List V} (e : H a = some (.lst xs)) : TyOf K H (.ref a) (.type "list")
  | frz {a : Addr} {o : Obj} {xs : List V} (e : H a = some (.frz o (.lst xs))) : TyOf K H (.ref a) (.type "list")
  | tup {a : Addr} {xs : List V} (e : H a = some (.tup xs)) : TyOf K H (.ref a) (.type "tuple")
  | dK {a : Addr} {kvs : List (Key × V)} (e : H a = some (.dK kvs)) : TyOf K H (.ref a) (.type "dict")
  | dT {a : Addr} {kvs : List (List Key × V)} (e : H a = some (.dT kvs)) : TyOf K H (.ref a) (.type "dict")
  | ins {a C dx : Addr} {fs : List (Str × V)} (e : H a = some (.ins C dx fs)) (cl : Cls K C) (ha : PySem.W.findIn K (.ref C) "__class__" = some (some (.builtin "object.__class__")))
      (hn : PySem.W.specialIn K (.builtin "object.__class__") "__get__" = some (some (.builtin "getset_descriptor.__get__"))) (htk : PySem.W.takesIn K (.builtin "object.__class__") = some true)
      (hm : PySem.W.mroIn K C (.type "object") = some true) : TyOf K H (.ref a) (.ref C)
end
end L2

namespace L2
open PySem PySem.Spec PyProof.Rows

/-! ### room -/
structure Room (k : Nat) (A : Around) : Prop where
  hd : A.handled = none
  dp : A.depth + 3 * k + 5 < recursionLimit
  un : A.units + 16 * k + 200 < cLine
theorem Room.mono {j k : Nat} {A : Around} (r : Room k A) (h : j ≤ k) : Room j A := ⟨r.hd, by have := r.dp; omega, by have := r.un; omega⟩
theorem Room.deeper {k : Nat} {A : Around} (r : Room (k + 1) A) (env : Env) : Room k (A.deeper env) :=
  ⟨r.hd, by have := r.dp; show A.depth + 1 + 3 * k + 5 < _; omega, by have := r.un; show A.units + 3 + 16 * k + 200 < _; omega⟩
theorem Room.depth {k : Nat} {A : Around} (r : Room k A) : A.depth < recursionLimit := by have := r.dp; omega
theorem Room.units {k : Nat} {A : Around} (r : Room k A) : A.units + 64 < cLine := by have := r.un; omega
/-! ### argument lists and displays -/
def tNil : TA := fun _ H Q => Q [] H
def tCons (ta : TE) (tr : TA) : TA := fun σ H Q => ta σ H fun x H1 => tr σ H1 fun xs H2 => Q (x :: xs) H2
section
variable {X : Cx} {e : Expr} {es : List Expr} {te : TE} {t : TA} {pos : Pos}
theorem pa_nil : PA X [] tNil := fun _ _ _ _ H Q I h => Calls.spliced_nil ⟨[], H, I, .nil, h⟩
theorem pa_cons (ha : PE X e te) (hr : PA X es t) (hs : starEach (e :: es) X.env = (false, eval e X.env) :: starEach es X.env := by rfl) : PA X (e :: es) (tCons te t) := by
  intro pos pins s σ H Q I h
  rw [hs]
  show wpAny _ _ (spliced ((false, eval e X.env) :: backTo pos (starEach es X.env))) _ _ s
  refine Calls.spliced_cons (thn (ha pins s σ H _ I h) fun u s1 ⟨x, H1, I1, r1, q1⟩ => ?_)
  exact thn (hr pos pins s1 σ H1 _ I1 q1) fun us s2 ⟨xs, H2, I2, r2, q2⟩ => ⟨x :: xs, H2, I2, .cons r1 r2, q2⟩

/-- a tuple, a list of written items -/
def tTup (t : TA) : TE := fun σ H Q => t σ H fun xs H1 => xs.length ≤ sizeLine ∧ ∀ p, H1 p = none → Q (.ref p) (upd H1 p (.tup xs))
def tLst (t : TA) : TE := fun σ H Q => t σ H fun xs H1 => xs.length ≤ sizeLine ∧ ∀ p, H1 p = none → Q (.ref p) (upd H1 p (.lst xs))
theorem pe_tup {x1} (h : PA X es t) : PE X (.Tuple es x1 pos) (tTup t) := by
  intro pins s σ H Q I hq
  refine wpAny_Tuple_spliced (thn (h pos pins s σ H _ I hq) fun us s1 ⟨xs, H1, I1, r, z, q⟩ => ⟨by rw [← r.length]; exact z, ?_⟩)
  have hf : H1 s1.heap.objs.size = none := I1.hok.fresh (Nat.le_refl _)
  refine ⟨.ref s1.heap.objs.size, upd H1 s1.heap.objs.size (.tup xs), I1.laid (t' := s1.toks) (fun b u e => Heap.get?_push_of_some _ e) (Nat.le_refl _) ?_, rfl, q _ hf⟩
  exact ⟨z, us, r, ⟨_, Heap.get?_push_size _ rfl, rfl, _, rfl⟩⟩
theorem pe_lst (h : PA X es t) : PE X (.List es pos) (tLst t) := by
  intro pins s σ H Q I hq
  refine wpAny_List_spliced (thn (h pos pins s σ H _ I hq) fun us s1 ⟨xs, H1, I1, r, z, q⟩ => ⟨by rw [← r.length]; exact z, ?_⟩)
  have hf : H1 s1.heap.objs.size = none := I1.hok.fresh (Nat.le_refl _)
  refine ⟨.ref s1.heap.objs.size, upd H1 s1.heap.objs.size (.lst xs), I1.laid (t' := s1.toks) (fun b u e => Heap.get?_push_of_some _ e) (Nat.le_refl _) ?_, rfl, q _ hf⟩
  exact ⟨z, us, 0, r, Heap.get?_push_size _ rfl⟩
end

/-! ### what a def promises -/
/-- a def's promise: the bound arguments in the parameters' order, the heap, the wanted end, the wanted exception -/
abbrev Sp := List V → Hp → VK → XK → Prop
/-- how an exception lies behind a call (file 08 gives it): the callers' frames, abstract heap and state ahead of the call, the wish, the exception, the state -/
abbrev CXT := List Env → Hp → Shared → XK → Value → Shared → Prop

/-- the state at a call -/
structure Env0 (P : Program) (w : World) (K : PySem.W.Frag) (mg : Str → Option Value) (base : Heap) (A : Around) (outer : List Env) (s : Shared) (H : Hp) : Prop where
  frames : A.frames = some outer
  mod : Mod K mg base
  bs : ∀ b o, base.get? b = some o → s.heap.get? b = some o ∧ H b = none
  bsz : base.objs.size ≤ s.heap.objs.size
  funs : s.heap.FunFrames base outer
  frf : ∀ b ∈ frs outer, H b = none
  hok : HOk P w H s.heap
  bare : AllBare s.gens
/-- a call's end -/
def CE (outer : List Env) (P : Program) (w : World) (H : Hp) (s : Shared) (Q : VK) (u : Value) (s' : Shared) : Prop :=
  ∃ v H', s'.os = s.os ∧ AllBare s'.gens ∧ Un (frs outer) [] H H' s.heap s'.heap ∧ HOk P w H' s'.heap ∧ RelV v u ∧ Q v H'
def CR (CX : CXT) (outer : List Env) (P : Program) (w : World) (H : Hp) (s : Shared) (Q : VK) (E : XK) (r : Result) (s' : Shared) : Prop :=
  match r with
  | .ok (.ret u) => CE outer P w H s Q u s'
  | .ok _ => False
  | .error e => CX outer H s E e s'
structure FnOk (P : Program) (w : World) (K : PySem.W.Frag) (mg : Str → Option Value) (base : Heap) (CX : CXT) (k : Nat) (f : Addr) (fd : FuncData) (ps : List Str) (sp : Sp) : Prop where
  len : ∀ vs H Q E, sp vs H Q E → vs.length = ps.length
  run : ∀ (A : Around) (outer : List Env) (s : Shared) (H : Hp) (args : Args) (us : List Value) (vs : List V) (Q : VK) (E : XK), Room k A → Env0 P w K mg base A outer s H → BindsTo s fd args (ps.zip us) → Vals vs us → sp vs H Q E →
    codeAny (model P w) A (.call (.ref f) args) (CR CX outer P w H s Q E) s
section
variable {X : Cx} {pins : List (Addr × Obj)} {σ : St} {H : Hp} {s s' : Shared}
/-- from a body: what a callee wants -/
theorem Inv.env0 (I : Inv X pins σ H s) : Env0 X.prog X.w X.K X.mg X.base X.A X.stack s H :=
  ⟨I.ok.frames, I.ok.mod, I.bs, Nat.le_trans I.ok.bsz I.sz, I.stack, I.stkFree, I.hok, I.bare⟩
/-- behind a call -/
theorem Inv.after {Q : VK} {u : Value} (I : Inv X pins σ H s) (h : CE X.stack X.prog X.w H s Q u s') : EP X pins σ Q u s' := by
  obtain ⟨v, H', os, bare, un, hok, r, q⟩ := h
  obtain ⟨hh, g, d, t, os'⟩ := s'
  obtain rfl : os' = s.os := os
  exact ⟨v, H', I.call (h' := hh) (g' := g) (d' := d) (t' := t) (ch := []) un hok bare (fun b z => absurd z (by simp)), r, q⟩
end

/-! ### calls -/
/-- f(..): the written arguments, then the defaults dvs; E: what is wanted of an exception -/
def tCall (sp : Sp) (dvs : List V) (E : XK) (t : TA) : TE := fun σ H Q => t σ H fun vs H1 => sp (vs ++ dvs) H1 Q E
/-- o.m(..) of an instance of the class at C -/
def tMeth (C : Addr) (m : Str) (sp : Sp) (dvs : List V) (E : XK) (ta : TE) (t : TA) : TE := fun σ H Q => ta σ H fun x H1 => ∃ a dx fs, x = .ref a ∧ H1 a = some (.ins C dx fs) ∧ fs.lookup m = none ∧
  t σ H1 fun vs H2 => sp (x :: (vs ++ dvs)) H2 Q E
/-- C(..): a new instance and its dict, then __init__ -/
def tMake (C : Addr) (sp : Sp) (dvs : List V) (E : XK) (t : TA) : TE := fun σ H Q => t σ H fun vs H1 => ∀ x dx, H1 x = none → H1 dx = none → dx ≠ x →
  sp (.ref x :: (vs ++ dvs)) (upd (upd H1 dx (.own x)) x (.ins C dx [])) (fun v H2 => v = .non ∧ Q (.ref x) H2) E

/-- how the parameters are bound: us the positional arguments, kw the keywords' values by name, ds the defaults that fill up -/
def Binds (K : PySem.W.Frag) (fd : FuncData) (ps : List Str) (ds : List Value) : Prop :=
  ∀ (s : Shared) (us : List Value), K.In s.heap → (us ++ ds).length = ps.length → BindsTo s fd ⟨us, []⟩ (ps.zip (us ++ ds))
/-- every parameter is given -/
theorem Binds.all {K : PySem.W.Frag} {fd : FuncData} {ps : List Str} (h : ∀ us : List Value, us.length = ps.length → bindArgs fd ⟨us, []⟩ = pure (ps.zip us)) : Binds K fd ps [] := fun s us _ hl => by
  rw [List.append_nil] at hl ⊢
  exact .of_eq (h us hl)

/-- an exception of a callee reaches what this body wants of exceptions -/
def Passes (CX : CXT) (X : Cx) (E : XK) : Prop := ∀ (pins : List (Addr × Obj)) (σ : St) (H : Hp) (s : Shared) (e : Value) (s' : Shared), Inv X pins σ H s → CX X.stack H s E e s' → X.xe e s'

section
variable {X : Cx} {CX : CXT} {k : Nat} {f C : Addr} {fd : FuncData} {ps : List Str} {sp : Sp} {dvs : List V} {ds : List Value} {E : XK} {x m : Str} {p pos apos : Pos} {e o : Expr} {es : List Expr} {ta : TE} {t : TA}

/-- the callee runs -/
theorem run_fn {pins : List (Addr × Obj)} {σ : St} {H : Hp} {s : Shared} {Q : VK} {us : List Value} {vs : List V} (F : FnOk X.prog X.w X.K X.mg X.base CX k f fd ps sp) (hr : Room k X.A) (hb : Binds X.K fd ps ds) (hd : Vals dvs ds) (hx : Passes CX X E)
    (I : Inv X pins σ H s) (r : Vals vs us) (h : sp (vs ++ dvs) H Q E) : wpAny (model X.prog X.w) X.A (call (.ref f) us) (EP X pins σ Q) X.xe s := by
  have r2 : Vals (vs ++ dvs) (us ++ ds) := r.append hd
  have hl : (us ++ ds).length = ps.length := by rw [← r2.length]; exact F.len _ _ _ _ h
  refine wpAny_call (codeAny_mono (F.run X.A X.stack s H ⟨us, []⟩ (us ++ ds) (vs ++ dvs) Q E hr I.env0 (hb s us I.kIn hl) r2 h) fun r s' hq => ?_)
  cases r with
  | error e => exact hx pins σ H s e s' I hq
  | ok fl =>
    cases fl with
    | ret u => exact I.after hq
    | next => exact False.elim hq
    | brk => exact False.elim hq
    | cont => exact False.elim hq

theorem pe_call (F : FnOk X.prog X.w X.K X.mg X.base CX k f fd ps sp) (hr : Room k X.A) (hg : Gl X x) (hm : X.mg x = some (.ref f)) (hk : PySem.W.keepIn X.K (.ref f) = true) (hb : Binds X.K fd ps ds) (hd : Vals dvs ds) (hx : Passes CX X E)
    (ha : PA X (e :: es) t) (hdb : (x == ("__debug__" : Str)) = false := by decide) (he : starEach (e :: es) X.env = (false, eval e X.env) :: starEach es X.env := by rfl) (hpl : (backTo pos (starEach es X.env)).any (·.1) = false := by rfl) :
    PE X (.Call (.Name x p) (e :: es) [] pos) (tCall sp dvs E t) := by
  intro pins s σ H Q I h
  refine wpAny_Call_Name_kw (ld_glob I hg hm ?_ hdb)
  refine PySem.W.callWith_K (h₀ := X.base) I.ok.mod.kin hk (thn (ha pos pins s σ H _ I h) fun us s1 ⟨vs, H1, I1, r, q⟩ => ⟨I1.kIn, ?_⟩) he hpl
  exact run_fn F hr hb hd hx I1 r q
/-- what a class must have to be made -/
structure Mk (K : PySem.W.Frag) (C f : Addr) : Prop where
  makes : PySem.W.makesIn K C = true
  init : PySem.W.findIn K (.ref C) "__init__" = some (some (.ref f))
  fn : PySem.W.isFn K (.ref f) = true
  kp : PySem.W.keepIn K (.ref C) = true

end

/-! ### keywords -/
/-- the values of the keywords, from the left -/
def PK (X : Cx) (kws : List Keyword) (t : TA) : Prop :=
  ∀ (pos : Pos) (pins : List (Addr × Obj)) (s : Shared) (σ : St) (H : Hp) (Q : List V → Hp → Prop), Inv X pins σ H s → t σ H Q → wpAny (model X.prog X.w) X.A (evalAll ((backToKw pos (keywordEach kws X.env)).map (·.2))) (AP X pins σ Q) X.xe s
section
variable {X : Cx} {CX : CXT} {k : Nat} {f C : Addr} {fd : FuncData} {ps ks : List Str} {sp : Sp} {E : XK} {x m : Str} {p pos apos kpos : Pos} {e o : Expr} {es : List Expr} {kws : List Keyword} {te ta : TE} {t tk : TA} {nm : Option Str}
/-- how a call with keywords binds: g puts the positional values us and the keywords' values ws (names ks) in the parameters' order, defaults among them -/
structure KBinds (K : PySem.W.Frag) (fd : FuncData) (ps ks : List Str) (g : List Value → List Value → List Value) (gV : List V → List V → List V) : Prop where
  to : ∀ (s : Shared) (us ws : List Value), K.In s.heap → (g us ws).length = ps.length → BindsTo s fd ⟨us, ks.zip ws⟩ (ps.zip (g us ws))
  rel : ∀ {vs : List V} {us : List Value} {zs : List V} {ws : List Value}, Vals vs us → Vals zs ws → Vals (gV vs zs) (g us ws)
def tCallK (sp : Sp) (gV : List V → List V → List V) (E : XK) (t tk : TA) : TE := fun σ H Q => t σ H fun vs H1 => tk σ H1 fun zs H2 => sp (gV vs zs) H2 Q E
variable {g : List Value → List Value → List Value} {gV : List V → List V → List V}
end

/-! ### a def's body keeps its promise -/
/-- names: the parameters first -/
structure FnScope (N P : List Str) (sc : Scope) : Prop where
  kind : sc.kind = .function
  co : sc.isCoroutine = false
  gen : sc.isGenerator = false
  nd : N.Nodup
  pre : N.take P.length = P
  par : ∀ x ∈ P, sc.names.lookup x = some .local ∨ sc.names.lookup x = some .cell
  nofree : ∀ y ∈ sc.names, y.2 ≠ .free

theorem bindL_out {kindOf : Str → Option NameKind} {x : Str} : ∀ {binds : List (Str × Value)} {m : Str → Option Value}, (∀ v, (x, v) ∉ binds) → bindL kindOf binds m x = m x
  | [], _, _ => rfl
  | (n, v) :: r, m, h => by
    unfold bindL
    rw [bindL_out fun w hw => h w (List.mem_cons_of_mem _ hw)]
    split
    · have : x ≠ n := by rintro rfl; exact h v List.mem_cons_self
      simp [this]
    · rfl
theorem bindC_out {kindOf : Str → Option NameKind} {x : Str} : ∀ {binds : List (Str × Value)} {m : Str → Option Value}, (∀ v, (x, v) ∉ binds) → bindC kindOf binds m x = m x
  | [], _, _ => rfl
  | (n, v) :: r, m, h => by
    unfold bindC
    rw [bindC_out fun w hw => h w (List.mem_cons_of_mem _ hw)]
    split
    · rfl
    · have : x ≠ n := by rintro rfl; exact h v List.mem_cons_self
      simp [this]
theorem bindL_get {kindOf : Str → Option NameKind} {x : Str} {v : Value} : ∀ {P : List Str} {vs : List Value} {i : Nat} {m : Str → Option Value}, P.Nodup → P[i]? = some x → vs[i]? = some v → kindOf x = some .local →
    bindL kindOf (P.zip vs) m x = some v
  | [], _, _, _, _, h, _, _ => by simp at h
  | _ :: _, [], _, _, _, _, h, _ => by simp at h
  | p :: P, w :: vs, 0, m, nd, h1, h2, hk => by
    simp at h1 h2; subst h1; subst h2
    show bindL kindOf ((p, w) :: P.zip vs) m p = _
    unfold bindL
    rw [bindL_out fun v hv => (List.nodup_cons.mp nd).1 (List.of_mem_zip hv).1, if_pos hk]
    simp
  | p :: P, w :: vs, i + 1, m, nd, h1, h2, hk => by
    show bindL kindOf ((p, w) :: P.zip vs) m x = _
    unfold bindL
    exact bindL_get (i := i) (List.nodup_cons.mp nd).2 (by simpa using h1) (by simpa using h2) hk
theorem bindC_get {kindOf : Str → Option NameKind} {x : Str} {v : Value} : ∀ {P : List Str} {vs : List Value} {i : Nat} {m : Str → Option Value}, P.Nodup → P[i]? = some x → vs[i]? = some v → kindOf x ≠ some .local →
    bindC kindOf (P.zip vs) m x = some v
  | [], _, _, _, _, h, _, _ => by simp at h
  | _ :: _, [], _, _, _, _, h, _ => by simp at h
  | p :: P, w :: vs, 0, m, nd, h1, h2, hk => by
    simp at h1 h2; subst h1; subst h2
    show bindC kindOf ((p, w) :: P.zip vs) m p = _
    unfold bindC
    rw [bindC_out fun v hv => (List.nodup_cons.mp nd).1 (List.of_mem_zip hv).1, if_neg hk]
    simp
  | p :: P, w :: vs, i + 1, m, nd, h1, h2, hk => by
    show bindC kindOf ((p, w) :: P.zip vs) m x = _
    unfold bindC
    exact bindC_get (i := i) (List.nodup_cons.mp nd).2 (by simpa using h1) (by simpa using h2) hk

/-- the names' values at the entry -/
def start (N : List Str) (vs : List V) : St := vs.map some ++ List.replicate (N.length - vs.length) none

/-- the context of a def's body, at its entry; an exception leaves the frame, then lies as CX says -/
def cxOf (CX : CXT) (P : Program) (w : World) (K : PySem.W.Frag) (mg : Str → Option Value) (base : Heap) (N : List Str) (qual : Str) (scope : Scope) (f : Addr) (cd : Value) (A : Around) (outer : List Env) (s : Shared) (H : Hp) (E : XK) : Cx where
  prog := P
  w := w
  K := K
  mg := mg
  base := base
  A := A.deeper (envOfC qual scope s.heap.objs.size f cd)
  N := N
  s₀ := s
  H₀ := H
  env := envOfC qual scope s.heap.objs.size f cd
  outer := outer
  stack := envOfC qual scope s.heap.objs.size f cd :: outer
  ex := []
  calm := true
  fn := fun _ => true
  pn := []
  xe := fun e s' => wpAny (model P w) (A.deeper (envOfC qual scope s.heap.objs.size f cd)) (leaving (envOfC qual scope s.heap.objs.size f cd) e) (fun _ s'' => CX outer H s E e s'') (fun e' s'' => CX outer H s E e' s'') s'

theorem cell_has {sc : Scope} {n : Nat} {x : Str} (h : sc.names.lookup x = some .cell) : ∃ c, (cellsFrom n sc.names []).lookup x = some c := by
  have q := PySem.W.cellsFrom_some sc.names n [] (.inl h)
  exact Option.isSome_iff_exists.mp q

theorem inv_start {CX : CXT} {P : Program} {w : World} {K : PySem.W.Frag} {mg : Str → Option Value} {base : Heap} {N ps : List Str} {qual : Str} {scope : Scope} {f : Addr} {cd : Value} {A : Around} {outer : List Env} {s s1 : Shared} {H : Hp} {E : XK} {us : List Value} {vs : List V}
    (S : FnScope N ps scope) (hd : A.handled = none) (e0 : Env0 P w K mg base A outer s H) (hl : vs.length = ps.length) (r : Vals vs us)
    (x : InCallC s s.heap.objs.size (bindL (envOfC qual scope s.heap.objs.size f cd).kindOf (ps.zip us) fun _ => none) (cellsFrom (s.heap.objs.size + 1) scope.names []) (bindC (envOfC qual scope s.heap.objs.size f cd).kindOf (ps.zip us) fun _ => none) s1) :
    Inv (cxOf CX P w K mg base N qual scope f cd A outer s H E) [] (start N vs) H s1 := by
  have hpl : ps.length ≤ N.length := by have := congrArg List.length S.pre; rw [List.length_take] at this; omega
  obtain ⟨h1, tk, rfl, hk⟩ := x.done
  have noA : ∀ b : Addr, b ∉ (cxOf CX P w K mg base N qual scope f cd A outer s H E).ex := fun b z => absurd (show b ∈ ([] : List Addr) from z) (by simp)
  refine ⟨⟨e0.mod, S.kind, rfl, rfl, Nat.le_refl _, fun y z c h1 h2 => ?_, fun y hy => ?_, fun y c _ h => ?_, fun _ => hd, Around.frames_deeper e0.frames, .inr ⟨rfl, rfl⟩, fun b z => absurd z (noA b), e0.bs, e0.bsz, fun b _ _ => noA b, fun b z => absurd z (noA b), e0.funs, e0.frf⟩,
    rfl, e0.bare, Un.kept hk, ⟨_, x.toInCall.ns, fun i y v h1 h2 h3 => ?_⟩, fun y c h => ⟨_, x.cell y c h⟩, e0.hok.fresh (Nat.le_refl _), fun y c h => ?_, fun p hp => absurd (show p ∈ ([] : List (Addr × Obj)) from hp) (by simp), e0.hok.kept hk, ?_⟩
  · exact name_of_addr x.apart (PySem.mem_of_lookup h1) (PySem.mem_of_lookup h2)
  · have hy : scope.names.lookup y = some .cell ∨ scope.names.lookup y = some .free := hy
    rcases hy with hy | hy
    · exact cell_has hy
    · exact absurd rfl (S.nofree _ (PySem.mem_of_lookup hy))
  · exact Nat.le_of_lt (x.above y c (PySem.mem_of_lookup h))
  · have hi : i < vs.length := by
      unfold start at h2
      by_cases hi : i < vs.length
      · exact hi
      · rw [List.getElem?_append_right (by simpa using hi)] at h2
        rw [List.getElem?_replicate] at h2
        split at h2 <;> cases h2
    have ha : vs[i]? = some v := by
      unfold start at h2
      rw [List.getElem?_append_left (by simpa using hi), List.getElem?_map] at h2
      cases e : vs[i]? with
      | none => rw [e] at h2; cases h2
      | some a => rw [e] at h2; cases h2; rfl
    obtain ⟨u, hu, rv⟩ := r.get ha
    have hp : ps[i]? = some y := by
      rw [← S.pre, List.getElem?_take_of_lt (by omega)]; exact h1
    have ndP : ps.Nodup := by rw [← S.pre]; exact S.nd.sublist (List.take_sublist _ _)
    refine ⟨u, rv, ?_⟩
    rcases S.par y (List.mem_of_getElem? hp) with k | k
    · exact .inl ⟨k, bindL_get ndP hp hu k⟩
    · obtain ⟨c, e⟩ := cell_has (n := s.heap.objs.size + 1) k
      refine .inr ⟨.inl k, c, e, ?_⟩
      have q := x.cell y c e
      rw [bindC_get ndP hp hu (by show scope.names.lookup y ≠ _; rw [k]; decide)] at q
      exact q
  · exact e0.hok.fresh (Nat.le_of_lt (x.above y c (PySem.mem_of_lookup h)))
  · unfold start
    show _ = N.length
    rw [List.length_append, List.length_map, List.length_replicate]
    omega

/-- THE RULE: a def (or a method) of the text, by its body. The body's reading t is chosen for each entry; it is run at the parameters' values -/
theorem fn_of {CX : CXT} {P : Program} {w : World} {K : PySem.W.Frag} {mg : Str → Option Value} {base : Heap} {k : Nat} {f : Addr} {name qual : Str} {params : Arguments} {body : List Stmt} {scope : Scope} {dV kV doc pm cdv ct oc : Value} {an od : Option Addr}
    {osl : Array (Option Value)} {N ps : List Str} {sp : Sp} (lk : K.lookup f = some ⟨oc, od, .func (PySem.W.fnOf name qual params body scope dV kV doc pm an cdv ct), osl⟩) (hcd : PySem.W.codeIn K cdv qual = true) (S : FnScope N ps scope)
    (len : ∀ vs H Q E, sp vs H Q E → vs.length = ps.length)
    (hbody : ∀ (A : Around) (outer : List Env) (s : Shared) (H : Hp) (vs : List V) (Q : VK) (E : XK), Room k (A.deeper (envOfC qual scope s.heap.objs.size f cdv)) → sp vs H Q E →
      ∃ t, PSs (cxOf CX P w K mg base N qual scope f cdv A outer s H E) body t ∧ t { nx := fun _ H' => Q .non H', rt := Q } (start N vs) H) :
    FnOk P w K mg base CX (k + 1) f (PySem.W.fnOf name qual params body scope dV kV doc pm an cdv ct) ps sp := by
  refine ⟨len, fun A outer s H args us vs Q E hr e0 hb r hsp => ?_⟩
  have hl := len _ _ _ _ hsp
  have KX : K.In s.heap := e0.mod.kin.keeps fun b o e => (e0.bs b o e).1
  have lim : s.heap.NoLimit := e0.mod.nolimit.keeps fun b o e => (e0.bs b o e).1
  have hkind : ∀ y ∈ ps.zip us, scope.names.lookup y.1 = some .local ∨ (scope.names.lookup y.1 = some .cell ∧ ((cellsFrom (s.heap.objs.size + 1) scope.names []).lookup y.1).isSome = true) := fun ⟨n, v⟩ hy => by
    rcases S.par n (List.of_mem_zip hy).1 with q | q
    · exact .inl q
    · exact .inr ⟨q, PySem.W.cellsFrom_some _ _ _ (.inl q)⟩
  refine codeAny_call_function hr.depth (KX _ _ lk) rfl S.co S.gen rfl (PySem.W.codeRec_of KX hcd) (hb _ _ _ _ ?_)
  refine wpAny_newFunctionEnv_cells S.kind hkind fun env he s1 x => ?_
  subst he
  refine ⟨lim.keeps x.toInCall.keep, codeAny_func ?_⟩
  obtain ⟨t, ht, hq⟩ := hbody A outer s H vs Q E (hr.deeper _) hsp
  have I : Inv (cxOf CX P w K mg base N qual scope f cdv A outer s H E) [] (start N vs) H s1 := inv_start S hr.hd e0 hl r x
  refine wpAny_mono (ht [] s1 (start N vs) H _ I hq) (fun fl s' hs => ?_) fun e s' hs => hs
  have fin : ∀ {σ' : St} {H' : Hp} {v : V} {u : Value}, Inv (cxOf CX P w K mg base N qual scope f cdv A outer s H E) [] σ' H' s' → RelV v u → Q v H' → CE outer P w H s Q u s' :=
    fun {σ' H' v u} J rv q => ⟨v, H', J.os, J.bare, J.base, J.hok, rv, q⟩
  cases fl with
  | ret u =>
    obtain ⟨v, σ', H', J, rv, q⟩ := hs
    exact fin J rv q
  | next =>
    obtain ⟨σ', H', J, q⟩ := hs
    exact fin (v := V.non) (u := Value.none) J rfl q
  | brk =>
    obtain ⟨_, _, _, q⟩ := hs
    exact False.elim q
  | cont =>
    obtain ⟨_, _, _, q⟩ := hs
    exact False.elim q
end L2

namespace L2
open PySem PySem.Spec PyProof.Rows
section
variable {X : Cx} {x : Str} {p pos : Pos} {e : Expr} {es : List Expr} {t : TA} {id T : String} {r : List V → Hp → VK → Prop}

def tCB (r : List V → Hp → VK → Prop) (t : TA) : TE := fun σ H Q => t σ H fun vs H1 => r vs H1 Q
/-- f(e, ..), f a built-in function -/
theorem pe_callB (hc : CallR X (.builtin id) r) (hg : Gl X x) (hm : X.mg x = none) (hv : bootBuiltins x = some (.builtin id)) (ha : PA X (e :: es) t) (hn : x ≠ "__name__" := by decide) (hdb : (x == ("__debug__" : Str)) = false := by decide)
    (he : starEach (e :: es) X.env = (false, eval e X.env) :: starEach es X.env := by rfl) (hpl : (backTo pos (starEach es X.env)).any (·.1) = false := by rfl) : PE X (.Call (.Name x p) (e :: es) [] pos) (tCB r t) := by
  intro pins s σ H Q I h
  refine wpAny_Call_Name_kw (ld_blt I hg hm hv ?_ hn hdb)
  exact PyProof.Rows.callWith_builtin1 (thn (ha pos pins s σ H _ I h) fun us s1 ⟨vs, H1, I1, r1, q1⟩ => hc pins s1 σ H1 vs us Q I1 r1 q1) he hpl
/-- T(e, ..), T a built-in type -/
theorem pe_callTy (hc : CallR X (.type T) r) (hg : Gl X x) (hm : X.mg x = none) (hv : bootBuiltins x = some (.type T)) (ha : PA X (e :: es) t) (hn : x ≠ "__name__" := by decide) (hdb : (x == ("__debug__" : Str)) = false := by decide)
    (he : starEach (e :: es) X.env = (false, eval e X.env) :: starEach es X.env := by rfl) (hpl : (backTo pos (starEach es X.env)).any (·.1) = false := by rfl) : PE X (.Call (.Name x p) (e :: es) [] pos) (tCB r t) := by
  intro pins s σ H Q I h
  refine wpAny_Call_Name_kw (ld_blt I hg hm hv ?_ hn hdb)
  exact PyProof.Rows.callWith_type1 (thn (ha pos pins s σ H _ I h) fun us s1 ⟨vs, H1, I1, r1, q1⟩ => hc pins s1 σ H1 vs us Q I1 r1 q1) he hpl
end
end L2

namespace HT
open PySem PyProof.Rows

/-- t < u of tuples of ints -/
def lexLt : List Int → List Int → Bool
  | [], [] => false
  | [], _ :: _ => true
  | _ :: _, [] => false
  | x :: xs, y :: ys => if x = y then lexLt xs ys else decide (x < y)
section
open PySem.SeqAt
open PySem.AutoSeq1 (wpAny_loadPart')
open PySem.MeetsSeq PySem.MeetsSeq2 PySem.MeetsSeq3

end

section
variable {prog : Program} {w : World} {A : Around} {E : Value → Shared → Prop} {s : Shared}

/-! ### t[a:b], not the whole -/
/-- a slice's bound as a place among n (d where it is left out) -/
def sIx (n d : Nat) : Option Int → Nat
  | none => d
  | some v => if v < 0 then (v + (n : Int)).toNat else min v.toNat n
end
end HT

namespace L2
open PySem PySem.Spec PyProof.Rows

/-! ### the parts of a slice -/
abbrev TO := St → Hp → (Option Int → Hp → Prop) → Prop
/-- a slice's part (left out, or an int) -/
def PO (X : Cx) (e : Option Expr) (t : TO) : Prop :=
  ∀ (pins : List (Addr × Obj)) (s : Shared) (σ : St) (H : Hp) (Q : Option Int → Hp → Prop), Inv X pins σ H s → t σ H Q →
    wpAny (model X.prog X.w) X.A (evalPart e X.env) (fun u s' => ∃ o H', Inv X pins σ H' s' ∧ IsPart u o ∧ Q o H') X.xe s
def tNoPart : TO := fun _ H Q => Q none H
def tPart (t : TE) : TO := fun σ H Q => t σ H fun x H1 => ∃ i, x = .int i ∧ Q (some i) H1

theorem intsAre_of {ns : List Int} : ∀ {us : List Value}, Vals (ns.map V.int) us → IntsAre us ns := by
  induction ns with
  | nil => intro us r; rw [List.map_nil] at r; cases r; exact .nil
  | cons n ns ih =>
    intro us r
    rw [List.map_cons] at r
    cases r with
    | cons r1 r2 =>
      obtain ⟨t, e⟩ := r1
      subst e
      exact .cons n t (ih r2)

section
variable {X : Cx} {e : Expr} {te : TE} {lo hi : Option Expr} {tl th : TO} {pos p2 : Pos}

theorem po_none : PO X none tNoPart := by
  intro pins s σ H Q I h
  rw [evalPart_none]
  exact wpAny_pure ⟨none, H, I, .none, h⟩
theorem po_some (h : PE X e te) : PO X (some e) (tPart te) := by
  intro pins s σ H Q I hw
  rw [evalPart_some]
  refine thn (h pins s σ H _ I hw) fun u s1 ⟨x, H1, I1, r1, q1⟩ => ?_
  obtain ⟨i, rfl, q⟩ := q1
  obtain ⟨t, rfl⟩ := r1
  exact ⟨some i, H1, I1, .int i t, q⟩

/-- what a slice of a value is, by values: the slice object stands at sl -/
def SlR (X : Cx) (r : V → Option Int → Option Int → Hp → VK → Prop) : Prop :=
  ∀ (pins : List (Addr × Obj)) (s : Shared) (σ : St) (H : Hp) (x : V) (v vl vu : Value) (lo hi : Option Int) (sl : Addr) (Q : VK), Inv X pins σ H s → RelV x v → s.heap.IsSliceOf sl vl vu .none → IsPart vl lo → IsPart vu hi → r x lo hi H Q →
    ∃ T id, typeLookup (.type T) "__getitem__" = pure (some (.builtin id)) ∧ s.TypeIs v T ∧ wpAny (model X.prog X.w) X.A (getItem v (.ref sl)) (EP X pins σ Q) X.xe s
def tSl (r : V → Option Int → Option Int → Hp → VK → Prop) (te : TE) (tl th : TO) : TE := fun σ H Q => te σ H fun x H1 => tl σ H1 fun l H2 => th σ H2 fun u H3 => r x l u H3 Q
/-- a[lo:hi], any a -/
theorem pe_slice {r : V → Option Int → Option Int → Hp → VK → Prop} (hr : SlR X r) (he : PE X e te) (hl : PO X lo tl) (hu : PO X hi th) : PE X (.Subscript e (.Slice lo hi none p2) pos) (tSl r te tl th) := by
  intro pins s σ H Q I h
  refine Subscript_ (thn (he pins s σ H _ I h) fun v s1 ⟨x, H1, I1, r1, q1⟩ => ?_)
  refine wpAny_Slice (thn (hl pins s1 σ H1 _ I1 q1) fun vl s2 ⟨l, H2, I2, pl, q2⟩ => thn (hu pins s2 σ H2 _ I2 q2) fun vu s3 ⟨u, H3, I3, pu, q3⟩ => ?_)
  rw [evalPart_none]
  refine wpAny_pure ?_
  have I4 : Inv X pins σ H3 { s3 with heap := s3.heap.push { cls := .type "slice", data := .fields #[vl, vu, .none] } } := I3.kept (t' := s3.toks) fun b ob q => Heap.get?_push_of_some _ q
  obtain ⟨T, id, hT, ht, hg⟩ := hr pins { s3 with heap := s3.heap.push { cls := .type "slice", data := .fields #[vl, vu, .none] } } σ H3 x v vl vu l u s3.heap.objs.size Q I4 r1 (Heap.IsSliceOf.new ..) pl pu q3
  show wpAny (model X.prog X.w) X.A (subscriptTail e (.Slice lo hi none p2) v (.ref s3.heap.objs.size)) (EP X pins σ Q) X.xe { s3 with heap := s3.heap.push { cls := .type "slice", data := .fields #[vl, vu, .none] } }
  exact tail_any (ops := [.ref s3.heap.objs.size, v]) ht hT hg (by with_unfolding_all rfl)

/-- the items of xs[lo:hi] -/
def cutV (xs : List V) (lo hi : Option Int) : List V := (xs.drop (HT.sIx xs.length 0 lo)).take (HT.sIx xs.length xs.length hi - HT.sIx xs.length 0 lo)
theorem cutV_length (xs : List V) (lo hi : Option Int) : (cutV xs lo hi).length ≤ xs.length := by
  unfold cutV
  rw [List.length_take, List.length_drop]
  omega
/-- t[lo:hi], not the whole of it (the whole would be t itself) -/
def rSlT (K : PySem.W.Frag) : V → Option Int → Option Int → Hp → VK → Prop := fun x lo hi H Q => ∃ a xs, x = .ref a ∧ SqT K H a xs ∧
  ¬ (HT.sIx xs.length 0 lo = 0 ∧ HT.sIx xs.length xs.length hi = xs.length) ∧ ∀ p, H p = none → Q (.ref p) (upd H p (.tup (cutV xs lo hi)))
/-! ### t < u, t + u -/
def rLtT (K : PySem.W.Frag) : R2 := fun x y H Q => ∃ a b ns ms, x = .ref a ∧ y = .ref b ∧ SqT K H a (ns.map V.int) ∧ SqT K H b (ms.map V.int) ∧ Q (.bl (HT.lexLt ns ms)) H
/-- t + u, t not empty: u empty gives t itself -/
def rCatT (K : PySem.W.Frag) : R2 := fun x y H Q => ∃ a b xs ys, x = .ref a ∧ y = .ref b ∧ SqT K H a xs ∧ SqT K H b ys ∧ xs ≠ [] ∧ xs.length + ys.length ≤ sizeLine ∧
  (ys = [] → Q (.ref a) H) ∧ (ys ≠ [] → ∀ p, H p = none → Q (.ref p) (upd H p (.tup (xs ++ ys))))
end
end L2

namespace L2
open PySem PySem.Spec PyProof.Rows

/-! ### places -/
/-- the place that an index of any sign means -/
def ixN (n : Nat) (i : Int) : Option Nat := if 0 ≤ i then (if i < n then some i.toNat else none) else if -(n : Int) ≤ i then some (i + n).toNat else none
def atI {α : Type} (xs : List α) (i : Int) : Option α := (ixN xs.length i).bind fun j => xs[j]?
theorem ixN_seq {n : Nat} {i : Int} {j : Nat} (h : ixN n i = some j) : seqIndex? i n = some j ∧ j < n ∧ -(n : Int) ≤ i ∧ i < n := by
  unfold ixN at h
  by_cases h0 : 0 ≤ i
  · rw [if_pos h0] at h
    by_cases h1 : i < n
    · rw [if_pos h1] at h
      have e : i.toNat = j := Option.some.inj h
      exact ⟨by rw [seqIndex_of h0 h1, e], by omega, by omega, h1⟩
    · rw [if_neg h1] at h; cases h
  · rw [if_neg h0] at h
    by_cases h1 : -(n : Int) ≤ i
    · rw [if_pos h1] at h
      have e : (i + n).toNat = j := Option.some.inj h
      exact ⟨by rw [seqIndex_neg (by omega) h1, e], by omega, h1, by omega⟩
    · rw [if_neg h1] at h; cases h
theorem atI_get {α : Type} {xs : List α} {i : Int} {v : α} (h : atI xs i = some v) : ∃ j, seqIndex? i xs.length = some j ∧ xs[j]? = some v ∧ j < xs.length ∧ -(xs.length : Int) ≤ i ∧ i < xs.length := by
  unfold atI at h
  cases e : ixN xs.length i with
  | none => rw [e] at h; cases h
  | some j =>
    rw [e] at h
    obtain ⟨h1, h2, h3, h4⟩ := ixN_seq e
    exact ⟨j, h1, h, h2, h3, h4⟩
theorem atI_nat {α : Type} {xs : List α} {j : Nat} {v : α} (h : xs[j]? = some v) : atI xs (j : Int) = some v := by
  have hj : j < xs.length := (List.getElem?_eq_some_iff.mp h).1
  have e : ixN xs.length (j : Int) = some j := by
    unfold ixN
    rw [if_pos (by omega), if_pos (by omega)]; simp
  unfold atI; rw [e]; exact h
/-! ### what may be subscripted -/
/-- what stands as an index of a plain subscript -/
def PlainIx (b : Expr) : Prop := ∀ o i, subscripted b false o i = operate [o, i] (getItem o i)
/-- a subscript by values -/
def IxR (X : Cx) (r : R2) : Prop :=
  ∀ (value slice : Expr) (pins : List (Addr × Obj)) (s : Shared) (σ : St) (H : Hp) (x y : V) (v u : Value) (Q : VK), Inv X pins σ H s → RelV x v → RelV y u → r x y H Q →
    subscripted slice false v u = operate [v, u] (getItem v u) → wpAny (model X.prog X.w) X.A (subscriptTail value slice v u) (EP X pins σ Q) X.xe s
/-- a call of a builtin's method by values: the receiver, the arguments -/
def MtR (X : Cx) (id : String) (r : V → List V → Hp → VK → Prop) : Prop :=
  ∀ (pins : List (Addr × Obj)) (s : Shared) (σ : St) (H : Hp) (x : V) (xs : List V) (v : Value) (us : List Value) (Q : VK), Inv X pins σ H s → RelV x v → Vals xs us → r x xs H Q →
    wpAny (model X.prog X.w) X.A (call (.builtin id) (v :: us)) (EP X pins σ Q) X.xe s
section
variable {X : Cx} {a b : Expr} {ta tb : TE} {pos : Pos}
/-- a[b] -/
theorem pe_ix {r : R2} (hr : IxR X r) (ha : PE X a ta) (hb : PE X b tb) (hs : PlainIx b) : PE X (.Subscript a b pos) (tOp r ta tb) := by
  intro pins s σ H Q I h
  exact Subscript_ (binT ha hb I h fun v u s2 x y H2 I2 rx ry q => hr a b pins s2 σ H2 x y v u Q I2 rx ry q (hs _ _))

def rIxL (K : PySem.W.Frag) : R2 := fun x y H Q => ∃ p xs i v, x = .ref p ∧ y = .int i ∧ SqL K H p xs ∧ atI xs i = some v ∧ Q v H
def rIxT (K : PySem.W.Frag) : R2 := fun x y H Q => ∃ p xs i v, x = .ref p ∧ y = .int i ∧ SqT K H p xs ∧ atI xs i = some v ∧ Q v H
def rIxS : R2 := fun x y H Q => ∃ z i c, x = .str z ∧ y = .int i ∧ z.length ≤ sizeLine ∧ atI z.cps.toList i = some c ∧ Q (.str ⟨#[c]⟩) H
theorem ix_list : IxR X (rIxL X.K) := by
  intro value slice pins s σ H x y v u Q I rx ry h hs
  obtain ⟨p, xs, i, z, rfl, rfl, hq, he, q⟩ := h
  cases rx
  obtain ⟨t, rfl⟩ := ry
  obtain ⟨its, r, pl, hz⟩ := I.list hq
  obtain ⟨j, h1, h2, h3, h4, h5⟩ := atI_get he
  obtain ⟨w, ew, rw'⟩ := r.get h2
  have hl := r.length
  have hn := line63
  have fin : EP X pins σ Q w s := ⟨z, H, I, rw', q⟩
  by_cases h0 : 0 ≤ i
  · have hj : i.toNat = j := by
      rw [seqIndex_of h0 h5] at h1
      exact Option.some.inj h1
    exact item_listR pl.isList h0 (by omega) (by rw [hj]; simpa using ew) fin hs
  · have hj : (i + (its.toArray.size : Int)).toNat = j := by
      rw [seqIndex_neg (by omega) h4] at h1
      rw [List.size_toArray, ← hl]
      exact Option.some.inj h1
    exact subscriptTail_builtinR (x := w) pl.isList.typeIs slot_list_getitem.lookup
      (wpAny_getItem_list_neg (Q := fun r s' => r = w ∧ EP X pins σ Q r s') pl.isList (by omega) (by rw [List.size_toArray] <;> omega) (by omega) (by rw [hj]; simpa using ew) ⟨rfl, fin⟩) hs
theorem ix_tup : IxR X (rIxT X.K) := by
  intro value slice pins s σ H x y v u Q I rx ry h hs
  obtain ⟨p, xs, i, z, rfl, rfl, hq, he, q⟩ := h
  cases rx
  obtain ⟨t, rfl⟩ := ry
  obtain ⟨its, r, pl, hz⟩ := I.tuple hq
  obtain ⟨j, h1, h2, h3, h4, h5⟩ := atI_get he
  obtain ⟨w, ew, rw'⟩ := r.get h2
  have hl := r.length
  have hn := line63
  have fin : EP X pins σ Q w s := ⟨z, H, I, rw', q⟩
  exact subscriptTail_builtinR (x := w) pl.typeIs slot_tuple_getitem.lookup
    (getItem_tuple (j := j) (Q := fun r s' => r = w ∧ EP X pins σ Q r s') pl (by omega) (by omega) (by rw [List.size_toArray, ← hl]; exact h1) (by simpa using ew) ⟨rfl, fin⟩) hs
/-- list, tuple or str -/
def rIx (K : PySem.W.Frag) : R2 := fun x y H Q => rIxL K x y H Q ∨ rIxT K x y H Q ∨ rIxS x y H Q
/-! ### xs[i] = v, any sign -/
def rSetL : V → V → V → Hp → (Hp → Prop) → Prop := fun o i v H Q => ∃ p xs k j, o = .ref p ∧ i = .int k ∧ H p = some (.lst xs) ∧ ixN xs.length k = some j ∧ Q (upd H p (.lst (xs.set j v)))
/-! ### slices -/
theorem slice_bounds (lo hi : Option Int) (n : Nat) : (sliceBounds lo hi none n).1 = ((HT.sIx n 0 lo : Nat) : Int) ∧ (sliceBounds lo hi none n).2.1 = ((HT.sIx n n hi : Nat) : Int) ∧ (sliceBounds lo hi none n).2.2 = 1 := by
  refine ⟨?_, ?_, rfl⟩
  · cases lo with
    | none => simp [sliceBounds, HT.sIx]
    | some i =>
      simp only [sliceBounds, HT.sIx, Option.getD_none, show (1 : Int) > 0 by decide, if_true]
      by_cases h : i < 0
      · simp only [h, if_true] <;> omega
      · simp only [h, if_false] <;> omega
  · cases hi with
    | none => simp [sliceBounds, HT.sIx]
    | some i =>
      simp only [sliceBounds, HT.sIx, Option.getD_none, show (1 : Int) > 0 by decide, if_true]
      by_cases h : i < 0
      · simp only [h, if_true] <;> omega
      · simp only [h, if_false] <;> omega
theorem slicePick_cut (its : List Value) (lo hi : Option Int) : slicePick its.toArray lo hi none = ((its.drop (HT.sIx its.length 0 lo)).take (HT.sIx its.length its.length hi - HT.sIx its.length 0 lo)).toArray := by
  obtain ⟨h1, h2, h3⟩ := slice_bounds lo hi its.toArray.size
  unfold slicePick
  rw [h1, h2, h3]
  simp only [sliceRange_one, pick_run, List.size_toArray] <;> rfl
/-- xs[lo:hi] of a list: a new list -/
def rSlL (K : PySem.W.Frag) : V → Option Int → Option Int → Hp → VK → Prop := fun x lo hi H Q => ∃ a xs, x = .ref a ∧ SqL K H a xs ∧ ∀ p, H p = none → Q (.ref p) (upd H p (.lst (cutV xs lo hi)))
theorem sl_list : SlR X (rSlL X.K) := by
  intro pins s σ H x v vl vu lo hi sl Q I rx hs pl pu h
  obtain ⟨a, xs, rfl, hx, q⟩ := h
  cases rx
  obtain ⟨its, r, ht, hz⟩ := I.list hx
  have hlen := r.length
  refine ⟨"list", _, slot_list_getitem.lookup, ht.isList.typeIs, ?_⟩
  refine wpAny_getItem_list_slice ht.isList hs pl pu .none (by simp) ?_ (by rw [List.size_toArray] <;> omega)
  rw [slicePick_cut, ← hlen]
  refine ⟨.ref s.heap.objs.size, _, I.laid (t' := s.toks) (o := .lst (cutV xs lo hi)) (fun b ob q => Heap.get?_push_of_some _ q) (Nat.le_refl _) ?_, rfl, q _ (I.hok.fresh (Nat.le_refl _))⟩
  exact ⟨Nat.le_trans (cutV_length xs lo hi) hz, _, 0, (r.drop (HT.sIx xs.length 0 lo)).take (HT.sIx xs.length xs.length hi - HT.sIx xs.length 0 lo), Heap.get?_push_size _ rfl⟩

/-! ### in, not in: flat items -/
def flatV : V → Bool
  | .non => true
  | .bl _ => true
  | .int _ => true
  | .str _ => true
  | _ => false
/-- == of flat values -/
def eqV : V → V → Bool
  | .non, .non => true
  | .bl a, .bl b => a == b
  | .bl a, .int b => (if a then 1 else 0) == b
  | .int a, .bl b => a == (if b then 1 else 0)
  | .int a, .int b => a == b
  | .str a, .str b => a == b
  | _, _ => false
theorem eqAt_V {A : Around} {s : Shared} {y x : V} {u v : Value} (ry : RelV y u) (rx : RelV x v) (fy : flatV y = true) (fx : flatV x = true) : SeqAt.EqAt A s u v (eqV y x) := by
  cases y with
  | non =>
    cases ry
    cases x with
    | non => cases rx; exact SeqAt.EqAt.same _
    | bl b => cases rx; exact SeqAt.EqAt.none_bool b
    | int b => obtain ⟨t, rfl⟩ := rx; exact SeqAt.EqAt.none_int b t
    | str b => obtain ⟨t, rfl⟩ := rx; exact SeqAt.EqAt.none_str b t
    | _ => exact absurd (show false = true from fx) Bool.false_ne_true
  | bl a =>
    cases ry
    cases x with
    | non => cases rx; exact SeqAt.EqAt.bool_none a
    | bl b => cases rx; exact SeqAt.EqAt.bool_bool a b
    | int b => obtain ⟨t, rfl⟩ := rx; exact SeqAt.EqAt.bool_int a b t
    | str b => obtain ⟨t, rfl⟩ := rx; exact SeqAt.EqAt.bool_str a b t
    | _ => exact absurd (show false = true from fx) Bool.false_ne_true
  | int a =>
    obtain ⟨t', rfl⟩ := ry
    cases x with
    | non => cases rx; exact SeqAt.EqAt.int_none a t'
    | bl b => cases rx; exact SeqAt.EqAt.int_bool a t' b
    | int b => obtain ⟨t, rfl⟩ := rx; exact SeqAt.EqAt.int_int a t' b t
    | str b => obtain ⟨t, rfl⟩ := rx; exact SeqAt.EqAt.int_str a t' b t
    | _ => exact absurd (show false = true from fx) Bool.false_ne_true
  | str a =>
    obtain ⟨t', rfl⟩ := ry
    cases x with
    | non => cases rx; exact SeqAt.EqAt.str_none a t'
    | bl b => cases rx; exact SeqAt.EqAt.str_bool a t' b
    | int b => obtain ⟨t, rfl⟩ := rx; exact SeqAt.EqAt.str_int a t' b t
    | str b => obtain ⟨t, rfl⟩ := rx; exact SeqAt.EqAt.str_str a t' b t
    | _ => exact absurd (show false = true from fx) Bool.false_ne_true
  | _ => exact absurd (show false = true from fy) Bool.false_ne_true
/-- the items' answers, read off the values (a value's own answer does not lean on its token) -/
def eqU (x : V) (u : Value) : Bool := match u with
  | .none => eqV .non x
  | .bool b => eqV (.bl b) x
  | .int i _ => eqV (.int i) x
  | .str z _ => eqV (.str z) x
  | _ => false
theorem eqU_of {x y : V} {u : Value} (r : RelV y u) (f : flatV y = true) : eqU x u = eqV y x := by
  cases y with
  | non => cases r; rfl
  | bl b => cases r; rfl
  | int i => obtain ⟨t, rfl⟩ := r; rfl
  | str z => obtain ⟨t, rfl⟩ := r; rfl
  | _ => exact absurd (show false = true from f) Bool.false_ne_true
theorem any_eqU {x : V} : ∀ {xs : List V} {us : List Value}, Vals xs us → xs.all flatV = true → us.any (eqU x) = xs.any fun y => eqV y x
  | _, _, .nil, _ => rfl
  | y :: xs, u :: us, .cons r t, f => by
    rw [List.all_cons, Bool.and_eq_true] at f
    rw [List.any_cons, List.any_cons, eqU_of r f.1, any_eqU t f.2]
theorem mem_eqAt {A : Around} {s : Shared} {x : V} {v : Value} (rx : RelV x v) (fx : flatV x = true) : ∀ {xs : List V} {us : List Value}, Vals xs us → xs.all flatV = true → ∀ u ∈ us, SeqAt.EqAt A s u v (eqU x u)
  | _, _, .nil, _ => fun u hu => by cases hu
  | y :: xs, u :: us, .cons r t, f => fun u' hu => by
    rw [List.all_cons, Bool.and_eq_true] at f
    rcases List.mem_cons.mp hu with rfl | hu
    · rw [eqU_of r f.1]; exact eqAt_V r rx f.1 fx
    · exact mem_eqAt rx fx t f.2 u' hu
def inV (x : V) (xs : List V) : Bool := xs.any fun y => eqV y x
/-- x in a list or tuple of flat items -/
def rIn (K : PySem.W.Frag) (neg : Bool) : R2 := fun x y H Q => ∃ p xs, y = .ref p ∧ (SqL K H p xs ∨ SqT K H p xs) ∧ flatV x = true ∧ xs.all flatV = true ∧ Q (.bl (if neg then !inV x xs else inV x xs)) H
theorem op_in_seq : OpR X (compareOp .In) (rIn X.K false) := by
  intro pins s σ H x y v u Q I rx ry h
  obtain ⟨p, xs, rfl, hq, fx, fs, q⟩ := h
  cases ry
  rcases hq with hq | hq
  · obtain ⟨its, r, pl, hz⟩ := I.list hq
    refine SeqAt.in_listAt (eqU x) pl.isList (fun w hw => mem_eqAt rx fx r fs w (by simpa using hw)) ⟨.bl _, H, I, rfl, ?_⟩
    rw [show its.toArray.any (eqU x) = its.any (eqU x) by simp, any_eqU r fs]
    exact q
  · obtain ⟨its, r, pl, hz⟩ := I.tuple hq
    refine SeqAt.in_tupleAt (eqU x) pl (fun w hw => mem_eqAt rx fx r fs w (by simpa using hw)) ⟨.bl _, H, I, rfl, ?_⟩
    rw [show its.toArray.any (eqU x) = its.any (eqU x) by simp, any_eqU r fs]
    exact q
/-! ### len, list(x), tuple(x) of any list or tuple that is read -/
theorem call_len_seq : CallR X (.builtin "len") (fun xs H Q => ∃ p ys, xs = [.ref p] ∧ (SqL X.K H p ys ∨ SqT X.K H p ys) ∧ Q (.int ys.length) H) := by
  intro pins s σ H xs us Q I r h
  obtain ⟨p, ys, rfl, hq, q⟩ := h
  obtain ⟨u, rfl, rx⟩ := vals1 r
  cases rx
  have hn := line63
  rcases hq with hq | hq
  · obtain ⟨its, r', pl, hz⟩ := I.list hq
    have hlen := r'.length
    exact Calls.call_len_list pl.isList (by simp only [List.size_toArray] <;> omega) ⟨.int ys.length, H, I.tok _, ⟨s.toks + 1, by rw [List.size_toArray, hlen]⟩, q⟩
  · obtain ⟨its, r', pl, hz⟩ := I.tuple hq
    have hlen := r'.length
    exact len_tuple pl (by simp only [List.size_toArray] <;> omega) ⟨.int ys.length, H, I.tok _, ⟨s.toks + 1, by rw [List.size_toArray, hlen]⟩, q⟩
theorem call_tuple_of : CallR X (.type "tuple") (fun xs H Q => ∃ p ys, xs = [.ref p] ∧ ((SqL X.K H p ys ∧ ∀ l, H l = none → Q (.ref l) (upd H l (.tup ys))) ∨ (SqT X.K H p ys ∧ Q (.ref p) H))) := by
  intro pins s σ H xs us Q I r h
  obtain ⟨p, ys, rfl, h⟩ := h
  obtain ⟨u, rfl, rx⟩ := vals1 r
  cases rx
  rcases h with ⟨hq, q⟩ | ⟨hq, q⟩
  · obtain ⟨its, r', pl, hz⟩ := I.list hq
    have hlen := r'.length
    refine call_tuple_list pl.isList (fun h' kp => ?_) (by simp only [List.size_toArray] <;> omega)
    have I1 : Inv X pins σ H { s with heap := h' } := I.kept (t' := s.toks) kp
    have I2 : Inv X pins σ (upd H h'.objs.size (.tup ys)) { s with heap := h'.push { cls := .type "tuple", data := .seq its.toArray } } :=
      I1.laid (t' := s.toks) (fun b o e => Heap.get?_push_of_some _ e) (Nat.le_refl _) (show ObjOk X.prog X.w _ _ _ (.tup ys) from ⟨hz, its, r', IsTup.new _ _⟩)
    exact ⟨.ref h'.objs.size, _, I2, rfl, q _ (I1.hok.fresh (Nat.le_refl _))⟩
  · obtain ⟨its, r', pl, hz⟩ := I.tuple hq
    exact call_tuple_same pl ⟨.ref p, H, I, rfl, q⟩

/-! ### the call of a builtin's method: o.m(..) -/
/-- the value is of that builtin type -/
def tyV (K : PySem.W.Frag) (T : String) (x : V) (H : Hp) : Prop := match x with
  | .str _ => T = "str"
  | .int _ => T = "int"
  | .ref p => (T = "list" ∧ ∃ xs, SqL K H p xs) ∨ (T = "tuple" ∧ ∃ o, K.lookup p = some o ∧ o.cls = .type "tuple" ∧ o.dict = none) ∨
      (T = "dict" ∧ ((∃ kvs, H p = some (.dK kvs)) ∨ ∃ kvs, H p = some (.dT kvs))) ∨ (T = "set" ∧ ∃ S n, H p = some (.set S n))
  | _ => False
theorem tyV_is {pins : List (Addr × Obj)} {σ : St} {H : Hp} {s : Shared} {T : String} {x : V} {v : Value} (I : Inv X pins σ H s) (r : RelV x v) (ty : tyV X.K T x H) :
    s.TypeIs v T ∧ ∀ a, v = .ref a → ∃ ob, s.heap.get? a = some ob ∧ ob.dict = none := by
  cases x with
  | str z =>
    obtain ⟨t, rfl⟩ := r
    cases (show T = "str" from ty)
    exact ⟨typeIs_str s z t, fun _ e => nomatch e⟩
  | int i =>
    obtain ⟨t, rfl⟩ := r
    cases (show T = "int" from ty)
    exact ⟨typeIs_int s i t, fun _ e => nomatch e⟩
  | ref p =>
    cases r
    rcases ty with ⟨rfl, xs, hq⟩ | ⟨rfl, o, hk, hc, hd⟩ | ⟨rfl, hk⟩ | ⟨rfl, S, n, hk⟩
    · obtain ⟨its, _, pl, _⟩ := I.list hq
      refine ⟨pl.isList.typeIs, fun a e => ?_⟩
      cases e
      obtain ⟨o, n, e, c, hd, _⟩ := pl
      exact ⟨o, e, hd⟩
    · refine ⟨⟨o, I.kIn p o hk, hc⟩, fun a e => ?_⟩
      cases e
      exact ⟨o, I.kIn _ o hk, hd⟩
    · have z : ∃ o, s.heap.get? p = some o ∧ o.ExactDict := by
        rcases hk with ⟨kvs, hk⟩ | ⟨kvs, hk⟩
        · obtain ⟨_, _, _, _, o, _, _, e, ex, _⟩ := I.hok p _ hk
          exact ⟨o, e, ex⟩
        · obtain ⟨_, _, _, _, o, _, _, e, ex, _⟩ := I.hok p _ hk
          exact ⟨o, e, ex⟩
      obtain ⟨o, e, ex⟩ := z
      refine ⟨⟨o, e, ex.1⟩, fun a e2 => ?_⟩
      cases e2
      exact ⟨o, e, ex.2.1⟩
    · obtain ⟨o, _, _, _, e, ex, _⟩ := I.hok p _ hk
      refine ⟨⟨o, e, ex.1⟩, fun a e2 => ?_⟩
      cases e2
      exact ⟨o, e, ex.2.1⟩
  | _ => exact False.elim ty
def tBM0 (K : PySem.W.Frag) (T : String) (r : V → List V → Hp → VK → Prop) (to : TE) : TE := fun σ H Q => to σ H fun x H1 => tyV K T x H1 ∧ r x [] H1 Q
def tBM (K : PySem.W.Frag) (T : String) (r : V → List V → Hp → VK → Prop) (to : TE) (t : TA) : TE := fun σ H Q => to σ H fun x H1 => tyV K T x H1 ∧ t σ H1 fun xs H2 => r x xs H2 Q
variable {o e : Expr} {es : List Expr} {to : TE} {t : TA} {name : Str} {apos cpos : Pos} {T id : String} {r : V → List V → Hp → VK → Prop}
theorem pe_bm (pa : PlainAttrs T) (slot : Slot T name id) (hty : typeOf (.builtin id) = pure (.type "method_descriptor")) (hm : MtR X id r) (ho : PE X o to) (ha : PA X (e :: es) t)
    (hbase : attributeBase o name X.env (eval o X.env) = eval o X.env := by rfl)
    (hfew : ((backTo cpos (starEach (e :: es) X.env)).all (fun x => !x.1) && (backToKw cpos (keywordEach [] X.env)).all (fun x => x.1.isSome)
      && decide ((e :: es).length + ([] : List Keyword).length + (if ([] : List Keyword).isEmpty then 0 else 1) < 30)) = true := by rfl)
    (hline : (apos.endLine == cpos.line) = true := by rfl) (hs : starEach (e :: es) X.env = (false, eval e X.env) :: starEach es X.env := by rfl) (hplain : (backTo cpos (starEach es X.env)).any (·.1) = false := by rfl) :
    PE X (.Call (.Attribute o name apos) (e :: es) [] cpos) (tBM X.K T r to t) := by
  intro pins s σ H Q I h
  refine wpAny_Call_method_late hbase hfew hline rfl (thn (ho pins s σ H _ I h) fun v s1 ⟨x, H1, I1, r1, ty, q1⟩ => ?_)
  obtain ⟨h1, h2⟩ := tyV_is I1 r1 ty
  refine ⟨T, id, pa, slot, hty, h1, h2, ?_⟩
  have hA := ha cpos pins s1 σ H1 _ I1 q1
  rw [hs] at hA ⊢
  refine Calls.callWith_builtin (by show (false || (backTo cpos (starEach es X.env)).any (·.1)) = false; rw [hplain] <;> rfl) (Calls.evalArgs_plain ?_)
  exact thn hA fun us s2 ⟨vs, H2, I2, r2, q2⟩ => hm pins s2 σ H2 x vs v us Q I2 r1 r2 q2
/- xs.append(e), list.index on a module's tuple .. are MtR facts of 06m -/
end
end L2

namespace L2
open PySem PySem.Spec PyProof.Rows

def MtM (X : Cx) (id : String) (r : V → List V → Hp → VK → Prop) : Prop :=
  ∀ (pins : List (Addr × Obj)) (s : Shared) (σ : St) (H : Hp) (x : V) (xs : List V) (v : Value) (us : List Value) (Q : VK), Inv X pins σ H s → RelV x v → Vals xs us → r x xs H Q →
    wpAny (model X.prog X.w) X.A (call (.builtin id) (v :: us)) (EP X pins σ Q) X.xe s

/-! ### lists of values -/
theorem Vals.one : ∀ {x : V} {us : List Value}, Vals [x] us → ∃ u, us = [u] ∧ RelV x u
  | _, _, .cons r .nil => ⟨_, rfl, r⟩
theorem Vals.eraseIdx : ∀ {xs : List V} {us : List Value} (i : Nat), Vals xs us → Vals (xs.eraseIdx i) (us.eraseIdx i)
  | _, _, _, .nil => .nil
  | _, _, 0, .cons _ t => t
  | _, _, i + 1, .cons r t => .cons r (Vals.eraseIdx i t)
theorem Vals.rep {xs : List V} {us : List Value} (h : Vals xs us) : ∀ k : Nat, Vals (List.replicate k xs).flatten (List.replicate k us).flatten
  | 0 => .nil
  | k + 1 => by
    rw [List.replicate_succ, List.replicate_succ, List.flatten_cons, List.flatten_cons]
    exact Vals.append h (Vals.rep h k)
theorem len_erase {α : Type} : ∀ (l : List α) (i : Nat), (l.eraseIdx i).length ≤ l.length
  | [], _ => Nat.le_refl _
  | _ :: _, 0 => Nat.le_succ _
  | _ :: r, i + 1 => Nat.succ_le_succ (len_erase r i)
theorem foldl_rep (its : List Value) : ∀ (k : Nat) (acc : List Value),
    List.foldl (fun x1 x2 => x1 ++ x2) acc.toArray (List.replicate k its.toArray) = (acc ++ (List.replicate k its).flatten).toArray
  | 0, acc => by simp
  | k + 1, acc => by
    have e : acc.toArray ++ its.toArray = (acc ++ its).toArray := by simp
    have e2 : (acc ++ its) ++ (List.replicate k its).flatten = acc ++ (List.replicate (k + 1) its).flatten := by
      rw [List.replicate_succ, List.flatten_cons, List.append_assoc]
    rw [← e2, ← foldl_rep its k (acc ++ its), ← e, List.replicate_succ, List.foldl_cons]

section
variable {X : Cx} {pins : List (Addr × Obj)} {σ : St} {H : Hp} {s : Shared} {l b : Addr} {xs ys zs : List V}

/-! ### the two steps: a tracked list is rewritten, a new list is laid -/
theorem Inv.lset {its its' : List Value} {n : Nat} {f : Array Value → Array Value} {t' : Nat} (I : Inv X pins σ H s) (hH : H l = some (.lst xs))
    (e : s.heap.get? l = some { cls := .type "list", data := .seq its.toArray n }) (hf : f its.toArray = its'.toArray) (hv : Vals ys its') (hz : ys.length ≤ sizeLine) :
    Inv X pins σ (upd H l (.lst ys)) { s with heap := s.heap.update l (Obj.mapSeq f), toks := t' } := by
  have q := PySem.IsL.update e f
  rw [hf] at q
  refine I.write (x := l) (e := l) (by rw [hH]; exact trivial) (.inl rfl) (fun b' u hb hu => (Heap.get?_update_other s.heap (Obj.mapSeq f) (Ne.symm hb)).trans hu) ⟨_, q⟩ ?_
  exact ⟨hz, its', _, hv, q⟩
theorem Inv.lnew {its : List Value} {t' : Nat} (I : Inv X pins σ H s) (hv : Vals ys its) (hz : ys.length ≤ sizeLine) :
    Inv X pins σ (upd H s.heap.objs.size (.lst ys)) { s with heap := s.heap.push { cls := .type "list", data := .seq its.toArray }, toks := t' } :=
  I.laid (fun _ _ q => Heap.get?_push_of_some _ q) (Nat.le_refl _) ⟨hz, its, 0, hv, Heap.get?_push_size _ rfl⟩
theorem Inv.fresh (I : Inv X pins σ H s) : H s.heap.objs.size = none := I.hok.fresh (Nat.le_refl _)
theorem Inv.lstM (I : Inv X pins σ H s) (hH : H l = some (.lst xs)) : xs.length ≤ sizeLine ∧ ∃ (its : List Value) (n : Nat), Vals xs its ∧ xs.length = its.length ∧ s.heap.get? l = some { cls := .type "list", data := .seq its.toArray n } := by
  obtain ⟨z, its, n, r, e⟩ := I.hok l _ hH
  exact ⟨z, its, n, r, r.length, e⟩

theorem notLongL {n : Nat} (h : n ≤ sizeLine) : Builtin.List.listTooLong n = false := by
  unfold Builtin.List.listTooLong
  exact decide_eq_false (by omega)
end

section
variable {X : Cx}

/-! ### methods -/
def rAppend : V → List V → Hp → VK → Prop := fun x vs H Q => ∃ l xs y, x = .ref l ∧ vs = [y] ∧ H l = some (.lst xs) ∧ xs.length < sizeLine ∧ Q .non (upd H l (.lst (xs ++ [y])))
theorem mt_append : MtM X "list.append" rAppend := by
  intro pins s σ H x vs v us Q I rx rv h
  obtain ⟨l, xs, y, rfl, rfl, hH, hz, q⟩ := h
  cases rx
  obtain ⟨u, rfl, ru⟩ := rv.one
  obtain ⟨z, its, n, r, hl, e⟩ := I.lstM hH
  refine call_meets F.slot_list_append ⟨_, e, rfl⟩ F.entry_list_append (F.args_list_append_2 _ _) (PySem.list_append l its.toArray n u (by rw [List.size_toArray]; omega)) ⟨e, ?_⟩
  refine ⟨.non, _, I.lset (its' := its ++ [u]) hH e (by simp) (r.append (.cons ru .nil)) ?_, rfl, q⟩
  rw [List.length_append, List.length_singleton]
  omega

def rExtend : V → List V → Hp → VK → Prop := fun x vs H Q => ∃ l b xs zs, x = .ref l ∧ vs = [.ref b] ∧ H l = some (.lst xs) ∧ H b = some (.lst zs) ∧ xs.length + zs.length ≤ sizeLine ∧ Q .non (upd H l (.lst (xs ++ zs)))
def rPop : V → List V → Hp → VK → Prop := fun x vs H Q => ∃ l xs y, x = .ref l ∧ vs = [] ∧ H l = some (.lst xs) ∧ xs[xs.length - 1]? = some y ∧ Q y (upd H l (.lst xs.dropLast))
def rPopAt : V → List V → Hp → VK → Prop := fun x vs H Q => ∃ l xs i k y, x = .ref l ∧ vs = [.int i] ∧ H l = some (.lst xs) ∧ -(2 ^ 63) ≤ i ∧ i < 2 ^ 63 ∧ seqIndex? i xs.length = some k ∧ xs[k]? = some y ∧ Q y (upd H l (.lst (xs.eraseIdx k)))
theorem mt_popAt : MtM X "list.pop" rPopAt := by
  intro pins s σ H x vs v us Q I rx rv h
  obtain ⟨l, xs, i, k, y, rfl, rfl, hH, h1, h2, hk, hy, q⟩ := h
  cases rx
  obtain ⟨u, rfl, ru⟩ := rv.one
  obtain ⟨t, rfl⟩ := ru
  obtain ⟨z, its, n, r, hl, e⟩ := I.lstM hH
  obtain ⟨w, hw, rw'⟩ := r.get hy
  refine call_meets F.slot_list_pop ⟨_, e, rfl⟩ F.entry_list_pop (F.args_list_pop_2 _ _)
    (MeetsSeq.list_pop_at l its.toArray n i t k w (fitsIndex_both h1 h2) (by rw [List.size_toArray, ← hl]; exact hk) (by rw [← Array.getElem?_toList]; exact hw) (by rw [List.size_toArray]; omega)) ⟨e, ?_⟩
  refine ⟨y, _, I.lset (its' := its.eraseIdx k) hH e ?_ (r.eraseIdx k) ?_, rw', q⟩
  · show its.toArray.eraseIdxIfInBounds k = (its.eraseIdx k).toArray
    rw [List.eraseIdxIfInBounds_toArray]
  · have := len_erase xs k
    omega

def rReverse : V → List V → Hp → VK → Prop := fun x vs H Q => ∃ l xs, x = .ref l ∧ vs = [] ∧ H l = some (.lst xs) ∧ Q .non (upd H l (.lst xs.reverse))
def rClear : V → List V → Hp → VK → Prop := fun x vs H Q => ∃ l xs, x = .ref l ∧ vs = [] ∧ H l = some (.lst xs) ∧ Q .non (upd H l (.lst []))
/-! ### list + list, list += list, list * int -/
def rCat : R2 := fun x y H Q => ∃ l b xs zs, x = .ref l ∧ y = .ref b ∧ H l = some (.lst xs) ∧ H b = some (.lst zs) ∧ xs.length + zs.length ≤ sizeLine ∧ ∀ p, H p = none → Q (.ref p) (upd H p (.lst (xs ++ zs)))
theorem op_cat : OpR X (binaryOp .Add) rCat := by
  intro pins s σ H x y v u Q I rx ry h
  obtain ⟨l, b, xs, zs, rfl, rfl, hH, hB, hz, q⟩ := h
  cases rx
  cases ry
  obtain ⟨z, its, n, r, hl, e⟩ := I.lstM hH
  obtain ⟨z2, its2, n2, r2, hl2, e2⟩ := I.lstM hB
  refine PySem.P.add_list e e2 ?_ (by rw [List.size_toArray, List.size_toArray]; omega)
  have ea : its.toArray ++ its2.toArray = (its ++ its2).toArray := by simp
  rw [ea]
  exact ⟨.ref _, _, I.lnew (t' := s.toks) (r.append r2) (by rw [List.length_append]; omega), rfl, q _ I.fresh⟩
/-- a list times an int (a negative one is nothing) -/
def rRep : R2 := fun x y H Q => ∃ l k xs, x = .ref l ∧ y = .int k ∧ H l = some (.lst xs) ∧ -(2 ^ 63) ≤ k ∧ k < 2 ^ 63 ∧ xs.length * k.toNat ≤ sizeLine ∧
  ∀ p, H p = none → Q (.ref p) (upd H p (.lst (List.replicate k.toNat xs).flatten))
theorem len_rep {α : Type} (xs : List α) (k : Nat) : (List.replicate k xs).flatten.length = k * xs.length := by
  induction k with
  | zero => simp
  | succ k ih => rw [List.replicate_succ, List.flatten_cons, List.length_append, ih, Nat.succ_mul, Nat.add_comm]
theorem op_rep : OpR X (binaryOp .Mult) rRep := by
  intro pins s σ H x y v u Q I rx ry h
  obtain ⟨l, k, xs, rfl, rfl, hH, h1, h2, hz, q⟩ := h
  cases rx
  obtain ⟨t, rfl⟩ := ry
  obtain ⟨z, its, n, r, hl, e⟩ := I.lstM hH
  have hlen : its.toArray.size * k.toNat ≤ sizeLine := by rw [List.size_toArray, ← hl]; exact hz
  have hcap : ¬ its.toArray.size * k.toNat > (2 ^ 63 - 1) / 8 := by
    have : (sizeLine : Nat) ≤ (2 ^ 63 - 1) / 8 := by decide
    omega
  have hfit : ¬ (!Builtin.List.listFitsIndex k) = true := by
    rw [fitsIndex_both h1 h2]
    exact Bool.false_ne_true
  have hlong : ¬ Builtin.List.listTooLong (its.toArray.size * k.toNat) = true := by
    rw [notLongL hlen]
    exact Bool.false_ne_true
  have hnew : List.foldl (fun x1 x2 => x1 ++ x2) #[] (List.replicate (if its.toArray.isEmpty = true then 0 else k.toNat) its.toArray) = (List.replicate k.toNat its).flatten.toArray := by
    have f0 : ∀ m : Nat, List.foldl (fun x1 x2 => x1 ++ x2) #[] (List.replicate m its.toArray) = (List.replicate m its).flatten.toArray := fun m => by
      have := foldl_rep its m []
      rw [List.nil_append] at this
      exact this
    rw [f0]
    cases its with
    | nil => simp
    | cons a r' => rw [if_neg (by simp)]
  refine wpAny_binaryOp_repeat_ref (T := "list") (U := "int") (by decide) ⟨_, e, rfl⟩ (fun s' => typeIs_int s' k t) noFill_list_mul F.fills_int_mul F.slot_int_rmul repeat_list F.slot_int_index.lookup
    (call_meets F.slot_int_rmul (typeIs_int s k t) F.entry_int_rmul (F.args_int_rmul_2 _ _) (int___rmul___int_list k t l its.toArray n)
      ⟨e, rfl, ⟨_, e, rfl⟩, call_meets F.slot_list_mul ⟨_, e, rfl⟩ F.entry_list_mul (F.args_list_mul_2 _ _) (AutoListH.list___mul___list_int_3 l its.toArray n k t hfit hcap hlong) ⟨e, ?_⟩⟩)
  rw [hnew]
  exact ⟨.ref _, _, I.lnew (t' := s.toks) (r.rep k.toNat) (by rw [len_rep, Nat.mul_comm]; exact hz), rfl, q _ I.fresh⟩

/-! ### del xs[i] -/
end

/-! ### xs[a:b] = ys -/
section
variable {prog : Program} {w : World} {A : Around} {E : Value → Shared → Prop} {s : Shared}
end

section
variable {X : Cx}
end
end L2

namespace Att
open PySem PySem.W PySem.Calls PyProof.Rows

/-! ### the script -/
theorem ints_of_wellAll {P : Params} {h : Heap} : ∀ (ns : List Int) (vs : List Value), WellAll P h vs (ns.map WData.int) → IntsAre vs ns := by
  intro ns
  induction ns with
  | nil =>
    intro vs w
    rw [List.map_nil] at w
    cases w
    exact .nil
  | cons n ns ih =>
    intro vs w
    rw [List.map_cons] at w
    cases w with
    | cons a b =>
      cases a
      exact .cons _ _ (ih _ b)

theorem script_of {l : OpenLaw} {n : Nat} (hn : l.most = some n) {P : Params} {h : Heap} {args : List WData} {vals : List Value}
    (hpre : l.row.toRowW.claim.pre args = true) (hwl : WellAll P h vals args) :
    ∃ a vs ns, vals = [Value.ref a] ∧ args = [WData.list (ns.map WData.int)] ∧ h.get? a = some { cls := .type "list", data := .seq vs.toArray } ∧ IntsAre vs ns ∧ ns.length ≤ n := by
  have hsh : WShape.hasAll [] args [.list .int] = true := (pre_splitW hpre).1
  have hc : l.pre.holds [] { args := args } = true := (pre_splitW hpre).2
  obtain ⟨d, r, rfl, h1, h2⟩ := hasAllW_cons hsh
  obtain rfl := hasAllW_nil h2
  obtain ⟨xs, rfl, h3⟩ := hasW_list h1
  obtain ⟨ns, rfl⟩ := items_int h3
  have hlen : ns.length ≤ n := by
    unfold OpenLaw.pre at hc
    have h4 : (WTm.not (.lt (.lit (.int (n : Int))) (.len (.arg 0)))).holds [] { args := [.list (ns.map .int)] } = true := by
      have h4 := (holds_andW hc).1
      rw [hn] at h4
      exact h4
    have h5 := condW_of h4 (w_not (w_lt w_lit (w_len_list (w_arg rfl))))
    rw [List.length_map] at h5
    refine Nat.le_of_not_lt fun q => ?_
    have q' : (n : Int) < ((ns.length : Nat) : Int) := by omega
    first
      | (rw [decide_eq_true q'] at h5; exact absurd h5 (by decide))
      | (simp at h5; omega)
  cases hwl with
  | cons w1 w2 =>
    cases w2
    cases w1 with
    | list ho hall => exact ⟨_, _, ns, rfl, rfl, ho, ints_of_wellAll ns _ hall, hlen⟩

theorem post_true (l : OpenLaw) (args : List WData) : l.row.toRowW.claim.post args (.bool true) args = true :=
  postW_of (r := l.row.toRowW) (X := (true == true))
    (show WShape.has [] (.bool true) .bool = true by first | rfl | decide | simp [WShape.has, WShape.arms, WShape.armsAll])
    (show (WTm.eq .res (.lit (.bool true))).value [] { args := args, res := some (.bool true), after := args } = some (.bool (true == true)) from w_eq_bool (w_res rfl) w_lit) rfl

/-! ### the attachment: holds_open's last premise (the goal 'hc' behind k_head) from a wpAny of the law's body -/
/-- the same from a codeAny of the CALL (for a layer whose function contracts speak of calls) -/
theorem attach_call {l : OpenLaw} {n : Nat} {q : Program} {loose : List Str} {XP : (Str → Option Value) → Heap → Prop} {YP : World → Heap → Prop} {d : DefRec}
    (hn : l.most = some n) (hdf : d.params.defaults = [])
    (call : ∀ (w : World) (s₀ s₁ : Shared) (mg mb : Str → Option Value) (fa : Addr) (o : Obj) (pm cd doc : Value) (a : Addr) (vs : List Value) (ns : List Int),
      Ground q loose [] XP w s₀ mg mb s₁.heap → YP w s₁.heap →
      s₁.heap.get? fa = some o → o.data = .func (docDef d.name d.params d.body d.scope pm cd doc) → s₁.heap.CodeRec cd d.name → mg d.name = some (.ref fa) →
      s₁.heap.get? a = some { cls := .type "list", data := .seq vs.toArray } → IntsAre vs ns → ns.length ≤ n → s₁.gens = #[] →
      codeAny (model l.prog w) callerA (.call (.ref fa) ⟨[.ref a], []⟩) (fun r s' => r = .ok (.ret (.bool true)) ∧ OldK s₁.heap s'.heap ∧ s'.os = s₁.os ∧ AllBare s'.gens) s₁) :
    WalkO q loose XP YP l.row.toRowW d [] (fun f vs => PySem.call f vs) := by
  intro w s₀ s₁ mg mb G Y fa o pm cd doc dV kV ho hd hcd hD hmg hg args vals as hpre hlay hrd hwl hlo
  obtain rfl : dV = .none := Dflts.none hD hdf
  obtain rfl : kV = .none := Dflts.noKw hD
  obtain ⟨a, vs, ns, rfl, rfl, hobj, hints, hlen⟩ := script_of hn hpre hwl
  refine enter_call (codeAny_mono (call w s₀ s₁ mg mb fa o pm cd doc a vs ns G Y ho (fd_plain hd) hcd hmg hobj hints hlen hg) fun r s' hq => ?_)
  obtain ⟨rfl, h2, h3, h4⟩ := hq
  exact ⟨.inl ⟨.bool true, .bool true, [], rfl, fun _ => rfl, .bool true, post_true l _, fun _ => ⟨List.Pairwise.nil, fun _ hm => (nomatch hm)⟩⟩, h2, h3, h4⟩

/-! ### rules over ANY heap (no ledger) from facts about the written part K: the library's own take a ledger (News) for what they write -/
section
variable {prog : Program} {w : World} {A : Around} {E : Value → Shared → Prop} {s : Shared} {K : Frag}

/-! the whole heap as the ledger: makes every rule that writes through a ledger a rule over any heap -/
def noObjs (h : Heap) : Heap := { h with objs := #[] }
def ledger (h : Heap) (L d : Addr) : List (Addr × Obj) := (List.range h.objs.size).filterMap fun a => if a = L ∨ a = d then none else (h.get? a).map fun o => (a, o)
end
end Att

namespace L2
open PySem PySem.Spec PyProof.Rows

theorem vals_ints : ∀ {vs : List Value} {ns : List Int}, IntsAre vs ns → Vals (ns.map V.int) vs
  | _, _, .nil => .nil
  | _, _, .cons n t h => .cons ⟨t, rfl⟩ (vals_ints h)

/-- nothing is tracked but the script, known to the object (or it is an object of the module) -/
def Only (H : Hp) : Prop := ∀ b, H b = none ∨ ∃ o xs, H b = some (.frz o (.lst xs))

/-- THE HEAD: the law's promise, at the heap behind the top. F, the promise of the law's def, may use that base is part of the heap (so K.In base, base.Ns mainGlobals mg stand in Mod) -/
theorem law_call {P : Program} {w : World} {K : PySem.W.Frag} {mg mb : Str → Option Value} {CX : CXT} {k : Nat} {fa a : Addr} {fd : FuncData} {x : Str} {sp : Sp} {s₁ : Shared} {vs : List Value} {ns : List Int}
    (KX : K.In s₁.heap) (hns : s₁.heap.Ns mainGlobals mg) (hb : s₁.heap.Ns builtinsNs mb) (hbb : ∀ x : Str, x ≠ "__name__" → mb x = bootBuiltins x) (hlim : s₁.heap.NoLimit) (hg : s₁.gens = #[])
    (ha : s₁.heap.get? a = some { cls := .type "list", data := .seq vs.toArray }) (hi : IntsAre vs ns) (hl : ns.length ≤ sizeLine) (hr : Room k callerA)
    (F : ∀ base : Heap, K.In base → base.Ns mainGlobals mg → FnOk P w K mg base CX k fa fd [x] sp) (hbind : ∀ (s : Shared) (u : Value), BindsTo s fd ⟨[u], []⟩ [(x, u)])
    (hsp : ∀ H : Hp, Only H → SqL K H a (ns.map V.int) → sp [.ref a] H (fun v _ => v = .bl true) fun _ _ _ => False)
    (hCX : ∀ H e s', CX [] H s₁ (fun _ _ _ => False) e s' → False) :
    codeAny (model P w) callerA (.call (.ref fa) ⟨[.ref a], []⟩) (fun r s' => r = .ok (.ret (.bool true)) ∧ OldK s₁.heap s'.heap ∧ s'.os = s₁.os ∧ AllBare s'.gens) s₁ := by
  have rv := vals_ints hi
  have lenV := hi.length
  -- from an abstract heap in which nothing but the script may be tracked
  have core : ∀ H : Hp, Only H → SqL K H a (ns.map V.int) → HOk P w H s₁.heap → (∀ b, H b ≠ none → b = a) → (H a ≠ none → K.lookup a = none) →
      codeAny (model P w) callerA (.call (.ref fa) ⟨[.ref a], []⟩) (fun r s' => r = .ok (.ret (.bool true)) ∧ OldK s₁.heap s'.heap ∧ s'.os = s₁.os ∧ AllBare s'.gens) s₁ := by
    intro H hO hS hok hA hK
    have base_of : ∀ {b : Addr} {o : Obj}, s₁.heap.get? b = some o → H b = none → (hidT s₁.heap H).get? b = some o := fun e n => hidT_get e n
    have noA : ∀ {b : Addr} {o : Obj} {es : Array DictEntry} {ep : Nat}, s₁.heap.get? b = some o → o.data = .dict es ep → H b = none := fun {b o es ep} e d => by
      cases q : H b with
      | none => rfl
      | some u =>
        have e' : b = a := hA b (by rw [q]; simp)
        subst e'
        rw [ha] at e; cases e
        have d' : Data.seq vs.toArray _ = Data.dict es ep := d
        cases d'
    have nsK : ∀ {b : Addr} {m : Str → Option Value}, s₁.heap.Ns b m → (hidT s₁.heap H).Ns b m := fun {b m} ⟨o, es, ep, e, d, r⟩ => ⟨o, es, ep, base_of e (noA e d), d, r⟩
    have hKb : K.In (hidT s₁.heap H) := fun b o e => base_of (KX b o e) (by
      cases q : H b with
      | none => rfl
      | some u =>
        have e' : b = a := hA b (by rw [q]; simp)
        subst e'
        rw [hK (by rw [q]; simp)] at e; cases e)
    have hM : Mod K mg (hidT s₁.heap H) := ⟨hKb, nsK hns, ⟨mb, nsK hb, hbb⟩, let ⟨mc, h1, h2⟩ := hlim; ⟨mc, nsK h1, h2⟩⟩
    have e0 : Env0 P w K mg (hidT s₁.heap H) callerA [] s₁ H := ⟨rfl, hM, fun b o e => of_hidT e, Nat.le_of_eq (hidT_size _ _), trivial, fun b hb => absurd (show b ∈ ([] : List Addr) from hb) (by simp), hok, .of_eq hg⟩
    refine codeAny_mono ((F _ hKb (nsK hns)).run callerA [] s₁ H ⟨[.ref a], []⟩ [.ref a] [.ref a] _ _ hr e0 (hbind s₁ (.ref a)) (.cons rfl .nil) (hsp H hO hS)) fun r s' h => ?_
    cases r with
    | error e => exact (hCX H e s' h).elim
    | ok fl =>
      cases fl with
      | next => exact False.elim h
      | brk => exact False.elim h
      | cont => exact False.elim h
      | ret u =>
        obtain ⟨v, H', os, bare, un, hok', r', q⟩ := h
        have q' : v = .bl true := q
        subst q'
        obtain rfl : u = Value.bool true := r'
        refine ⟨rfl, OldK.of_keep fun b o e => ?_, os, bare⟩
        cases q : H b with
        | none => exact un.keep b o e q (by intro z; exact absurd (show b ∈ ([] : List Addr) from z) (by simp)) (by simp)
        | some u =>
          rcases hO b with z | ⟨ob, xs, z⟩
          · rw [q] at z; cases z
          · have z2 := un.frzs b ob _ z
            obtain ⟨e1, _⟩ := hok b _ z
            obtain ⟨e2, _⟩ := hok' b _ z2
            rw [e] at e1; cases e1
            exact e2
  cases hk : K.lookup a with
  | some o =>
    -- the script is one of the module's own objects
    have e := KX a o hk
    rw [ha] at e
    cases e
    refine core (fun _ => none) (fun _ => .inl rfl) (.inr ⟨_, vs.toArray, _, hk, rfl, rfl, rfl, by rw [List.size_toArray, lenV]; exact hl, by simpa using rv⟩) (fun b u z => by have z' : (none : Option HO) = some u := z; cases z') (fun b z => absurd rfl z) fun z => absurd rfl z
  | none =>
    refine core (fun b => if b = a then some (.frz { cls := .type "list", data := .seq vs.toArray } (.lst (ns.map V.int))) else none) (fun b => ?_) (.inl (.inr ⟨{ cls := .type "list", data := .seq vs.toArray }, if_pos rfl⟩)) (fun b u z => ?_) (fun b z => ?_) fun _ => hk
    · by_cases hb : b = a
      · exact .inr ⟨_, _, if_pos hb⟩
      · exact .inl (if_neg hb)
    · by_cases hb : b = a
      · have z' := (if_pos hb).symm.trans z
        cases z'
        subst hb
        exact ⟨ha, by rw [List.length_map]; exact hl, vs, _, rv, ha⟩
      · have z' := (if_neg hb).symm.trans z
        cases z'
    · by_cases hb : b = a
      · exact hb
      · exact absurd (if_neg hb) z
end L2

namespace L2
open PySem PySem.Spec PyProof.Rows

abbrev KOf {K : PySem.W.Frag} {h : Heap} (_ : K.In h) : PySem.W.Frag := K

/-- the goal that k_head leaves (case hc), from the law's promise. F gives the function object fd (K's own) once, then the promise over every base -/
theorem walk_of {l : PySem.W.OpenLaw} {n k : Nat} {q : Program} {loose : List Str} {XP : (Str → Option Value) → Heap → Prop} {YP : World → Heap → Prop} {d : DefRec} {K : Params → PySem.W.Frag} {CX : World → CXT} {sp : World → Sp} {x : Str}
    (hn : l.most = some n) (hn2 : n ≤ sizeLine) (hdf : d.params.defaults = []) (hr : Room k callerA)
    (hY : ∀ (w : World) (h : Heap), YP w h → (K w.params).In h)
    (F : ∀ (w : World) (mg : Str → Option Value) (fa : Addr) (h : Heap), (K w.params).In h → h.Ns mainGlobals mg → mg d.name = some (.ref fa) →
      ∃ fd : FuncData, (∀ (s : Shared) (u : Value), BindsTo s fd ⟨[u], []⟩ [(x, u)]) ∧
        ∀ base : Heap, (K w.params).In base → base.Ns mainGlobals mg → FnOk l.prog w (K w.params) mg base (CX w) k fa fd [x] (sp w))
    (hsp : ∀ (w : World) (H : Hp) (a : Addr) (ns : List Int), ns.length ≤ n → Only H → SqL (K w.params) H a (ns.map V.int) → sp w [.ref a] H (fun v _ => v = .bl true) fun _ _ _ => False)
    (hCX : ∀ (w : World) (H : Hp) (s : Shared) (e : Value) (s' : Shared), CX w [] H s (fun _ _ _ => False) e s' → False) :
    PySem.W.WalkO q loose XP YP l.row.toRowW d [] (fun f vs => PySem.call f vs) := by
  refine Att.attach_call hn hdf fun w s₀ s₁ mg mb fa o pm cd doc a vs ns G Y ho hd hcd hmg hobj hints hlen hg => ?_
  have KX := hY w _ Y
  obtain ⟨fd, hb, hF⟩ := F w mg fa _ KX G.T.g hmg
  exact law_call KX G.T.g G.T.b G.T.builtins G.T.nolimit hg hobj hints (Nat.le_trans hlen hn2) hr hF hb (fun H hO hS => hsp w H a ns hlen hO hS) fun H e s' => hCX w H s₁ e s'
end L2

/- THE LAST THEOREM (shape; LID, My.* are yours):
   My.Adr: a structure of the addresses that your layer names (classes, functions); My.Txt K t: a structure (Prop) of the equations over K;
   My.txt_mk : {K} {implicit addresses ..} (e1 : nsIn K mainGlobals "law" = some (some (.ref f))) (e2 : K.lookup f = some ⟨oc, od, .func (fnOf "law" "law" params body scope dV kV doc pm an cdv ct), sl⟩) (e3 : codeIn K cdv "law" = true) .. : ∃ t, My.Txt K t

set_option maxRecDepth 100000 in
set_option maxHeartbeats 0 in
theorem PySem.Challenge.cw_LID_holds : PySem.Challenge.rw_LID.Holds := by
  w_on; o_law; k_head; (case hw => w_witness2)
  k_fill
  refine L2.walk_of (l := PySem.Challenge.rw_LID) (n := 63) (k := 40) (x := "script") (CX := fun w => ..) (sp := fun _ => My.sp_law) rfl (by decide) rfl ⟨rfl, by decide, by decide⟩ (fun w h Y => PySem.W.kIn_of Y) ?F ?S ?C
  case F =>
    intro w mg fa h KX G hmg
    have T : ∃ t, My.Txt (L2.KOf KX) t := by
      dsimp only [L2.KOf]                          -- K must stand as «<heap const> w.params» for k_is
      refine' My.txt_mk ?e1 ?e2 ?e3 ..
      (case e1 => PySem.W.k_is)                    -- in the order: a name -> its address -> its object -> its parts
      (case e2 => PySem.W.k_is)
      ..
    obtain ⟨t, T⟩ := T
    have e0 := hmg.symm.trans (PySem.W.mg_of KX G T.law)
    cases e0                                       -- fa is the law's own address
    exact ⟨_, fun s u => .of_eq rfl, fun base kb nb => My.law_fn T kb nb⟩     -- if «.of_eq rfl» comes too early: refine' ⟨_, ?b, fun base kb nb => My.law_fn T kb nb⟩; exact fun s u => .of_eq rfl
  case S => exact fun w H a ns hl hO hS => ..
  case C => exact ..
(the tactic k_is has no namespace: write k_is) -/

/-! SHORT WORDS over the layer: a def of the text, its body, what a loop and a test want. -/
namespace L2
open PySem PySem.Spec PyProof.Rows

/-! ### the text by places -/
/-- the j-th statement of a class's body -/
def inClass (s : Stmt) (j : Nat) : Stmt := match s with
  | .ClassDef _ _ _ body _ _ _ _ _ _ _ => body.getD j (.Pass ⟨0, 0, 0, 0⟩)
  | _ => .Pass ⟨0, 0, 0, 0⟩
def defArgs (s : Stmt) : Arguments := match s with
  | .FunctionDef _ a _ _ _ _ _ _ _ _ => a
  | _ => { posonlyargs := [], args := [], vararg := none, kwonlyargs := [], kw_defaults := [], kwarg := none, defaults := [] }
def defBody (s : Stmt) : List Stmt := match s with
  | .FunctionDef _ _ b _ _ _ _ _ _ _ => b
  | _ => []
def defScope (s : Stmt) : Scope := match s with
  | .FunctionDef _ _ _ _ _ _ sc _ _ _ => sc
  | _ => { kind := .function, names := [], isGenerator := false, isCoroutine := false }

/-! ### no exception leaves a def -/
abbrev CX0 : CXT := fun _ _ _ _ _ _ => False
abbrev E0 : XK := fun _ _ _ => False
theorem pass0 {X : Cx} : Passes CX0 X E0 := fun _ _ _ _ _ _ _ h => h.elim

/-! ### a def (or method) of the text as it stands behind the top -/
structure Fun (K : PySem.W.Frag) (x qual : Str) (st : Stmt) (f : Addr) (fd : FuncData) : Prop where
  ex : ∃ (oc : Value) (od : Option Addr) (kV doc pm : Value) (an : Option Addr) (cdv ct : Value) (osl : Array (Option Value)),
    fd = PySem.W.fnOf x qual (defArgs st) (defBody st) (defScope st) .none kV doc pm an cdv ct ∧ K.lookup f = some ⟨oc, od, .func fd, osl⟩ ∧ PySem.W.codeIn K cdv qual = true
  kp : PySem.W.keepIn K (.ref f) = true
section
variable {P : Program} {w : World} {K : PySem.W.Frag} {mg : Str → Option Value} {base : Heap}
/-- THE RULE for a def: its body as a term of rules, and the reading of that term -/
theorem Fun.ok {x qual : Str} {st : Stmt} {f : Addr} {fd : FuncData} {N ps : List Str} {k : Nat} {sp : Sp} (F : Fun K x qual st f fd) (S : FnScope N ps (defScope st)) (len : ∀ vs H Q E, sp vs H Q E → vs.length = ps.length)
    (hbody : ∀ (cdv : Value) (A : Around) (outer : List Env) (s : Shared) (H : Hp) (vs : List V) (Q : VK) (E : XK), Room k (A.deeper (envOfC qual (defScope st) s.heap.objs.size f cdv)) → sp vs H Q E →
      ∃ t, PSs (cxOf CX0 P w K mg base N qual (defScope st) f cdv A outer s H E).nox (defBody st) t ∧ t { nx := fun _ H' => Q .non H', rt := Q } (start N vs) H) : FnOk P w K mg base CX0 (k + 1) f fd ps sp := by
  obtain ⟨oc, od, kV, doc, pm, an, cdv, ct, osl, rfl, lk, hcd⟩ := F.ex
  refine fn_of lk hcd S len fun A outer s H vs Q E hr hsp => ?_
  obtain ⟨t, h, q⟩ := hbody cdv A outer s H vs Q E hr hsp
  exact ⟨t, h.nox, q⟩
/-- how its arguments bind (no defaults): h is «fun _ _ _ _ _ _ us hl => match us, hl with | [_, _], _ => rfl», one _ a parameter -/
theorem Fun.binds {x qual : Str} {st : Stmt} {f : Addr} {fd : FuncData} {ps : List Str} (F : Fun K x qual st f fd)
    (h : ∀ (kV doc pm : Value) (an : Option Addr) (cdv ct : Value) (us : List Value), us.length = ps.length → bindArgs (PySem.W.fnOf x qual (defArgs st) (defBody st) (defScope st) .none kV doc pm an cdv ct) ⟨us, []⟩ = pure (ps.zip us)) : Binds K fd ps [] := by
  obtain ⟨oc, od, kV, doc, pm, an, cdv, ct, osl, rfl, lk, hcd⟩ := F.ex
  exact .all (h kV doc pm an cdv ct)
theorem fun_mk {x qual : Str} {st : Stmt} {f : Addr} {oc : Value} {od an : Option Addr} {osl : Array (Option Value)} {kV doc pm cdv ct : Value} (l : K.lookup f = some ⟨oc, od, .func (PySem.W.fnOf x qual (defArgs st) (defBody st) (defScope st) .none kV doc pm an cdv ct), osl⟩)
    (c : PySem.W.codeIn K cdv qual = true) (k : PySem.W.keepIn K (.ref f) = true) : Fun K x qual st f (PySem.W.fnOf x qual (defArgs st) (defBody st) (defScope st) .none kV doc pm an cdv ct) := ⟨⟨oc, od, kV, doc, pm, an, cdv, ct, osl, rfl, l, c⟩, k⟩
end
/-! ### expressions in short: the name that stands in the i-th slot -/
section
variable {X : Cx}
theorem pv (i : Nat) {x : Str} {pos : Pos} (hN : X.N[i]? = some x := by rfl) (hv : Vis X.env.scope x := by first | exact Or.inl rfl | exact Or.inr (Or.inl rfl) | exact Or.inr (Or.inr rfl)) (hd : (x == ("__debug__" : Str)) = false := by decide)
    (hcd : (x == ("__classdict__" : Str)) = false := by decide) : PE X (.Name x pos) (tVar i) := pe_var hN hv hd hcd
end

/-! ### tests -/
theorem iteF {A B : Prop} (h : B) : if false = true then A else B := by
  rw [if_neg Bool.false_ne_true]
  exact h
theorem iteT {A B : Prop} (h : A) : if true = true then A else B := by
  rw [if_pos rfl]
  exact h
theorem ite2 {c A B : Prop} [Decidable c] (h1 : c → A) (h2 : ¬ c → B) : if c then A else B := by
  by_cases h : c
  · rw [if_pos h]
    exact h1 h
  · rw [if_neg h]
    exact h2 h
/-! ### heaps -/
/-- all that was tracked is as it was -/
def Same (H H' : Hp) : Prop := ∀ b o, H b = some o → H' b = some o
theorem Same.trans {H H1 H2 : Hp} (a : Same H H1) (b : Same H1 H2) : Same H H2 := fun c o h => b c o (a c o h)
theorem Same.free {H H' : Hp} (e : Same H H') {l : Addr} (h : H' l = Option.none) : H l = Option.none := by
  cases q : H l with
  | none => rfl
  | some o =>
    rw [e l o q] at h
    cases h
theorem Same.seq {K : PySem.W.Frag} {H H' : Hp} {a : Addr} {xs : List V} (e : Same H H') (h : SqL K H a xs) : SqL K H' a xs := by
  rcases h with (h | ⟨o, h⟩) | h
  · exact .inl (.inl (e _ _ h))
  · exact .inl (.inr ⟨o, e _ _ h⟩)
  · exact .inr h

end L2

section
set_option maxHeartbeats 3999000
namespace L2
open PySem PySem.Spec PyProof.Rows

/-! ### comprehensions: the closure -/
def closOf (cs : List (Str × Addr)) : List (Str × NameKind) → List (Str × Addr) → List (Str × Addr)
  | [], acc => acc
  | (n, k) :: r, acc => if k == .free then closOf cs r ((n, (cs.lookup n).getD 0) :: acc) else closOf cs r acc

theorem closureFor_eq {scope : Scope} {env : Env} (h : ∀ y ∈ scope.names, y.2 = .free → ∃ c, env.cells.lookup y.1 = some c) :
    closureFor scope env = pure (closOf env.cells scope.names []) := by
  have go : ∀ (names : List (Str × NameKind)) (acc : List (Str × Addr)), (∀ y ∈ names, y.2 = .free → ∃ c, env.cells.lookup y.1 = some c) →
      (forIn names acc (fun (x : Str × NameKind) (cs : List (Str × Addr)) => (if (x.2 == NameKind.free) = true then do
        let a ← cellOf env x.1
        pure (ForInStep.yield ((x.1, a) :: cs)) else pure (ForInStep.yield cs) : Sem (ForInStep (List (Str × Addr)))))) = (pure (closOf env.cells names acc) : Sem _) := by
    intro names
    induction names with
    | nil => intro acc _; rfl
    | cons y r ih =>
      intro acc hy
      obtain ⟨n, k⟩ := y
      rw [List.forIn_cons]
      cases hk : (k == NameKind.free) with
      | true =>
        obtain ⟨c, hc⟩ := hy (n, k) List.mem_cons_self (by simpa using hk)
        have hcell : cellOf env n = pure c := by
          unfold cellOf
          have hc' : env.cells.lookup n = some c := hc
          rw [hc']
        simp only [hk, if_true, hcell]
        have e := ih ((n, c) :: acc) fun y hy' => hy y (List.mem_cons_of_mem _ hy')
        have hc' : env.cells.lookup n = some c := hc
        simp only [closOf, hk, if_true, hc', Option.getD_some]
        exact e
      | false =>
        simp only [hk, Bool.false_eq_true, if_false]
        have e := ih acc fun y hy' => hy y (List.mem_cons_of_mem _ hy')
        simp only [closOf, hk, Bool.false_eq_true, if_false]
        exact e
  have e := go scope.names [] h
  unfold closureFor
  show (forIn scope.names [] _ >>= fun cs => pure cs) = _
  first
    | (rw [e]; rfl)
    | (simp only []; rw [e]; rfl)
    | (have e' := e; simp at e' ⊢; exact e')

theorem closOf_lookup {cs : List (Str × Addr)} : ∀ (names : List (Str × NameKind)) (acc : List (Str × Addr)),
    (∀ y ∈ names, y.2 = .free → ∃ c, cs.lookup y.1 = some c) → (∀ x c, acc.lookup x = some c → cs.lookup x = some c) →
    ∀ x c, (closOf cs names acc).lookup x = some c → cs.lookup x = some c
  | [], acc, _, h, x, c, e => h x c e
  | (n, k) :: r, acc, hy, h, x, c, e => by
    have hr : ∀ y ∈ r, y.2 = .free → ∃ c, cs.lookup y.1 = some c := fun y hy' => hy y (List.mem_cons_of_mem _ hy')
    unfold closOf at e
    cases hk : (k == NameKind.free) with
    | false =>
      rw [hk] at e
      exact closOf_lookup r acc hr h x c e
    | true =>
      rw [hk] at e
      obtain ⟨d, hd⟩ := hy (n, k) List.mem_cons_self (by simpa using hk)
      have hd' : cs.lookup n = some d := hd
      refine closOf_lookup r _ hr (fun x c e' => ?_) x c e
      rw [hd', Option.getD_some, List.lookup_cons] at e'
      cases hx : (x == n) with
      | true =>
        rw [hx] at e'
        have : x = n := by simpa using hx
        subst this
        rw [hd']
        exact e'
      | false =>
        rw [hx] at e'
        exact h x c e'

theorem closOf_has {cs : List (Str × Addr)} : ∀ (names : List (Str × NameKind)) (acc : List (Str × Addr)) (x : Str),
    ((∃ c, acc.lookup x = some c) ∨ (x, NameKind.free) ∈ names) → ∃ c, (closOf cs names acc).lookup x = some c
  | [], acc, x, h => by
    rcases h with h | h
    · exact h
    · cases h
  | (n, k) :: r, acc, x, h => by
    unfold closOf
    cases hk : (k == NameKind.free) with
    | false =>
      refine closOf_has r acc x ?_
      rcases h with h | h
      · exact .inl h
      · rcases List.mem_cons.mp h with h | h
        · cases h
          exact absurd hk (by decide)
        · exact .inr h
    | true =>
      refine closOf_has r _ x ?_
      cases hx : (x == n) with
      | true => exact .inl ⟨_, by rw [List.lookup_cons, hx]⟩
      | false =>
        rcases h with ⟨c, h⟩ | h
        · exact .inl ⟨c, by rw [List.lookup_cons, hx]; exact h⟩
        · rcases List.mem_cons.mp h with h | h
          · cases h
            simp at hx
          · exact .inr h
theorem lookup_mem {α : Type} : ∀ {l : List (Str × α)} {x : Str} {k : α}, l.lookup x = some k → (x, k) ∈ l
  | [], x, k, h => by simp at h
  | (n, j) :: r, x, k, h => by
    rw [List.lookup_cons] at h
    cases hx : (x == n) with
    | true =>
      rw [hx] at h
      have : x = n := by simpa using hx
      subst this
      cases h
      exact List.mem_cons_self
    | false =>
      rw [hx] at h
      exact List.mem_cons_of_mem _ (lookup_mem h)
theorem lookup_relabel_free {env : Env} : ∀ {names : List (Str × NameKind)} {x : Str}, names.lookup x = some .free →
    (names.map fun (n, k) => if (k == NameKind.free && env.scope.kind == .function && env.kindOf n == some .cell) then (n, NameKind.cell) else (n, k)).lookup x = some .cell ∨
    (names.map fun (n, k) => if (k == NameKind.free && env.scope.kind == .function && env.kindOf n == some .cell) then (n, NameKind.cell) else (n, k)).lookup x = some .free
  | [], _, h => by simp at h
  | (n, k) :: r, x, h => by
    have ih := @lookup_relabel_free env r x
    simp only [List.map_cons]
    cases hx : x == n with
    | true =>
      simp only [List.lookup_cons, hx] at h; cases h
      by_cases hc : (NameKind.free == NameKind.free && env.scope.kind == .function && env.kindOf n == some .cell) = true
      · rw [if_pos hc]; left; simp only [List.lookup_cons, hx]
      · rw [if_neg hc]; right; simp only [List.lookup_cons, hx]
    | false =>
      simp only [List.lookup_cons, hx] at h; rcases Classical.em ((k == NameKind.free && env.scope.kind == .function && env.kindOf n == some .cell) = true) with hc | hc
      · exact (by rw [if_pos hc]; simp only [List.lookup_cons, hx]; exact ih h)
      · exact (by rw [if_neg hc]; simp only [List.lookup_cons, hx]; exact ih h)
theorem relabel_cell {env : Env} : ∀ {names : List (Str × NameKind)} {x : Str},
    ((names.map fun (n, k) => if (k == NameKind.free && env.scope.kind == .function && env.kindOf n == some .cell) then (n, NameKind.cell) else (n, k)).lookup x = some .cell ∨
    (names.map fun (n, k) => if (k == NameKind.free && env.scope.kind == .function && env.kindOf n == some .cell) then (n, NameKind.cell) else (n, k)).lookup x = some .free) →
    names.lookup x = some .free ∨ names.lookup x = some .cell
  | [], _, h => by simp at h
  | (n, k) :: r, x, h => by
    have ih := @relabel_cell env r x
    simp only [List.map_cons] at h
    cases hx : x == n with
    | true =>
      rcases Classical.em ((k == NameKind.free && env.scope.kind == .function && env.kindOf n == some .cell) = true) with hc | hc
      · have hk : k = .free := by
          simp only [Bool.and_eq_true] at hc; simpa using hc.1.1
        subst hk
        exact .inl (by simp only [List.lookup_cons, hx])
      · rw [if_neg hc] at h
        simp only [List.lookup_cons, hx] at h ⊢
        rcases h with h | h
        · exact .inr h
        · exact .inl h
    | false =>
      rcases Classical.em ((k == NameKind.free && env.scope.kind == .function && env.kindOf n == some .cell) = true) with hc | hc
      · rw [if_pos hc] at h
        simp only [List.lookup_cons, hx] at h ⊢
        exact ih h
      · rw [if_neg hc] at h
        simp only [List.lookup_cons, hx] at h ⊢
        exact ih h
end L2

end
section
set_option maxHeartbeats 3999000
namespace L2
open PySem PySem.Spec PyProof.Rows

abbrev compCx (X : Cx) (N' : List Str) (scope : Scope) (s₃ : Shared) (H₃ : Hp) (ex : List Addr) (pins : List (Addr × Obj)) : Cx :=
  { X with N := N', s₀ := s₃, H₀ := H₃, env := compEnvC scope (closOf X.env.cells scope.names []) s₃.heap.objs.size X.env, outer := X.stack, stack := X.stack, ex := ex, fn := fun _ => false, pn := X.pn ++ pins, xe := fun _ _ => False }

def ifsSem (ifs : List Expr) (env : Env) : Sem Bool :=
  forIn ifs true fun c r => if r = true then do let ok ← isTrue c env (eval c env); pure (ForInStep.yield ok) else pure (ForInStep.yield r)
def PIfs (X : Cx) (ifs : List Expr) (t : TT) : Prop :=
  ∀ (pins : List (Addr × Obj)) (s : Shared) (σ : St) (H : Hp) (Q : Bool → Hp → Prop), Inv X pins σ H s → t σ H Q → wpAny (model X.prog X.w) X.A (ifsSem ifs X.env) (TP X pins σ Q) X.xe s
def tYes : TT := fun _ H Q => Q true H
theorem pifs_nil {X : Cx} : PIfs X [] tYes := fun _ _ _ H _ I h => wpAny_pure ⟨H, I, h⟩
theorem pifs_one {X : Cx} {c : Expr} {t : TT} (h : PT X c t) : PIfs X [c] t := by
  intro pins s σ H Q I hw
  unfold ifsSem
  rw [List.forIn_cons]
  simp only [if_true]
  exact wpAny_bind (wpAny_bind (thn (h pins s σ H _ I hw) fun b s1 q => wpAny_pure (wpAny_pure q)))

/-! ### what a comprehension's scope must be -/
structure CompSc (X : Cx) (N' : List Str) (ix : List (Option Nat)) (scope : Scope) : Prop where
  kind : scope.kind = .function
  nocell : ∀ y ∈ scope.names, y.2 ≠ .cell
  names : ∀ y ∈ scope.names, y.2 = .local → scope.names.lookup y.1 = some .local
  free : ∀ y ∈ scope.names, y.2 = .free → X.env.kindOf y.1 = some .cell ∨ X.env.kindOf y.1 = some .free
  len : N'.length = ix.length
  cap : ∀ j i : Nat, ix[j]? = some (some i) → ∃ x, N'[j]? = some x ∧ X.N[i]? = some x ∧ scope.names.lookup x = some .free

def compScB (osc : Scope) (oN N' : List Str) (ix : List (Option Nat)) (scope : Scope) : Bool :=
  (scope.kind == .function) && (scope.names.all fun y => y.2 != .cell) && (scope.names.all fun y => y.2 != .local || scope.names.lookup y.1 == some .local) &&
  (scope.names.all fun y => y.2 != .free || (osc.names.lookup y.1 == some .cell || osc.names.lookup y.1 == some .free)) && (N'.length == ix.length) &&
  ((List.range ix.length).all fun j => match ix[j]? with
    | some (some i) => (match N'[j]? with
      | some x => oN[i]? == some x && scope.names.lookup x == some .free
      | none => false)
    | _ => true)
theorem CompSc.of {X : Cx} {N' : List Str} {ix : List (Option Nat)} {scope : Scope} (osc : Scope) (oN : List Str) (h1 : X.env.scope = osc) (h2 : X.N = oN) (hb : compScB osc oN N' ix scope = true) : CompSc X N' ix scope := by
  unfold compScB at hb
  simp only [Bool.and_eq_true, List.all_eq_true] at hb
  obtain ⟨⟨⟨⟨⟨a, b⟩, c⟩, d⟩, e⟩, f⟩ := hb
  refine ⟨?_, fun y hy => ?_, fun y hy hl => ?_, fun y hy hf => ?_, by simpa using e, fun j i hj => ?_⟩
  · revert a
    cases scope.kind <;> first | (intro _; rfl) | (intro h; exact absurd h (by decide))
  · have := b y hy
    simpa using this
  · have := c y hy
    rw [hl] at this
    simpa using this
  · have := d y hy
    rw [hf] at this
    have e1 : X.env.kindOf y.1 = osc.names.lookup y.1 := by rw [← h1]; rfl
    rw [e1]
    simpa using this
  · have hlt : j < ix.length := (List.getElem?_eq_some_iff.mp hj).1
    have := f j (List.mem_range.mpr hlt)
    rw [hj] at this
    cases hN : N'[j]? with
    | none =>
      rw [hN] at this
      simp at this
    | some x =>
      rw [hN] at this
      refine ⟨x, rfl, ?_⟩
      rw [h2]
      simpa using this

def capSt (ix : List (Option Nat)) (σ : St) : St := ix.map fun o => match o with
  | none => none
  | some i => (σ[i]?).join

/-- an object that was not told of is told of -/
theorem Inv.track {X : Cx} {pins : List (Addr × Obj)} {σ : St} {H : Hp} {s : Shared} {D : Addr} {o : HO} (I : Inv X pins σ H s) (hn : H D = none) (hs : X.s₀.heap.objs.size ≤ D) (hL : X.env.locals ≠ D)
    (hC : ∀ x c, X.env.cells.lookup x = some c → c ≠ D) (hp : ∀ p ∈ X.pn ++ pins, p.1 ≠ D) (ok : ObjOk X.prog X.w (upd H D o) s.heap D o) : Inv X pins σ (upd H D o) s := by
  have ne : ∀ b u, H b = some u → b ≠ D := fun b u e => ne_of_none e hn
  refine ⟨I.ok, I.os, I.bare, ⟨I.base.keep, I.base.slot, fun b u e n hx => ?_, I.base.there, fun b xs e => ?_, fun b u xs e => ?_, fun b ps e => ?_⟩, I.loc, I.cell, ?_, fun x c e => ?_, fun p hp' => ?_, fun b u e => ?_, I.len⟩
  · have : b ≠ D := Nat.ne_of_lt (Nat.lt_of_lt_of_le (Heap.lt_size e) hs)
    rw [upd_ne this]
    exact I.base.free b u e n hx
  · have := I.base.tups b xs e
    rw [upd_ne (ne b _ this)]
    exact this
  · have := I.base.frzs b u xs e
    rw [upd_ne (ne b _ this)]
    exact this
  · obtain ⟨more, q⟩ := I.base.tbls b ps e
    exact ⟨more, by rw [upd_ne (ne b _ q)]; exact q⟩
  · rw [upd_ne hL]
    exact I.free
  · rw [upd_ne (hC x c e)]
    exact I.freeC x c e
  · obtain ⟨a1, a2, a3⟩ := I.pin p hp'
    exact ⟨a1, by rw [upd_ne (hp p hp')]; exact a2, a3⟩
  · by_cases hb : b = D
    · subst hb
      rw [upd_same] at e
      cases e
      exact ok
    · rw [upd_ne hb] at e
      exact (I.hok b u e).stay (fun c v _ q => q) (fun c q => by rw [upd_ne (ne c _ q)]; exact q) fun c xs q => by rw [upd_ne (ne c _ q)]; exact q

theorem codeAny_compLoop_gen {prog : Program} {w : World} {A : Around} {R : Result → Shared → Prop} {s : Shared} {elt target iter : Expr} {ifs : List Expr} {scope : Scope} {pos : Pos} {it acc : Value} {env : Env} (I : Nat → Shared → Prop) (turn : ∀ n s, I n s → wpAny (model prog w) A (pyNext it) (fun r s₁ => match r with
      | none => R (.ok .next) s₁
      | some v => wpAny (model prog w) A (letOwnedTupleGo target it v) (fun _ s₁' => wpAny (model prog w) A (assign target env v) (fun _ s₂ =>
          wpAny (model prog w) A (ifsSem ifs env) (fun ok s₃ => if ok = true then wpAny (model prog w) A (eval elt env) (fun x s₄ =>
              wpAny (model prog w) A (call (.builtin "list.append") [acc, x]) (fun _ s₅ => ∃ m, m < n ∧ I m s₅) (fun _ _ => False) s₄) (fun _ _ => False) s₃
            else ∃ m, m < n ∧ I m s₃) (fun _ _ => False) s₂) (fun _ _ => False) s₁') (fun _ _ => False) s₁) (fun _ _ => False) s)
    (n : Nat) (h : I n s) : codeAny (model prog w) A (.compLoop (.ListComp elt [⟨target, iter, ifs, 0⟩] scope pos) 0 it acc env) R s := by
  refine codeAny_loop rfl I (fun n s hI => ?_) n h; show wpAny _ A ((compTurn (.ListComp elt [⟨target, iter, ifs, 0⟩] scope pos) 0 it acc env).onRaise (fun x => do noteFrame x env; theTreesLotGoes x)) _ _ s
  refine wpAny_noted ?_
  rw [compTurn_list]
  refine wpAny_bind (wpAny_standAt (wpAny_bind (wpAny_mono (turn n s hI) (fun r s₁ h₁ => ?_) fun _ _ z => False.elim z)))
  cases r with
  | none => exact wpAny_pure h₁
  | some v =>
    refine wpAny_bind (wpAny_mono h₁ (fun _ s₁' h₁' => ?_) fun _ _ z => False.elim z)
    refine wpAny_bind (wpAny_mono h₁' (fun _ s₂ h₂ => wpAny_bind (wpAny_mono h₂ (fun ok s₃ h₃ => ?_) fun _ _ z => False.elim z)) fun _ _ z => False.elim z)
    cases ok with
    | false => exact (wpAny_pure ⟨rfl, h₃⟩)
    | true =>
      exact wpAny_bind (wpAny_bind (wpAny_mono h₃ (fun x s₄ h₄ => wpAny_bind (wpAny_mono h₄ (fun _ s₅ h₅ => wpAny_pure (wpAny_pure ⟨rfl, h₅⟩)) fun _ _ z => False.elim z)) fun _ _ z => False.elim z))


def Wk (σ0 σ1 : St) : Prop := σ1.length = σ0.length ∧ ∀ (j : Nat) v, σ0[j]? = some (some v) → σ1[j]? = some (some v)
theorem Wk.refl (σ : St) : Wk σ σ := ⟨rfl, fun _ _ h => h⟩
theorem Wk.set {ix : List (Option Nat)} {σ σ1 : St} {i : Nat} {v : Option V} (hi : ix[i]? = some none) (h : Wk (capSt ix σ) σ1) : Wk (capSt ix σ) (σ1.set i v) := by
  refine ⟨by rw [List.length_set]; exact h.1, fun j w e => ?_⟩
  have hj : j ≠ i := by
    rintro rfl
    unfold capSt at e
    rw [List.getElem?_map, hi] at e
    simp at e
  rw [List.getElem?_set_ne (Ne.symm hj)]
  exact h.2 j w e
/-- a target stores into the block's own slots alone -/
def GK (ix : List (Option Nat)) (g : TG) : Prop := ∀ (σ σ1 : St) (x : V) (H : Hp) (Q : St → Hp → Prop), Wk (capSt ix σ) σ1 → g x σ1 H Q → g x σ1 H fun σ2 H2 => Wk (capSt ix σ) σ2 ∧ Q σ2 H2
def GKs (ix : List (Option Nat)) (g : TGs) : Prop := ∀ (σ σ1 : St) (xs : List V) (H : Hp) (Q : St → Hp → Prop), Wk (capSt ix σ) σ1 → g xs σ1 H Q → g xs σ1 H fun σ2 H2 => Wk (capSt ix σ) σ2 ∧ Q σ2 H2
theorem gk_name {ix : List (Option Nat)} {i : Nat} (hi : ix[i]? = some none) : GK ix (gName i) := fun σ σ1 x H Q hw h => ⟨hw.set hi, h⟩
theorem gks_nil {ix : List (Option Nat)} : GKs ix gNil := fun σ σ1 xs H Q hw h => ⟨h.1, hw, h.2⟩
theorem gks_cons {ix : List (Option Nat)} {i : Nat} {u : TGs} (hi : ix[i]? = some none) (h2 : GKs ix u) : GKs ix (gCons (gName i) u) := fun σ σ1 xs H Q hw h => by
  obtain ⟨v, r, e, h⟩ := h
  exact ⟨v, r, e, h2 σ _ r H Q (hw.set hi) h⟩
theorem gk_tup {ix : List (Option Nat)} {K : PySem.W.Frag} {n : Nat} {t : TGs} (h : GKs ix t) : GK ix (gTup K n t) := fun σ σ1 x H Q hw hg => by
  obtain ⟨a, xs, e, hq, hl, hg⟩ := hg
  exact ⟨a, xs, e, hq, hl, h σ σ1 xs H Q hw hg⟩
/-- the reading of a comprehension behind its iterator: W by the turn, a measure, what was put, the heap -/
def cGo (g : TG) (ts : TT) (te : TE) (σ0 : St) (J : It) (Q : VK) (H1 : Hp) : Prop :=
  ∃ W : Nat → Nat → List V → Hp → Prop, (∃ m, W 0 m [] H1) ∧ ∀ i m ys H, W i m ys H →
    (J.stop i H ∧ ∀ D, H D = none → Q (.ref D) (upd H D (.lst ys))) ∨
    (J.go i H ∧ ∃ N : List V → Hp → Prop, (∀ ys' H', N ys' H' → ∃ m', m' < m ∧ W (i + 1) m' ys' H') ∧ ∀ x H', J.yld i H x H' → g x σ0 H' fun σ2 H2 => ts σ2 H2 fun b H3 =>
      if b = true then te σ2 H3 fun y H4 => ys.length < sizeLine ∧ N (ys ++ [y]) H4 else N ys H3)
def tComp (ix : List (Option Nat)) (wi : TI) (g : TG) (ts : TT) (te : TE) : TE := fun σ H Q => wi σ H fun J H1 => cGo g ts te (capSt ix σ) J Q H1

section
variable {X : Cx} {elt tg iter : Expr} {ifs : List Expr} {scope : Scope} {pos : Pos} {N' : List Str} {ix : List (Option Nat)} {g : TG} {ts : TT} {te : TE}

theorem comp_loop {pins : List (Addr × Obj)} {σ : St} {H2 : Hp} {s2 : Shared} {it : Addr} {fp : List Addr} {tn : Nat → Heap → Prop} {J : It} {Q : VK} {E : Value → Shared → Prop} {RR : Value → Addr → Result → Shared → Prop}
    (SC : CompSc X N' ix scope) (hc : X.calm = true) (hk : GK ix g)
    (hg : ∀ s₃ H₃ ex pins, PG (compCx X N' scope s₃ H₃ ex pins) tg g) (ht : ∀ s₃ H₃ ex pins, PIfs (compCx X N' scope s₃ H₃ ex pins) ifs ts) (he : ∀ s₃ H₃ ex pins, PE (compCx X N' scope s₃ H₃ ex pins) elt te)
    (I2 : Inv X pins σ H2 s2) (T : Turn X.prog X.w X.K tg J fp it tn) (st2 : tn 0 s2.heap) (f2 : ∀ b ∈ fp, FpOk X pins H2 b) (q : cGo g ts te (capSt ix σ) J Q H2)
    (hRR : ∀ (D C : Addr) (s' : Shared) (ys : List V) (H' : Hp) (m : Str → Option Value), Inv X pins σ (upd H' D (.lst ys)) s' → FpOk X pins (upd H' D (.lst ys)) C → s'.heap.Ns C m → Q (.ref D) (upd H' D (.lst ys)) → RR (.ref D) C (.ok .next) s') :
    wpAny (model X.prog X.w) X.A (newList []) (fun acc s₃ => wpAny (model X.prog X.w) X.A (newFunctionEnv scope X.env.globals (closOf X.env.cells scope.names []) [] X.env.qual none .none (some X.env)) (fun cenv s₄ =>
      codeAny (model X.prog X.w) X.A (.compStart (.ListComp elt [⟨tg, iter, ifs, 0⟩] scope pos) 0 (.ref it) acc { cenv with scope := relabel scope X.env }) (RR acc cenv.locals) s₄) E s₃) E s2 := by
  have hfr : ∀ y ∈ scope.names, y.2 = .free → ∃ c, X.env.cells.lookup y.1 = some c := fun y hy hf => I2.ok.has y.1 (SC.free y hy hf)
  have hcl : ∀ x c, (closOf X.env.cells scope.names []).lookup x = some c → X.env.cells.lookup x = some c := closOf_lookup scope.names [] hfr (fun x c e => by simp at e)
  refine wpAny_newObj_type (wpAny_newFunctionEnv SC.nocell (by intro y hy; simp at hy) (fun h₁ hns₁ hsb₁ => ?_) SC.kind)
  dsimp only at hns₁ hsb₁ ⊢
  have I3 : Inv X pins σ H2 { s2 with heap := s2.heap.push { cls := .type "list", dict := none, data := .seq ([] : List Value).toArray } } := I2.kept (t' := s2.toks) fun b o e => Heap.get?_push_of_some _ e
  have hD3 : (s2.heap.push { cls := .type "list", dict := none, data := .seq ([] : List Value).toArray }).get? s2.heap.objs.size = some { cls := .type "list", dict := none, data := .seq ([] : List Value).toArray } := Heap.get?_push_size _ rfl
  have hst3 : tn 0 (s2.heap.push { cls := .type "list", dict := none, data := .seq ([] : List Value).toArray }) := T.keep _ _ _ st2 fun b hb o e => Heap.get?_push_of_some _ e
  have hsz3 : (s2.heap.push { cls := .type "list", dict := none, data := .seq ([] : List Value).toArray }).objs.size = s2.heap.objs.size + 1 := Heap.size_push _ _
  generalize hh3 : s2.heap.push { cls := .type "list", dict := none, data := .seq ([] : List Value).toArray } = h3 at *
  have hfpO := T.obj _ _ st2
  have hfpLt : ∀ b ∈ fp, b < s2.heap.objs.size := fun b hb => by obtain ⟨o, e, _⟩ := hfpO b hb; exact Heap.lt_size e
  -- static facts
  have stk : ∀ b ∈ frs X.stack, b = X.env.locals ∨ b ∈ X.fs := fun b hb => List.mem_cons.mp (I2.stkSub b hb)
  have hDok : FpOk X pins H2 s2.heap.objs.size := I2.fpOk (Nat.le_refl _) I2.fresh
  have exOk : ∀ b ∈ s2.heap.objs.size :: fp, FpOk X pins H2 b := fun b hb => by
    rcases (List.mem_cons.mp hb) with e | hb
    · rw [e]; exact hDok
    · exact f2 b hb
  have exLt : ∀ b ∈ s2.heap.objs.size :: fp, b < h3.objs.size := fun b hb => by
    rw [hsz3]
    rcases (List.mem_cons.mp hb) with e | hb; · rw [e]; exact Nat.lt_succ_self _
    · exact Nat.lt_succ_of_lt (hfpLt b hb)
  have exStk : ∀ b ∈ s2.heap.objs.size :: fp, b ∉ frs X.stack := fun b hb z => by
    obtain ⟨_, a1, a2, _⟩ := exOk b hb
    rcases stk b z with e | e
    · exact a1 e
    · exact a2 e
  have old : ∀ b o, h3.get? b = some o → h₁.get? b = some o := fun b o e => hsb₁.extBut b o (Nat.ne_of_lt (Heap.lt_size e)) (Heap.get?_push_of_some _ e)
  -- the block's context
  let s3 : Shared := { s2 with heap := h3 }
  let Y : Cx := compCx X N' scope s3 H2 (s2.heap.objs.size :: fp) pins
  have I3' : Inv X pins σ H2 s3 := I3
  have okY : Y.Ok := by
    refine ⟨I2.ok.mod, SC.kind, I2.ok.glob, I2.ok.blt, Nat.le_refl _, fun x y c h1 h2 => I2.ok.inj x y c (hcl x c h1) (hcl y c h2), fun x hx => ?_, fun x c z => (by cases z), I2.ok.hd, I2.ok.frames, .inl rfl, fun b hb => ?_, fun b o e => I3'.bs b o e, ?_, fun b o e hb => ?_, exStk, I3'.stack, I3'.stkFree⟩
    · have hx' := relabel_cell (env := X.env) (names := scope.names) (x := x) hx
      rcases hx' with hx' | hx'
      · exact closOf_has scope.names [] x (.inr (lookup_mem hx'))
      · exact absurd rfl (SC.nocell _ (lookup_mem hx'))
    · exact ⟨Nat.ne_of_lt (exLt b hb), fun x c e => (exOk b hb).2.2.2.2.1 x c (hcl x c e)⟩
    · exact Nat.le_trans I2.ok.bsz I3'.sz
    · obtain ⟨_, _, _, a3, _⟩ := exOk b hb
      rcases a3 with z | z
      · exact I2.ok.noex b o e z
      · have := (I2.ok.bs b o e).1
        exact absurd (Nat.lt_of_lt_of_le (Heap.lt_size this) z) (Nat.lt_irrefl _)
  have inv4 : Inv Y [] (capSt ix σ) H2 { s3 with heap := h₁, toks := s2.toks + ([] : List (Str × Value)).length } := by
    refine ⟨okY, rfl, I2.bare, Un.kept old, ⟨_, hns₁, fun j x v e1 e2 e3 => ?_⟩, fun x c e => ?_, I3'.fresh, fun x c e => I2.freeC x c (hcl x c e), fun p hp => ?_, I3'.hok.kept old, ?_⟩
    · unfold capSt at e2
      rw [List.getElem?_map] at e2
      cases hj : ix[j]? with
      | none => rw [hj] at e2; simp at e2
      | some oi =>
        rw [hj] at e2
        cases oi with
        | none => simp at e2
        | some i =>
          obtain ⟨y, h1, h2, h3'⟩ := SC.cap j i hj
          have hxy : y = x := by
            have e1' : N'[j]? = some x := e1
            rw [h1] at e1'
            exact Option.some.inj e1'
          subst hxy
          have e2' : (σ[i]?).join = some v := by simpa using e2
          have e2'' : σ[i]? = some (some v) := by
            cases hs : σ[i]? with
            | none => rw [hs] at e2'; simp at e2'
            | some w => rw [hs] at e2'; simp at e2'; rw [e2']
          obtain ⟨m, hn, hl⟩ := I3'.loc
          have hk := SC.free (y, .free) (lookup_mem h3') rfl
          have hvis : Vis X.env.scope y := hk.elim (fun z => .inr (.inl z)) fun z => .inr (.inr z)
          obtain ⟨u, r, l⟩ := hl i y v h2 e2'' hvis
          refine ⟨u, r, .inr ⟨lookup_relabel_free h3', ?_⟩⟩
          obtain ⟨c, hcc⟩ := closOf_has (cs := X.env.cells) scope.names [] y (.inr (lookup_mem h3'))
          refine ⟨c, hcc, ?_⟩
          rcases l with ⟨hk', _⟩ | ⟨_, c', hc', hcell⟩
          · rcases hk with hk | hk
            · have hk2 : X.env.kindOf y = some .cell := hk
              rw [hk2] at hk'; cases hk'
            · have hk2 : X.env.kindOf y = some .free := hk
              rw [hk2] at hk'; cases hk'
          · have := hcl y c hcc
            rw [hc'] at this
            cases this
            obtain ⟨o, ho, hd⟩ := hcell
            exact ⟨o, old _ _ ho, hd⟩
    · obtain ⟨v, o, ho, hd⟩ := I3'.cell x c (hcl x c e)
      exact ⟨v, o, old _ _ ho, hd⟩
    · have hp' : p ∈ X.pn ++ pins := by
        have : p ∈ (X.pn ++ pins) ++ ([] : List (Addr × Obj)) := hp
        simpa using this
      obtain ⟨a1, a2, a3, a4, a5⟩ := I3'.pin p hp'
      exact ⟨old _ _ a1, a2, Nat.ne_of_lt (Heap.lt_size a1), fun z => (stk _ z).elim a3 a4, a5⟩
    · unfold capSt
      rw [List.length_map]
      exact SC.len.symm
  obtain ⟨W, ⟨m0, w0⟩, turn⟩ := q
  have fpY : ∀ {H' : Hp} {pl : List (Addr × Obj)}, (∀ b ∈ fp, H' b = none) → (∀ p ∈ pl, p.1 = s2.heap.objs.size) → ∀ b ∈ fp, FpOk Y pl H' b := fun {H' pl} hn hpl b hb => by
    obtain ⟨_, a1, a2, a3, a4, a5⟩ := f2 b hb
    refine ⟨hn b hb, Nat.ne_of_lt (exLt b (List.mem_cons_of_mem _ hb)), exStk b (List.mem_cons_of_mem _ hb), .inl (List.mem_cons_of_mem _ hb), fun x c e => a4 x c (hcl x c e), fun p hp => ?_⟩; rcases List.mem_append.mp hp with hp | hp
    · exact a5 p hp
    · rw [hpl p hp]
      exact (Nat.ne_of_lt (hfpLt b hb)).symm
  have dOk : ∀ {its : List Value} {nn : Nat} {H' : Hp} {σ' : St} {s' : Shared}, Inv Y [] σ' H' s' → H' s2.heap.objs.size = none → s'.heap.get? s2.heap.objs.size = some { cls := .type "list", data := .seq its.toArray nn } →
      Inv Y [(s2.heap.objs.size, { cls := .type "list", data := .seq its.toArray nn })] σ' H' s' := fun {its nn H' σ' s'} I' hn e => I'.pins_of fun p hp => by
    obtain rfl : p = (s2.heap.objs.size, { cls := .type "list", data := .seq its.toArray nn }) := by simpa using hp
    exact ⟨e, hn, Nat.ne_of_lt (exLt _ List.mem_cons_self), exStk _ List.mem_cons_self, fun v z => by cases z⟩
  have loop : ∀ s₅ : Shared, s₅ = { s2 with heap := h₁, toks := s2.toks + ([] : List (Str × Value)).length } →
      codeAny (model X.prog X.w) X.A (.compLoop (.ListComp elt [⟨tg, iter, ifs, 0⟩] scope pos) 0 (.ref it) (.ref s2.heap.objs.size) (compEnvC scope (closOf X.env.cells scope.names []) h3.objs.size X.env)) (RR (.ref s2.heap.objs.size) h3.objs.size) s₅ := by
    rintro s₅ rfl
    refine codeAny_compLoop_gen (fun n s' => ∃ i ys H' its nn, Inv Y [] (capSt ix σ) H' s' ∧ tn i s'.heap ∧ (∀ b ∈ fp, H' b = none) ∧ H' s2.heap.objs.size = none ∧ s'.heap.get? s2.heap.objs.size = some { cls := .type "list", data := .seq its.toArray nn } ∧ Vals ys its ∧ ys.length ≤ sizeLine ∧ W i n ys H') ?_ m0
      ⟨0, [], H2, [], 0, inv4, T.keep _ _ _ hst3 fun b hb o e => old b o e, fun b hb => (f2 b hb).1, I2.fresh, old _ _ hD3, .nil, Nat.zero_le _, w0⟩
    rintro n s5 ⟨i, ys, H5, its, nn, I5, st5, fr5, dn5, d5, v5, z5, w5⟩
    have I5p := dOk I5 dn5 d5
    rcases turn i n ys H5 w5 with ⟨stop, qn⟩ | ⟨go, N, hN, step⟩
    · refine thn (T.done Y rfl rfl rfl hc i _ s5 _ H5 (fun _ _ => False) I5p (fpY fr5 (fun p hp => by
        obtain rfl : p = (s2.heap.objs.size, { cls := .type "list", data := .seq its.toArray nn }) := by simpa using hp
        rfl)) st5 stop) fun r s6 ⟨hr, I6⟩ => ?_
      subst hr
      have d6 : s6.heap.get? s2.heap.objs.size = some { cls := .type "list", data := .seq its.toArray nn } := (I6.pin (s2.heap.objs.size, _) (List.mem_append_right _ List.mem_cons_self)).1
      have I7 : Inv X pins σ H5 s6 := by
        refine I3'.call' (s' := s6) (ch := s2.heap.objs.size :: fp) I6.os I6.base I6.hok I6.bare fun b hb => ?_
        obtain ⟨_, a1, a2, a3, a4, a5⟩ := exOk b hb
        exact ⟨a3, a1, a4, a5⟩
      have I8 : Inv X pins σ (upd H5 s2.heap.objs.size (.lst ys)) s6 := by
        obtain ⟨_, a1, a2, a3, a4, a5⟩ := hDok
        exact I7.track dn5 I2.sz (Ne.symm a1) a4 a5 ⟨z5, its, nn, v5, d6⟩
      obtain ⟨mm, hmm, _⟩ := I6.loc
      have dne : h3.objs.size ≠ s2.heap.objs.size := by rw [hsz3]; exact Nat.succ_ne_self _
      refine hRR _ _ s6 ys H5 mm I8 (I3'.fpOk (H' := upd H5 s2.heap.objs.size (.lst ys)) (Nat.le_refl _) ?_) hmm (qn _ dn5)
      show upd H5 s2.heap.objs.size (.lst ys) h3.objs.size = none
      rw [upd_ne dne]
      exact I6.free
    · have hpl : ∀ p ∈ [(s2.heap.objs.size, ({ cls := .type "list", data := .seq its.toArray nn } : Obj))], p.1 = s2.heap.objs.size := fun p hp => by
        obtain rfl : p = (s2.heap.objs.size, { cls := .type "list", data := .seq its.toArray nn }) := by simpa using hp
        rfl
      refine thn (T.item Y rfl rfl rfl hc i _ s5 _ H5 (fun _ _ => False) I5p (fpY fr5 hpl) st5 go) fun r s6 ⟨u, hr, h6⟩ => ?_
      subst hr
      refine thn h6 fun _ s7 ⟨x, H7, I7, r7, y7, st7, fr7⟩ => ?_
      have I7' := I7.pinned (fpY fr7 hpl) (T.obj _ _ st7)
      -- what is kept behind: the list, the iterator
      have back : ∀ {σ8 : St} {H8 : Hp} {s8 : Shared}, Inv Y ([(s2.heap.objs.size, ({ cls := .type "list", data := .seq its.toArray nn } : Obj))] ++ pinsAt fp s7.heap) σ8 H8 s8 → Wk (capSt ix σ) σ8 →
          Inv Y [] (capSt ix σ) H8 s8 ∧ tn (i + 1) s8.heap ∧ (∀ b ∈ fp, H8 b = none) ∧ H8 s2.heap.objs.size = none ∧ s8.heap.get? s2.heap.objs.size = some { cls := .type "list", data := .seq its.toArray nn } := fun {σ8 H8 s8} I8 wk => by
        have pD := I8.pin (s2.heap.objs.size, _) (List.mem_append_right _ (List.mem_append_left _ List.mem_cons_self))
        have I8a : Inv Y [] σ8 H8 s8 := I8.pins_of fun p hp => by cases hp
        refine ⟨I8a.weak wk.1.symm wk.2, T.keep _ _ _ st7 fun b hb o e => (I8.pin (b, o) (List.mem_append_right _ (List.mem_append_right _ (mem_pinsAt hb e)))).1, fun b hb => ?_, pD.2.1, pD.1⟩
        obtain ⟨o, e, d⟩ := T.obj _ _ st7 b hb
        exact (I8.pin (b, o) (List.mem_append_right _ (List.mem_append_right _ (mem_pinsAt hb e)))).2.1
      refine thn (hg s3 H2 (s2.heap.objs.size :: fp) pins _ s7 _ H7 x u _ I7' r7 (hk σ _ x H7 _ (Wk.refl _) (step x H7 y7))) fun _ s8 ⟨σ8, H8, I8, wk8, q8⟩ => ?_
      refine thn (ht s3 H2 (s2.heap.objs.size :: fp) pins _ s8 σ8 H8 _ I8 q8) fun ok s9 ⟨H9, I9, q9⟩ => ?_
      cases ok with
      | false =>
        rw [if_neg Bool.false_ne_true] at q9 ⊢
        obtain ⟨m', hm, w9⟩ := hN _ _ q9
        obtain ⟨a1, a2, a3, a4, a5⟩ := back I9 wk8
        exact ⟨m', hm, i + 1, ys, H9, its, nn, a1, a2, a3, a4, a5, v5, z5, w9⟩
      | true =>
        rw [if_pos rfl] at q9 ⊢
        refine thn (he s3 H2 (s2.heap.objs.size :: fp) pins _ s9 σ8 H9 _ I9 q9) fun yv s10 ⟨y, H10, I10, r10, hz, n10⟩ => ?_
        obtain ⟨m', hm, w10⟩ := hN _ _ n10
        obtain ⟨a1, a2, a3, a4, a5⟩ := back I10 wk8
        have hvl := v5.length
        refine call_meets F.slot_list_append ⟨_, a5, rfl⟩ F.entry_list_append (F.args_list_append_2 _ _) (PySem.list_append s2.heap.objs.size its.toArray nn yv (by rw [List.size_toArray]; omega)) ⟨a5, ?_⟩
        have q := PySem.IsL.update a5 (·.push yv)
        have k10 : ∀ b o, b ≠ s2.heap.objs.size → s10.heap.get? b = some o → (s10.heap.update s2.heap.objs.size (Obj.mapSeq (·.push yv))).get? b = some o := fun b o hb e => (Heap.get?_update_other s10.heap (Obj.mapSeq (·.push yv)) (Ne.symm hb)).trans e
        obtain ⟨_, b1, b2, b3, b4, b5⟩ := hDok
        have I11 : Inv Y [] (capSt ix σ) H10 { s10 with heap := s10.heap.update s2.heap.objs.size (Obj.mapSeq (·.push yv)) } :=
          a1.turned (t' := s10.toks) k10 a4 (Nat.ne_of_lt (exLt _ List.mem_cons_self)) (.inl List.mem_cons_self) (fun x c e => b4 x c (hcl x c e)) (fun p hp => by
            have : p ∈ (X.pn ++ pins) ++ ([] : List (Addr × Obj)) := hp
            exact b5 p (by simpa using this))
        have e1 : its.toArray.push yv = (its ++ [yv]).toArray := by simp
        rw [e1] at q
        refine ⟨m', hm, i + 1, ys ++ [y], H10, its ++ [yv], _, I11, T.keep _ _ _ a2 fun b hb o e => k10 b o (Nat.ne_of_lt (hfpLt b hb)) e, a3, a4, q, v5.append (.cons r10 .nil), ?_, w10⟩
        rw [List.length_append, List.length_singleton]
        omega
  exact codeAny_compStart_list (loop _ rfl) (T.self _ 0 _ _ _ (T.keep _ _ _ hst3 fun b hb o e => old b o e) (loop _ rfl))

/-- [elt for tg in iter if ..] -/
theorem pe_comp {wi : TI} (SC : CompSc X N' ix scope) (hc : X.calm = true) (hk : GK ix g) (hi : PI X tg iter wi)
    (hg : ∀ s₃ H₃ ex pins, PG (compCx X N' scope s₃ H₃ ex pins) tg g) (ht : ∀ s₃ H₃ ex pins, PIfs (compCx X N' scope s₃ H₃ ex pins) ifs ts) (he : ∀ s₃ H₃ ex pins, PE (compCx X N' scope s₃ H₃ ex pins) elt te)
    (hs : ∀ x, foldedSetIterable iter X.env x = pure x := by intro _; rfl) : PE X (.ListComp elt [⟨tg, iter, ifs, 0⟩] scope pos) (tComp ix wi g ts te) := by
  intro pins s σ H Q I h
  rw [eval_ListComp]
  have hfr : ∀ y ∈ scope.names, y.2 = .free → ∃ c, X.env.cells.lookup y.1 = some c := fun y hy hf => I.ok.has y.1 (SC.free y hy hf)
  refine wpAny_comprehension_free (use := none) rfl hs (closureFor_eq hfr) SC.kind SC.names (thn (hi pins s σ H _ I h) fun v s1 h1 => thn h1 fun itv s2 h2 => ?_)
  obtain ⟨it, fp, tn, J, H2, e, I2, T, st2, f2, q⟩ := h2
  subst e
  refine comp_loop (RR := fun acc C => compPost (model X.prog X.w) X.A X.xe none (EP X pins σ Q) acc C) SC hc hk hg ht he I2 T st2 f2 q ?_
  intro D C s' ys H' m I' fpC hm q'
  refine ⟨m, hm, fun h'' hs'' => ⟨.ref D, _, ?_, rfl, q'⟩⟩
  obtain ⟨f0, f1, f2', f3, f4, f5⟩ := fpC
  exact I'.turned (t' := s'.toks) (fun b o hb e => hs''.extBut b o hb e) f0 f1 f3 f4 f5

/-- name = [elt for ..], the stores exchanged -/
theorem ps_setComp {wi : TI} {i : Nat} {x : Str} {pos' spos : Pos} (hN : X.N.Nodup) (hxi : X.N[i]? = some x) (hx : Loc X.env.scope x) (SC : CompSc X N' ix scope) (hc : X.calm = true) (hk : GK ix g) (hi : PI X tg iter wi)
    (hg : ∀ s₃ H₃ ex pins, PG (compCx X N' scope s₃ H₃ ex pins) tg g) (ht : ∀ s₃ H₃ ex pins, PIfs (compCx X N' scope s₃ H₃ ex pins) ifs ts) (he : ∀ s₃ H₃ ex pins, PE (compCx X N' scope s₃ H₃ ex pins) elt te)
    (hsw : swapsWith (.ListComp elt [⟨tg, iter, ifs, 0⟩] scope pos) (some (.Name x pos')) spos.line X.env = pure true := by rfl)
    (hs : ∀ x, foldedSetIterable iter X.env x = pure x := by intro _; rfl) (hf : X.fn x = true ∨ X.env.scope.names.lookup x = some .local := by first | exact .inl rfl | exact .inr rfl | assumption) :
    PS X (.Assign [.Name x pos'] (.ListComp elt [⟨tg, iter, ifs, 0⟩] scope pos) spos) (tAsg (tComp ix wi g ts te) (gName i)) := by
  intro pins s σ H D I h
  have hfr : ∀ y ∈ scope.names, y.2 = .free → ∃ c, X.env.cells.lookup y.1 = some c := fun y hy hf => I.ok.has y.1 (SC.free y hy hf)
  rw [exec_Assign_Name_used _ _ _ _ hsw]; refine wpAny_bind (wpAny_standAt (wpAny_bind ?_))
  show wpAny _ X.A (do let _ ← comprehension (.ListComp elt [⟨tg, iter, ifs, 0⟩] scope pos) scope X.env _ (newList []) false (eval iter X.env) (some (assign (.Name x pos') X.env))) _ _ s
  refine wpAny_bind (wpAny_mono (wpAny_comprehension_free (use := some (assign (.Name x pos') X.env)) (Q := fun _ s' => SP X pins D .next s') rfl hs (closureFor_eq hfr) SC.kind SC.names
    (thn (hi pins s σ H _ I h) fun v s1 h1 => thn h1 fun itv s2 h2 => ?_)) (fun _ s' hq => wpAny_pure (wpAny_pure hq)) fun _ _ e => e)
  obtain ⟨it, fp, tn, J, H2, e, I2, T, st2, f2, q⟩ := h2
  subst e
  refine comp_loop (RR := fun acc C => compPost (model X.prog X.w) X.A X.xe (some (assign (.Name x pos') X.env)) (fun _ s' => SP X pins D .next s') acc C) SC hc hk hg ht he I2 T st2 f2 q ?_
  intro Da C s' ys H' m I' fpC hm q'
  show wpAny _ X.A (assign (.Name x pos') X.env (.ref Da)) _ _ _
  refine wpAny_assign_Name (store_ok2 I' hN hxi hx (show RelV (.ref Da) (.ref Da) from rfl) (fun s'' I'' ⟨a, hsb, ha⟩ => ?_) hf)
  obtain ⟨f0, f1, f2', f3, f4, f5⟩ := fpC
  have hCa : C ≠ a := by
    rcases ha with e | e
    · rw [e]; exact f1
    · exact Ne.symm (f4 x a e)
  refine ⟨m, hm.sameBut hsb hCa, fun h₃ hs₃ => ⟨_, _, ?_, q'⟩⟩
  exact I''.turned (t' := s''.toks) (fun b o hb e => hs₃.extBut b o hb e) f0 f1 f3 f4 f5
end
/-- a comprehension by a word of the turn, what was put, the heap -/
theorem comp_by {J : It} {n : Nat} {g : TG} {ts : TT} {te : TE} {σ0 : St} {Q : VK} {H : Hp} (Pv : Nat → List V → Hp → Prop) (h0 : Pv 0 [] H) (hgo : ∀ i ys H, i < n → Pv i ys H → J.go i H) (hst : ∀ ys H, Pv n ys H → J.stop n H)
    (hs : ∀ i x ys H H', i < n → Pv i ys H → J.yld i H x H' → g x σ0 H' fun σ2 H2 => ts σ2 H2 fun b H3 => if b = true then te σ2 H3 fun y H4 => ys.length < sizeLine ∧ Pv (i + 1) (ys ++ [y]) H4 else Pv (i + 1) ys H3)
    (hd : ∀ ys H D, Pv n ys H → H D = none → Q (.ref D) (upd H D (.lst ys))) : cGo g ts te σ0 J Q H := by
  refine ⟨fun i m ys H => m = n - i ∧ i ≤ n ∧ Pv i ys H, ⟨n, by simp, Nat.zero_le _, h0⟩, ?_⟩
  rintro i m ys H ⟨rfl, hi, p⟩
  by_cases hlt : i < n
  · exact .inr ⟨hgo i ys H hlt p, Pv (i + 1), fun ys' H' p' => ⟨n - (i + 1), by omega, rfl, hlt, p'⟩, fun x H' y => hs i x ys H H' hlt p y⟩
  · have e : i = n := by omega
    subst e
    exact .inl ⟨hst ys H p, fun D hD => hd ys H D p hD⟩
end L2

end
section
set_option maxHeartbeats 3999000
namespace L2
open PySem PySem.Spec PyProof.Rows

section
variable {X : Cx} {pins : List (Addr × Obj)} {σ : St} {H : Hp} {s : Shared} {h' : Heap}
/-- several untracked records of ours have turned -/
theorem Inv.turnedL {t' : Nat} {ch : List Addr} (I : Inv X pins σ H s) (k : ∀ b o, b ∉ ch → s.heap.get? b = some o → h'.get? b = some o) (hf : ∀ b ∈ ch, FpOk X pins H b)
    (th : ∀ b ∈ ch, ∃ o, h'.get? b = some o) : Inv X pins σ H { s with heap := h', toks := t' } := by
  have nit : ∀ b u, H b = some u → b ∉ ch := fun b u e z => by rw [(hf b z).1] at e; cases e
  refine I.step (g' := s.gens) (d' := s.drawn) (ch := ch) (fun b hb => ?_) (fun b o _ _ hc e _ => k b o hc e) (fun b o _ _ hc e _ => ⟨o.slots, k b o hc e⟩) (fun _ _ _ _ n => n)
    (fun b o hc e => ⟨o, k b o hc e⟩) (fun _ _ e => e) (fun _ _ _ e => e) (fun b ps e => ⟨#[], by rw [e]; simp⟩) (fun m hm => ?_) (fun b u e => ?_) I.bare
  · obtain ⟨_, a1, _, a3, a4, a5⟩ := hf b hb
    exact ⟨a3, a1, a4, a5⟩
  · obtain ⟨o, es, ep, ho, r⟩ := hm
    exact ⟨o, es, ep, k _ o (fun z => (hf _ z).2.1 rfl) ho, r⟩
  · refine (I.hok b u e).stay (fun c v hc q => k c v ?_ q) (fun _ q => q) fun _ _ q => q
    rcases hc with z | z
    · rw [z]; exact nit b u e
    · exact nit c _ z
/-- .. and a new object is told of -/
theorem Inv.turnedNew {t' : Nat} {ch : List Addr} {T : Addr} {o : HO} (I : Inv X pins σ H s) (k : ∀ b o, b ∉ ch → s.heap.get? b = some o → h'.get? b = some o) (hf : ∀ b ∈ ch, FpOk X pins H b)
    (th : ∀ b ∈ ch, ∃ o, h'.get? b = some o) (hT : s.heap.objs.size ≤ T) (ok : ObjOk X.prog X.w (upd H T o) h' T o) : Inv X pins σ (upd H T o) { s with heap := h', toks := t' } := by
  have I1 : Inv X pins σ H { s with heap := h', toks := t' } := I.turnedL k hf th
  have hn : H T = none := I.hok.fresh hT
  obtain ⟨_, a1, a2, a3, a4, a5⟩ := I.fpOk (H' := H) hT hn
  exact I1.track hn (Nat.le_trans I.sz hT) (Ne.symm a1) a4 a5 ok
end

/-! ### enumerate(a list) with a tuple of targets -/
/-- at turn i: a new tuple of the number and the item -/
def ItEn (Sq : Hp → Addr → List V → Prop) (a : Addr) : It :=
  ⟨fun i H => ∃ xs x, Sq H a xs ∧ xs[i]? = some x, fun i H x H' => ∃ T v, H T = none ∧ x = .ref T ∧ H' = upd H T (.tup [.int i, v]) ∧ ∀ xs, Sq H a xs → xs[i]? = some v, fun i H => ∃ xs, Sq H a xs ∧ xs.length ≤ i⟩
theorem isTup_pair {h : Heap} {T : Addr} {a b : Value} (e : h.get? T = some { cls := .type "tuple", data := .seq #[a, b] }) : IsTup h T ([a, b] : List Value).toArray := ⟨_, e, rfl, _, rfl⟩
theorem two_le_line : 2 ≤ sizeLine := by rw [sizeLine_eq]; decide
theorem turn_enumL {P : Program} {w : World} {K : PySem.W.Frag} {es : List Expr} {k : Nat} {pos : Pos} (a it e : Addr) (hei : e ≠ it) : Turn P w K (.Tuple es k pos) (ItEn (SqL K) a) [e, it] e (fun i h => (∃ old, IsEnum h e it i old) ∧ h.IsListIter it a i) where
  mem := by simp
  obj := fun i h st b hb => by
    obtain ⟨⟨old, he⟩, o, ho, hc, hd⟩ := st
    rcases List.mem_cons.mp hb with z | z
    · subst z
      exact ⟨_, he, fun v z => by cases z⟩
    · have z : b = it := by simpa using z
      subst z
      exact ⟨o, ho, fun v z => by rw [hd] at z; cases z⟩
  keep := fun i h h' st kk => ⟨st.1.imp fun old he => kk e (by simp) _ he, st.2.at fun o eo => kk it (by simp) o eo⟩
  item := by
    intro X hP hw hK hc i pins s σ H E I hf st hg
    subst hP hw hK
    obtain ⟨xs, x, hq, hx⟩ := hg
    obtain ⟨⟨old, he⟩, hit⟩ := st
    obtain ⟨its, rv, p, hz⟩ := I.list hq
    obtain ⟨u, hu, ru⟩ := rv.get hx
    have hes : e < s.heap.objs.size := Heap.lt_size he
    have hits : it < s.heap.objs.size := by obtain ⟨o, ho, _⟩ := hit; exact Heap.lt_size ho
    refine wpAny_pyNext_enum_item he hit p.isList (x := u) (by simpa using hu) hei fun h' ho' hit' hT hsz kk => ?_
    have k1 : ∀ b o, b ∉ [e, it] → s.heap.get? b = some o → h'.get? b = some o := fun b o hb eo => kk b o (fun z => hb (by simp [z])) (fun z => hb (by simp [z])) eo
    have th1 : ∀ b ∈ [e, it], ∃ o, h'.get? b = some o := fun b hb => by
      rcases List.mem_cons.mp hb with z | z
      · subst z; exact ⟨_, ho'⟩
      · have z : b = it := by simpa using z
        subst z
        obtain ⟨o, eo, _⟩ := hit'
        exact ⟨o, eo⟩
    have I1 : Inv X pins σ (upd H s.heap.objs.size (.tup [.int i, x])) { s with heap := h', toks := s.toks + 1 } :=
      I.turnedNew k1 hf th1 (Nat.le_refl _) ⟨two_le_line, _, .cons ⟨s.toks, rfl⟩ (.cons ru .nil), isTup_pair hT⟩
    refine ⟨_, rfl, wpAny_letOwnedTupleGo_enum ho' fun h'' he'' hs'' => ?_⟩
    have fr : ∀ b ∈ [e, it], upd H s.heap.objs.size (.tup [.int i, x]) b = none := fun b hb => by
      have hlt : b < s.heap.objs.size := by
        rcases List.mem_cons.mp hb with z | z
        · subst z; exact hes
        · have z : b = it := by simpa using z
          subst z; exact hits
      rw [upd_ne (Nat.ne_of_lt hlt)]
      exact (hf b hb).1
    have I2 : Inv X pins σ (upd H s.heap.objs.size (.tup [.int i, x])) { s with heap := h'', toks := s.toks + 1 } :=
      Inv.turnedL (s := { s with heap := h', toks := s.toks + 1 }) (ch := [e]) (t' := s.toks + 1) I1 (fun b o hb eo => hs''.extBut b o (by simpa using hb) eo) (fun b hb => by
        have z : b = e := by simpa using hb
        subst z
        exact ⟨fr b (by simp), (hf b (by simp)).2⟩) (fun b hb => by
        have z : b = e := by simpa using hb
        subst z
        exact ⟨_, he''⟩)
    refine ⟨.ref s.heap.objs.size, _, I2, rfl, ⟨_, x, I.fresh, rfl, rfl, fun ys hy => by rw [I.list_inj hy hq]; exact hx⟩, ⟨⟨_, by simpa using he''⟩, hit'.extBut hs''.extBut (Ne.symm hei)⟩, fr⟩
  done := by
    intro X hP hw hK hc i pins s σ H E I hf st hg
    subst hP hw hK
    obtain ⟨xs, hq, hx⟩ := hg
    obtain ⟨⟨old, he⟩, hit⟩ := st
    obtain ⟨its, rv, p, hz⟩ := I.list hq
    have hl := rv.length
    obtain ⟨f0, f1, f2, f3, f4, f5⟩ := hf it (by simp)
    exact wpAny_pyNext_enum_end (I.ok.hd hc) he hit p.isList (by simp; omega) fun h' eb => ⟨rfl, I.turned (t' := s.toks) (fun b o hb e => eb b o hb e) f0 f1 f3 f4 f5⟩
  self := fun _ _ _ _ _ st h => by
    obtain ⟨⟨old, he⟩, _⟩ := st
    exact wpAny_pyIter_enum he h

def iEn (Sq : Hp → Addr → List V → Prop) (ta : TA) : TI := fun σ H R => ta σ H fun vs H1 => ∃ a xs, vs = [.ref a] ∧ Sq H1 a xs ∧ R (ItEn Sq a) H1
theorem pi_enumL {X : Cx} {es : List Expr} {k : Nat} {tpos p pos : Pos} {a : Expr} {ta : TA} (hg : Gl X "enumerate") (hm : X.mg "enumerate" = none) (ha : PA X [a] ta) (hs : starEach [a] X.env = [(false, eval a X.env)] := by rfl) :
    PI X (.Tuple es k tpos) (.Call (.Name "enumerate" p) [a] [] pos) (iEn (SqL X.K) ta) := by
  intro pins s σ H R I h
  refine Call_ (ld_blt I hg hm boot_enumerate (PyProof.Rows.callWith_type1 (thn (ha pos pins s σ H _ I h) fun us s1 ⟨vs, H1, I1, r1, q1⟩ => ?_) hs rfl))
  obtain ⟨l, xs, e, hq, q⟩ := q1
  subst e
  cases r1 with
  | cons r rr =>
    cases rr
    cases r
    obtain ⟨its, rv, pl, hz⟩ := I1.list hq
    refine call_enumerate_list pl.isList fun h' he hi hsz kk => ?_
    have I2 : Inv X pins σ H1 { s1 with heap := h' } := I1.kept (t' := s1.toks) kk
    refine wpAny_pyIter_enum he ?_; refine ⟨_, [s1.heap.objs.size + 1, s1.heap.objs.size], _, ItEn (SqL X.K) l, H1, rfl, I2, turn_enumL l s1.heap.objs.size (s1.heap.objs.size + 1) (Nat.succ_ne_self _), ⟨⟨_, he⟩, hi⟩, fun b hb => ?_, q⟩
    have hle : s1.heap.objs.size ≤ b := by
      rcases List.mem_cons.mp hb with z | z
      · rw [z]; exact Nat.le_succ _
      · have z : b = s1.heap.objs.size := by simpa using z
        rw [z]; exact Nat.le_refl _
    exact I1.fpOk hle (I1.hok.fresh hle)

/-! ### zip(two lists) with a tuple of targets -/
def ItZp (Sq1 Sq2 : Hp → Addr → List V → Prop) (a b : Addr) : It :=
  ⟨fun i H => ∃ xs ys x y, Sq1 H a xs ∧ Sq2 H b ys ∧ xs[i]? = some x ∧ ys[i]? = some y,
   fun i H x H' => ∃ T u v, H T = none ∧ x = .ref T ∧ H' = upd H T (.tup [u, v]) ∧ (∀ xs, Sq1 H a xs → xs[i]? = some u) ∧ ∀ ys, Sq2 H b ys → ys[i]? = some v,
   fun i H => ∃ xs ys, Sq1 H a xs ∧ Sq2 H b ys ∧ (xs.length ≤ i ∨ ys.length ≤ i)⟩
def iZp (Sq1 Sq2 : Hp → Addr → List V → Prop) (ta : TA) : TI := fun σ H R => ta σ H fun vs H1 => ∃ a b xs ys, vs = [.ref a, .ref b] ∧ Sq1 H1 a xs ∧ Sq2 H1 b ys ∧ R (ItZp Sq1 Sq2 a b) H1
/-! ### reversed(a list) -/
def ItRv (Sq : Hp → Addr → List V → Prop) (a : Addr) (n : Nat) : It :=
  ⟨fun i H => i < n ∧ ∃ xs, Sq H a xs ∧ xs.length = n, fun i H x H' => H' = H ∧ ∀ xs, Sq H a xs → xs[n - 1 - i]? = some x, fun i H => n ≤ i⟩
def iRv (Sq : Hp → Addr → List V → Prop) (ta : TA) : TI := fun σ H R => ta σ H fun vs H1 => ∃ a xs, vs = [.ref a] ∧ Sq H1 a xs ∧ R (ItRv Sq a xs.length) H1
end L2

end
section
set_option maxHeartbeats 3999000
namespace PySem
namespace F
end F
def rvdObj (l : Addr) (i : Int) : Obj := { cls := .type "reversed", data := .fields #[.ref l, rawInt i] }
def Heap.IsRvd (h : Heap) (a l : Addr) (i : Int) : Prop := ∃ o, h.get? a = some o ∧ o.cls = .type "reversed" ∧ o.data = .fields #[.ref l, rawInt i]
section
variable {prog : Program} {w : World} {A : Around} {E : Value → Shared → Prop} {s : Shared}
open PyProof.Rows
end
end PySem

/-! ### what `enumerate` draws of a tuple -/
namespace PySem
section
variable {prog : Program} {w : World} {A : Around} {E : Value → Shared → Prop} {s : Shared}
theorem nextOf_tupI {it t : Addr} {i : Nat} {items : Array Value} {x : Value} {Q : Value → Shared → Prop} (hit : s.heap.IsTupleIter it t i) (ht : s.heap.IsTuple t items) (hx : items[i]? = some x)
    (hQ : ∀ h', h'.IsTupleIter it t (i + 1) → Heap.SameBut it s.heap h' → Q x { s with heap := h' }) : wpAny (model prog w) A (Builtin.SmallTypes.nextOf (.ref it)) Q E s := by
  obtain ⟨o, ho, hc, hd⟩ := id hit; obtain ⟨ot, hot, _, nt, hdt⟩ := ht
  unfold Builtin.SmallTypes.nextOf; refine wpAny_bind (wpAny_callSpecial?_slot (name := Str.ofString "__next__") hit.typeIs F.slot_tuple_iterator_next (wpAny_call_entry F.slot_tuple_iterator_next hit.typeIs F.entry_tuple_iterator_next ?_ (F.args_tuple_iterator_next_1 _)))
  show wpAny _ _ (field (.ref it) 0 >>= _) _ _ s; refine wpAny_bind (wpAny_field ho hd (x := .ref t) rfl ?_); show wpAny _ _ (if (Value.ref t == Value.none) = true then _ else _) _ _ _; rw [if_neg (by exact Bool.false_ne_true)]
  refine wpAny_bind (wpAny_field ho hd (x := .int _ 0) rfl ?_); refine wpAny_bind (m := seqItems? _) (wpAny_seqItems hot hdt ?_); simp only [Int.toNat_natCast, hx]
  have hn := Heap.get?_update_self (Obj.mapFields (·.setIfInBounds 1 (rawInt ((i + 1 : Nat) : Int)))) ho (Obj.isFreed_of_fields (Obj.data_mapFields hd _))
  refine wpAny_bind (wpAny_setField ho hd (by simp) (wpAny_pure ⟨x, rfl, wpAny_pure (hQ _ ⟨_, hn, (Obj.cls_mapFields ..).trans hc, ?_⟩ (Heap.SameBut.update ..))⟩)); rw [Obj.data_mapFields hd]; simp [rawInt]
theorem nextOf_tupE {it t : Addr} {i : Nat} {items : Array Value} {Q : Value → Shared → Prop} (hh : A.handled = none) (hit : s.heap.IsTupleIter it t i) (ht : s.heap.IsTuple t items) (hx : items[i]? = none)
    (hE : ∀ h' e, Heap.ExtBut it s.heap h' → (∃ o, h'.get? e = some o ∧ o.cls = .type "StopIteration") → E (.ref e) { s with heap := h' }) : wpAny (model prog w) A (Builtin.SmallTypes.nextOf (.ref it)) Q E s := by
  obtain ⟨o, ho, hc, hd⟩ := id hit; obtain ⟨ot, hot, _, nt, hdt⟩ := ht
  unfold Builtin.SmallTypes.nextOf; refine wpAny_bind (wpAny_callSpecial?_slot (name := Str.ofString "__next__") hit.typeIs F.slot_tuple_iterator_next (wpAny_call_entry F.slot_tuple_iterator_next hit.typeIs F.entry_tuple_iterator_next ?_ (F.args_tuple_iterator_next_1 _)))
  show wpAny _ _ (field (.ref it) 0 >>= _) _ _ s; refine wpAny_bind (wpAny_field ho hd (x := .ref t) rfl ?_); show wpAny _ _ (if (Value.ref t == Value.none) = true then _ else _) _ _ _; rw [if_neg (by exact Bool.false_ne_true)]
  refine wpAny_bind (wpAny_field ho hd (x := .int _ 0) rfl ?_); refine wpAny_bind (m := seqItems? _) (wpAny_seqItems hot hdt ?_); simp only [Int.toNat_natCast, hx]
  refine wpAny_bind (wpAny_rule (wpAny_bind (wpAny_setField ho hd (by simp) ?_))); show wpAny _ _ (newExc (.type "StopIteration") [] >>= _) _ _ _; refine wpAny_bind ?_
  simp only [newExc, newTuple]; refine wpAny_bind (wpAny_newObj_type ?_ (by size_fits)); refine wpAny_bind (m := firstArgMember _ _) (wpAny_of_eq (a := Value.none) (by first | rfl | (simp only [firstArgMember]; rfl)) ?_)
  refine wpAny_newObj_type ?_ (by size_fits); simp only [raiseNew]; refine wpAny_bind (wpAny_handled ?_); first | rw [show A.in1.handled = none from hh] | rw [hh]
  refine wpAny_bind (wpAny_pure (wpAny_throw ?_)); exact hE _ _ (((Heap.SameBut.update ..).extBut.push _).push _) ⟨_, Heap.get?_push_size _ rfl, rfl⟩
end
theorem Draws.tuple {prog : Program} {w : World} {A : Around} (hh : A.handled = none) (it t : Addr) (hne : t ≠ it) (items : Array Value) : Draws prog w A it [it, t] items.size (fun i v => items[i]? = some v) (fun i h => h.IsTupleIter it t i ∧ h.IsTuple t items) where
  live := fun i h st => st.1.imp fun o r => r.1
  frame := fun i h h' st kk => ⟨st.1.at fun o => kk it (by simp) o, st.2.at fun o => kk t (by simp) o⟩
  item := fun i s Q E hi st hQ => nextOf_tupI st.1 st.2 (x := items[i]) (by simp [hi]) fun h' a b => hQ _ h' s.toks (by simp [hi]) ⟨a, st.2.extBut b.extBut hne⟩ b
  done := fun s Q E st hE => nextOf_tupE hh st.1 st.2 (by simp) hE
def tupIt (t : Addr) : Obj := { cls := .type "tuple_iterator", data := .fields #[.ref t, .int 0 0] }
def enumAt (it : Addr) : Obj := { cls := .type "enumerate", data := .fields #[.none, .bool false, .ref it, rawInt 0, .none, .none] }
end PySem
namespace L2
open PySem PySem.Spec PyProof.Rows
/-! ### reversed(a tuple) -/
/-- reversed(x), x a list or a tuple -/
def iRvS (K : PySem.W.Frag) (ta : TA) : TI := fun σ H R => ta σ H fun vs H1 => ∃ a xs, vs = [.ref a] ∧ ((SqL K H1 a xs ∧ R (ItRv (SqL K) a xs.length) H1) ∨ (SqT K H1 a xs ∧ R (ItRv (SqT K) a xs.length) H1))
/-! ### enumerate(a tuple) -/
end L2

end
section
set_option maxHeartbeats 3999000
namespace L2
open PySem PySem.Spec PyProof.Rows

/-! ### == at any depth -/
inductive EqD (K : PySem.W.Frag) (H : Hp) : Nat → V → V → Bool → Prop where
  | flat {d : Nat} {x y : V} (hx : flatV x = true) (hy : flatV y = true) : EqD K H d x y (eqV x y)
  | same {d : Nat} {a : Addr} : EqD K H d (.ref a) (.ref a) true
  | lists {d : Nat} {a b : Addr} {xs ys : List V} {e : Nat → Bool} (hne : a ≠ b) (ha : SqL K H a xs) (hb : SqL K H b ys) (hl : xs.length = ys.length)
      (he : ∀ (j : Nat) x y, xs[j]? = some x → ys[j]? = some y → EqD K H d x y (e j)) : EqD K H (d + 1) (.ref a) (.ref b) ((List.range xs.length).all e)
  | lens {d : Nat} {a b : Addr} {xs ys : List V} (hne : a ≠ b) (ha : SqL K H a xs) (hb : SqL K H b ys) (hl : xs.length ≠ ys.length) : EqD K H (d + 1) (.ref a) (.ref b) false
  | tups {d : Nat} {a b : Addr} {xs ys : List V} {e : Nat → Bool} (hne : a ≠ b) (ha : SqT K H a xs) (hb : SqT K H b ys)
      (he : ∀ (j : Nat) x y, xs[j]? = some x → ys[j]? = some y → EqD K H d x y (e j)) : EqD K H (d + 1) (.ref a) (.ref b) ((List.range (min xs.length ys.length)).all e && xs.length == ys.length)
theorem Vals.getE {xs : List V} {us : List Value} (r : Vals xs us) {j : Nat} (h : j < us.toArray.size) : ∃ x, xs[j]? = some x ∧ RelV x us.toArray[j] := by
  have hl := r.length
  have hj : j < xs.length := by rw [hl]; simpa using h
  obtain ⟨u, hu, ru⟩ := r.get (i := j) (x := xs[j]) (by simp)
  refine ⟨xs[j], by simp, ?_⟩
  have : us.toArray[j] = u := by
    have h2 : j < us.length := by simpa using h
    rw [List.getElem?_eq_getElem h2] at hu
    simpa using Option.some.inj hu
  rw [this]
  exact ru
theorem EqD.at {X : Cx} {pins : List (Addr × Obj)} {σ : St} {H : Hp} {s : Shared} (I : Inv X pins σ H s) {d : Nat} {x y : V} {b : Bool} (h : EqD X.K H d x y b) :
    ∀ (A : Around) (u v : Value), RelV x u → RelV y v → A.units + d < cLine → SeqAt.EqAt A s u v b := by
  induction h with
  | flat hx hy => exact fun A u v rx ry _ => eqAt_V rx ry hx hy
  | same => intro A u v rx ry _; cases rx; cases ry; exact SeqAt.EqAt.same _
  | lists hne ha hb hl he ih =>
    intro A u v rx ry hu
    cases rx; cases ry
    obtain ⟨is1, r1, p1, _⟩ := I.list ha
    obtain ⟨is2, r2, p2, _⟩ := I.list hb
    have l1 := r1.length
    have l2 := r2.length
    refine SeqAt.EqAt.of_refs hne ?_
    have q := SeqAt.RcAt.lists (A := A) p1.isList p2.isList (by simp only [List.size_toArray]; omega) (by omega) fun j h1 h2 => by
      obtain ⟨x, hx, rx⟩ := r1.getE h1
      obtain ⟨y, hy, ry⟩ := r2.getE h2
      exact ih j x y hx hy A.in1 _ _ rx ry (by simp only [Around.in1_units]; omega)
    rw [List.size_toArray, ← l1] at q
    exact q
  | lens hne ha hb hl =>
    intro A u v rx ry hu
    cases rx; cases ry
    obtain ⟨is1, r1, p1, _⟩ := I.list ha
    obtain ⟨is2, r2, p2, _⟩ := I.list hb
    have l1 := r1.length
    have l2 := r2.length
    exact SeqAt.EqAt.of_refs hne (SeqAt.RcAt.lists_lengths p1.isList p2.isList (by simp only [List.size_toArray, bne_iff_ne]; omega) (by omega))
  | tups hne ha hb he ih =>
    intro A u v rx ry hu
    cases rx; cases ry
    obtain ⟨is1, r1, p1, _⟩ := I.tuple ha
    obtain ⟨is2, r2, p2, _⟩ := I.tuple hb
    have l1 := r1.length
    have l2 := r2.length
    refine SeqAt.EqAt.of_refs hne ?_
    have q := SeqAt.RcAt.tuples (A := A) (s := s) p1 p2 (by omega) fun j h1 h2 => by
      obtain ⟨x, hx, rx⟩ := r1.getE h1
      obtain ⟨y, hy, ry⟩ := r2.getE h2
      exact ih j x y hx hy A.in1 _ _ rx ry (by simp only [Around.in1_units]; omega)
    rw [List.size_toArray, List.size_toArray, ← l1, ← l2] at q
    exact q
/-- == of two lists, two tuples -/
def rEqD (K : PySem.W.Frag) (neg : Bool) : R2 := fun x y H Q => ∃ a b xs ys, x = .ref a ∧ y = .ref b ∧ ((SqL K H a xs ∧ SqL K H b ys) ∨ (SqT K H a xs ∧ SqT K H b ys)) ∧
  ((xs.length ≠ ys.length ∧ (∀ (j : Nat) x y, xs[j]? = some x → ys[j]? = some y → ∃ c, EqD K H 8 x y c) ∧ Q (.bl neg) H) ∨
   (xs.length = ys.length ∧ ∃ e : Nat → Bool, (∀ (j : Nat) x y, xs[j]? = some x → ys[j]? = some y → EqD K H 8 x y (e j)) ∧ Q (.bl (if neg then !(List.range xs.length).all e else (List.range xs.length).all e)) H))
theorem op_neD {X : Cx} (hu : X.A.units + 20 < cLine) : OpR X (compareOp .NotEq) (rEqD X.K true) := by
  intro pins s σ H x y v u Q I rx ry h
  obtain ⟨a, b, xs, ys, rfl, rfl, hk, h⟩ := h
  cases rx; cases ry
  rcases hk with ⟨ha, hb⟩ | ⟨ha, hb⟩
  · obtain ⟨is1, r1, p1, _⟩ := I.list ha
    obtain ⟨is2, r2, p2, _⟩ := I.list hb
    have l1 := r1.length
    have l2 := r2.length
    rcases h with ⟨hl, _, q⟩ | ⟨hl, e, he, q⟩
    · exact SeqAt.RcNeAt.lists_lengths p1.isList p2.isList (by simp only [List.size_toArray, bne_iff_ne]; omega) (by omega) _ _ _ _ ⟨.bl true, H, I, rfl, q⟩
    · refine SeqAt.RcNeAt.lists p1.isList p2.isList (e := e) (by simp only [List.size_toArray]; omega) (by omega) (fun j h1 h2 => ?_) _ _ _ _ ⟨.bl _, H, I, rfl, ?_⟩
      · obtain ⟨x, hx, rx⟩ := r1.getE h1
        obtain ⟨y, hy, ry⟩ := r2.getE h2
        exact (he j x y hx hy).at I _ _ _ rx ry (by simp only [Around.in1_units]; omega)
      · rw [List.size_toArray, ← l1]
        exact q
  · obtain ⟨is1, r1, p1, _⟩ := I.tuple ha
    obtain ⟨is2, r2, p2, _⟩ := I.tuple hb
    have l1 := r1.length
    have l2 := r2.length
    rcases h with ⟨hl, he, q⟩ | ⟨hl, e, he, q⟩
    · have he' : ∀ j : Nat, ∃ c : Bool, ∀ x y, xs[j]? = some x → ys[j]? = some y → EqD X.K H 8 x y c := fun j => by
        cases hx : xs[j]? with
        | none => exact ⟨true, fun x y z => by cases z⟩
        | some x =>
          cases hy : ys[j]? with
          | none => exact ⟨true, fun x y _ z => by cases z⟩
          | some y =>
            obtain ⟨c, hc⟩ := he j x y hx hy
            exact ⟨c, fun x' y' z1 z2 => by cases z1; cases z2; exact hc⟩
      obtain ⟨e, he''⟩ := Classical.axiomOfChoice he'
      refine SeqAt.RcNeAt.tuples (s := s) p1 p2 (e := e) (by omega) (fun j h1 h2 => ?_) _ _ _ _ ⟨.bl _, H, I, rfl, ?_⟩
      · obtain ⟨x, hx, rx⟩ := r1.getE h1
        obtain ⟨y, hy, ry⟩ := r2.getE h2
        exact (he'' j x y hx hy).at I _ _ _ rx ry (by simp only [Around.in1_units]; omega)
      · have hb' : (is1.toArray.size == is2.toArray.size) = false := by
          rw [List.size_toArray, List.size_toArray]; exact beq_eq_false_iff_ne.mpr (by omega)
        rw [hb', Bool.and_false]
        exact q
    · refine SeqAt.RcNeAt.tuples (s := s) p1 p2 (e := e) (by omega) (fun j h1 h2 => ?_) _ _ _ _ ⟨.bl _, H, I, rfl, ?_⟩
      · obtain ⟨x, hx, rx⟩ := r1.getE h1
        obtain ⟨y, hy, ry⟩ := r2.getE h2
        exact (he j x y hx hy).at I _ _ _ rx ry (by simp only [Around.in1_units]; omega)
      · have hb' : (is1.toArray.size == is2.toArray.size) = true := by
          rw [List.size_toArray, List.size_toArray]; exact beq_iff_eq.mpr (by omega)
        have hmin : min is1.toArray.size is2.toArray.size = xs.length := by rw [List.size_toArray, List.size_toArray]; omega
        rw [hb', Bool.and_true, hmin]
        exact q
/-! ### isinstance -/
/-! ### range as a thing, list(range) -/
theorem call_range1 {X : Cx} : CallR X (.type "range") (fun xs H Q => ∃ j : Int, xs = [.int j] ∧ ∀ l, H l = none → Q (.ref l) (upd H l (.rng 0 j))) := by
  intro pins s σ H xs us Q I r h
  obtain ⟨j, rfl, q⟩ := h
  obtain ⟨u, rfl, t, rfl⟩ := vals1 r
  refine call_range_1 ?_
  exact ⟨.ref s.heap.objs.size, _, I.laid (o := .rng 0 j) (fun b o e => Heap.get?_push_of_some _ e) (Nat.le_refl _) ⟨_, _, _, Heap.get?_push_size _ rfl⟩, rfl, q _ I.fresh⟩
def intsTo (lo : Int) (n : Nat) : List Int := (List.range n).map fun (i : Nat) => lo + (i : Int)
theorem intsTo_length (lo : Int) (n : Nat) : (intsTo lo n).length = n := by simp [intsTo]
theorem vals_of_items {acc : Array Value} {lo : Int} {n : Nat} (h : ItemsOf (fun i v => ∃ t, v = .int (lo + (i : Nat) * 1) t) acc n) : Vals ((intsTo lo n).map V.int) acc.toList := by
  obtain ⟨hsz, hv⟩ := h
  have go : ∀ (us : List Value) (k : Nat), (∀ (j : Nat) v, us[j]? = some v → ∃ t, v = .int (lo + ((k + j : Nat) : Int)) t) → Vals (((List.range us.length).map fun (i : Nat) => V.int (lo + ((k + i : Nat) : Int)))) us := by
    intro us
    induction us with
    | nil => intro k _; exact .nil
    | cons u us ih =>
      intro k hu
      rw [List.length_cons, List.range_succ_eq_map, List.map_cons, List.map_map]
      refine .cons ?_ ?_
      · obtain ⟨t, e⟩ := hu 0 u rfl
        exact ⟨t, e⟩
      · have := ih (k + 1) fun j v e => by
          obtain ⟨t, z⟩ := hu (j + 1) v (by simpa using e)
          exact ⟨t, by rw [z]; congr 1; omega⟩
        have e2 : (fun (i : Nat) => V.int (lo + ((k + 1 + i : Nat) : Int))) = ((fun (i : Nat) => V.int (lo + ((k + i : Nat) : Int))) ∘ Nat.succ) := by
          funext i
          show V.int _ = V.int _
          congr 2
          show ((k + 1 + i : Nat) : Int) = ((k + (i + 1) : Nat) : Int)
          omega
        rw [← e2]
        exact this
  have h1 := go acc.toList 0 fun j v e => by
    obtain ⟨t, z⟩ := hv j v (by simpa using e)
    exact ⟨t, by rw [z]; simp⟩
  have e1 : acc.toList.length = n := by simpa using hsz
  rw [e1] at h1
  unfold intsTo
  rw [List.map_map]
  have e2 : (V.int ∘ fun (i : Nat) => lo + (i : Int)) = fun (i : Nat) => V.int (lo + ((0 + i : Nat) : Int)) := by
    funext i
    show V.int (lo + (i : Int)) = V.int (lo + ((0 + i : Nat) : Int))
    rw [Nat.zero_add]
  rw [e2]
  exact h1
theorem call_list_rng {X : Cx} (hc : X.calm = true) : CallR X (.type "list") (fun xs H Q => ∃ p hi, xs = [.ref p] ∧ H p = some (.rng 0 hi) ∧ 0 ≤ hi ∧ hi ≤ 1000 ∧ ∀ l, H l = none → Q (.ref l) (upd H l (.lst ((intsTo 0 hi.toNat).map V.int)))) := by
  intro pins s σ H xs us Q I r h
  obtain ⟨p, hi, rfl, hp, h0, h1, q⟩ := h
  obtain ⟨u, rfl, rx⟩ := vals1 r
  cases rx
  obtain ⟨t, u', v, e⟩ := (show ObjOk X.prog X.w H s.heap p (.rng 0 hi) from I.hok p _ hp)
  have hsl := sizeLine_eq
  refine call_list_range (n := hi.toNat) (I.ok.hd hc) (show IsRange s.heap p 0 hi 1 t u' v from e) (small_one (by omega) (by omega) (by omega) (by omega)) (by rw [rangeSize_one]; split <;> omega) (by omega) fun h' tk acc' c' kk ho hacc => ?_
  have hv := vals_of_items (lo := 0) (n := hi.toNat) hacc
  refine ⟨.ref s.heap.objs.size, _, I.laid kk (Nat.le_refl _) ?_, rfl, q _ I.fresh⟩
  exact ⟨by rw [List.length_map, intsTo_length]; omega, acc'.toList, c', hv, by simpa using ho⟩
end L2

namespace L2
open PySem PySem.Spec PyProof.Rows
/-- a list or a tuple, walked -/
def iSeq (K : PySem.W.Frag) (tl : TE) : TI := fun σ H R => tl σ H fun x H1 => ∃ a, x = .ref a ∧ (((∃ xs, SqL K H1 a xs) ∧ R (Itl K a) H1) ∨ ((∃ xs, SqT K H1 a xs) ∧ R (Itt K a) H1))
theorem pi_seq {X : Cx} {tg l : Expr} {tl : TE} (hl : PE X l tl) : PI X tg l (iSeq X.K tl) := by
  intro pins s σ H R I h
  refine thn (hl pins s σ H _ I h) fun v s1 ⟨x, H1, I1, r1, q1⟩ => ?_
  obtain ⟨a, e, q⟩ := q1
  subst e
  cases r1
  rcases q with ⟨⟨xs, hq⟩, q⟩ | ⟨⟨xs, hq⟩, q⟩
  · obtain ⟨its, rv, p, hz⟩ := I1.list hq
    refine wpAny_pyIter_list p.isList ?_
    refine ⟨s1.heap.objs.size, [s1.heap.objs.size], _, _, H1, rfl, I1.kept (t' := s1.toks) fun b o e => Heap.get?_push_of_some _ e, turn_list a _, ⟨_, Heap.get?_push_size _ rfl, rfl, rfl⟩, fun b hb => ?_, q⟩
    have e : b = s1.heap.objs.size := by simpa using hb
    subst e
    exact I1.fpOk (Nat.le_refl _) (I1.hok.fresh (Nat.le_refl _))
  · obtain ⟨its, rv, p, hz⟩ := I1.tuple hq
    refine wpAny_pyIter_tuple (show s1.heap.IsTuple a its.toArray from p) ?_
    refine ⟨s1.heap.objs.size, [s1.heap.objs.size], _, _, H1, rfl, I1.kept (t' := s1.toks) fun b o e => Heap.get?_push_of_some _ e, turn_tuple a _, ⟨_, Heap.get?_push_size _ rfl, rfl, rfl⟩, fun b hb => ?_, q⟩
    have e : b = s1.heap.objs.size := by simpa using hb
    subst e
    exact I1.fpOk (Nat.le_refl _) (I1.hok.fresh (Nat.le_refl _))
/-- a + b of two lists -/
def rCatL (K : PySem.W.Frag) : R2 := fun x y H Q => ∃ a b xs ys, x = .ref a ∧ y = .ref b ∧ H a = some (.lst xs) ∧ H b = some (.lst ys) ∧ xs.length + ys.length ≤ sizeLine ∧ ∀ p, H p = none → Q (.ref p) (upd H p (.lst (xs ++ ys)))
end L2

namespace L2
open PySem PySem.Spec PyProof.Rows
/-- a display of written ints -/
def intsOf : List Expr → Option (List Int)
  | [] => some []
  | .Constant (.int i) _ _ :: r => (intsOf r).map (i :: ·)
  | _ => none
def tInts (ns : List Int) : TA := fun _ H Q => Q (ns.map V.int) H
theorem pa_ints' {X : Cx} : ∀ (es : List Expr) (ns : List Int), intsOf es = some ns → PA X es (tInts ns) := by
  intro es
  induction es with
  | nil =>
    intro ns h
    have e : ns = [] := (Option.some.inj h).symm
    subst e
    exact pa_nil
  | cons e r ih =>
    intro ns h
    unfold intsOf at h
    split at h
    · rename_i heq
      cases heq
    · rename_i i j p r' heq
      injection heq with e1 e2
      subst e1 e2
      cases hr : intsOf r with
      | none => rw [hr] at h; cases h
      | some ms =>
        rw [hr] at h
        have e : i :: ms = ns := Option.some.inj h
        subst e
        exact pa_cons pe_int (ih ms hr)
    · cases h
theorem pa_ints {X : Cx} {es : List Expr} {ns : List Int} (h : intsOf es = some ns) : PA X es (tInts ns) := pa_ints' es ns h
end L2

namespace L2
open PySem PySem.Spec PyProof.Rows
theorem pa_cI {X : Cx} {i : Int} {j : Nat} {p : Pos} {es : List Expr} {t : TA} (hr : PA X es t) : PA X (.Constant (.int i) j p :: es) (tCons (tC (.int i)) t) := pa_cons pe_int hr
end L2

namespace L2
open PySem PySem.Spec PyProof.Rows
/-- name = [written ints]: use it with @ (a plain application looks into the type, at a cost of two to the number of items) -/
theorem pss_ints {X : Cx} {i : Nat} {x : Str} {pos' pos2 spos : Pos} {rest : List Stmt} {u : TS} {es : List Expr} {ns : List Int} (h : intsOf es = some ns) (hN : X.N.Nodup) (hi : X.N[i]? = some x) (hx : Loc X.env.scope x)
    (hf : X.fn x = true ∨ X.env.scope.names.lookup x = some .local) (hr : PSs X rest u) : PSs X (.Assign [.Name x pos'] (.List es pos2) spos :: rest) (tSeq (tAsg (tLst (tInts ns)) (gName i)) u) := by
  have h1 : PE X (.List es pos2) (tLst (tInts ns)) := @pe_lst X es (tInts ns) pos2 (@pa_ints X es ns h)
  have h2 : PS X (.Assign [.Name x pos'] (.List es pos2) spos) (tAsg (tLst (tInts ns)) (gName i)) := ps_set hN hi hx h1 (by rfl) hf
  exact pss_cons h2 hr
end L2

namespace L2
open PySem PySem.Spec PyProof.Rows
/-! ### rules inside a comprehension's block: the written part by its own name, so that the reading does not hang on the block's state -/
section
variable {X : Cx} {K : PySem.W.Frag}
theorem ix_listK (hK : X.K = K) : IxR X (rIxL K) := by subst hK; exact ix_list
theorem ix_tupK (hK : X.K = K) : IxR X (rIxT K) := by subst hK; exact ix_tup
theorem sl_listK (hK : X.K = K) : SlR X (rSlL K) := by subst hK; exact sl_list
theorem op_in_seqK (hK : X.K = K) : OpR X (compareOp .In) (rIn K false) := by subst hK; exact op_in_seq
def rLenS (K : PySem.W.Frag) : List V → Hp → VK → Prop := fun xs H Q => ∃ p ys, xs = [.ref p] ∧ (SqL K H p ys ∨ SqT K H p ys) ∧ Q (.int ys.length) H
theorem call_len_seqK (hK : X.K = K) : CallR X (.builtin "len") (rLenS K) := by subst hK; exact call_len_seq
def rIsi (K : PySem.W.Frag) : List V → Hp → VK → Prop := fun xs H Q => ∃ x t n b, xs = [x, .ty n] ∧ TyOf K H x t ∧ PySem.W.kitOne K t (.type n) = some b ∧ Q (.bl b) H
theorem pg_tupK {es : List Expr} {k : Nat} {t : TGs} {n : Nat} {pos : Pos} (hK : X.K = K) (hc : X.calm = true) (h : PGs X es t)
    (hn : (assignEach es X.env).length = n := by rfl) (hst : (assignEach es X.env).findIdx? (·.1) = none := by rfl) : PG X (.Tuple es k pos) (gTup K n t) := by subst hK; exact pg_tup hc h hn hst
theorem pe_bmK {o e : Expr} {es : List Expr} {to : TE} {t : TA} {name : Str} {apos cpos : Pos} {T id : String} {r : V → List V → Hp → VK → Prop} (hK : X.K = K) (pa : PlainAttrs T) (slot : Slot T name id) (hty : typeOf (.builtin id) = pure (.type "method_descriptor")) (hm : MtR X id r) (ho : PE X o to) (ha : PA X (e :: es) t)
    (hbase : attributeBase o name X.env (eval o X.env) = eval o X.env := by rfl)
    (hfew : ((backTo cpos (starEach (e :: es) X.env)).all (fun x => !x.1) && (backToKw cpos (keywordEach [] X.env)).all (fun x => x.1.isSome)
      && decide ((e :: es).length + ([] : List Keyword).length + (if ([] : List Keyword).isEmpty then 0 else 1) < 30)) = true := by rfl)
    (hline : (apos.endLine == cpos.line) = true := by rfl) (hs : starEach (e :: es) X.env = (false, eval e X.env) :: starEach es X.env := by rfl) (hplain : (backTo cpos (starEach es X.env)).any (·.1) = false := by rfl) :
    PE X (.Call (.Attribute o name apos) (e :: es) [] cpos) (tBM K T r to t) := by subst hK; exact pe_bm pa slot hty hm ho ha hbase hfew hline hs hplain
end
end L2

namespace L2
end L2

end
section
namespace My
/-! ### numbers modulo p -/
def Cg (p a b : Int) : Prop := ∃ k, a = b + p * k
theorem Cg.refl (p a : Int) : Cg p a a := ⟨0, by grind⟩
theorem Cg.symm {p a b : Int} (h : Cg p a b) : Cg p b a := by obtain ⟨k, e⟩ := h; exact ⟨-k, by grind⟩
theorem Cg.trans {p a b c : Int} (h : Cg p a b) (h' : Cg p b c) : Cg p a c := by
  obtain ⟨k, e⟩ := h; obtain ⟨l, e'⟩ := h'; exact ⟨k + l, by grind⟩
theorem Cg.add {p a b c d : Int} (h : Cg p a b) (h' : Cg p c d) : Cg p (a + c) (b + d) := by
  obtain ⟨k, e⟩ := h; obtain ⟨l, e'⟩ := h'; exact ⟨k + l, by grind⟩
theorem Cg.mul {p a b c d : Int} (h : Cg p a b) (h' : Cg p c d) : Cg p (a * c) (b * d) := by
  obtain ⟨k, e⟩ := h; obtain ⟨l, e'⟩ := h'
  exact ⟨k * d + b * l + p * k * l, by subst e e'; grind⟩
theorem Cg.of_eq {p a b : Int} (h : a = b) : Cg p a b := h ▸ Cg.refl p a
theorem Cg.emod (p a : Int) : Cg p (a % p) a := ⟨-(a / p), by have := Int.emod_add_mul_ediv a p; grind⟩
theorem Cg.mod_eq {p a b : Int} (h : Cg p a b) : a % p = b % p := by
  obtain ⟨k, e⟩ := h; rw [e, Int.add_mul_emod_self_left]
theorem Cg.eq {p a b : Int} (h : Cg p a b) (ha : 0 ≤ a) (ha' : a < p) (hb : 0 ≤ b) (hb' : b < p) : a = b := by
  have := h.mod_eq
  rwa [Int.emod_eq_of_lt ha ha', Int.emod_eq_of_lt hb hb'] at this

/-! ### the value of a polynomial -/
def pval (p x : Int) : List Int → Int
  | [] => 0
  | c :: r => (c + x * pval p x r) % p
theorem pval_nn {p x : Int} (hp : 0 < p) : ∀ l, 0 ≤ pval p x l
  | [] => Int.le_refl 0
  | _ :: _ => Int.emod_nonneg _ (by omega)
theorem pval_lt {p x : Int} (hp : 0 < p) : ∀ l, pval p x l < p
  | [] => hp
  | _ :: _ => Int.emod_lt_of_pos _ hp
theorem pval_cons (p x c : Int) (r : List Int) : Cg p (pval p x (c :: r)) (c + x * pval p x r) := Cg.emod _ _
/-- power by power, as the law reckons -/
def lv (p x : Int) : Int → Int → List Int → Int
  | total, _, [] => total
  | total, power, c :: r => lv p x ((total + c * power) % p) (power * x % p) r
theorem lv_cg {p x : Int} : ∀ (l : List Int) (total power : Int), Cg p (lv p x total power l) (total + power * pval p x l)
  | [], total, power => Cg.of_eq (by show total = total + power * 0; grind)
  | c :: r, total, power => by
    have h1 := lv_cg (p := p) (x := x) r ((total + c * power) % p) (power * x % p)
    refine h1.trans ?_
    have h2 : Cg p ((total + c * power) % p + power * x % p * pval p x r) (total + c * power + power * x * pval p x r) := (Cg.emod p _).add ((Cg.emod p (power * x)).mul (Cg.refl p _))
    refine h2.trans ?_
    have h3 : Cg p (total + power * (c + x * pval p x r)) (total + power * pval p x (c :: r)) := (Cg.refl p _).add ((Cg.refl p _).mul (pval_cons p x c r).symm)
    refine (Cg.of_eq ?_).trans h3
    grind
theorem lv_rng {p x : Int} (hp : 0 < p) : ∀ (l : List Int) (total power : Int), 0 ≤ total → total < p → 0 ≤ lv p x total power l ∧ lv p x total power l < p
  | [], total, power, h1, h2 => ⟨h1, h2⟩
  | c :: r, total, power, h1, h2 => lv_rng hp r _ _ (Int.emod_nonneg _ (by omega)) (Int.emod_lt_of_pos _ hp)
theorem lv_pval {p x : Int} (hp : 0 < p) (l : List Int) : lv p x 0 1 l = pval p x l := by
  obtain ⟨a, b⟩ := lv_rng (x := x) hp l 0 1 (Int.le_refl _) hp
  exact ((lv_cg l 0 1).trans (Cg.of_eq (by grind))).eq a b (pval_nn hp l) (pval_lt hp l)

/-! ### the inverse -/
def primesL : List Int := [5, 7, 11, 13, 17, 19, 23, 29, 31, 37, 41, 43, 47, 53, 59, 61, 67, 71, 73, 79, 83, 89, 97]
def invLoop (p : Int) : Nat → Int → Int → Int → Int
  | 0, prod, _, _ => prod
  | n + 1, prod, sq, left => if 0 < left then invLoop p n (if left % 2 = 1 then prod * sq % p else prod) (sq * sq % p) (left / 2) else prod
def inv (p h : Int) : Int := invLoop p 7 1 (h % p) (p - 2)
def invB : Bool := primesL.all fun p => (List.range p.toNat).all fun h => h == 0 || (inv p h * h) % p == 1
theorem prime_rng {p : Int} (hp : p ∈ primesL) : 5 ≤ p ∧ p ≤ 97 := by
  have : primesL.all (fun p => decide (5 ≤ p ∧ p ≤ 97)) = true := by decide +kernel
  have := List.all_eq_true.mp this p hp
  simpa using this
/-! ### times x - r, and a multiple added -/
def trF (p r : Int) (high low : Int) : Int := (high - r * low) % p
def trMul (p r : Int) (v : List Int) : List Int := List.zipWith (trF p r) (0 :: v) (v ++ [0])
def ad (p f : Int) : List Int → List Int → List Int
  | c :: cs, v :: vs => (c + f * v) % p :: ad p f cs vs
  | cs, [] => cs
  | [], _ :: _ => []
/-! ### point by point -/
def nStep (p : Int) (s : List Int × List Int) (q : Int × Int) : List Int × List Int :=
  (ad p ((q.2 - pval p q.1 s.1) * inv p (pval p q.1 s.2) % p) s.1 s.2, trMul p q.1 s.2)
def nAll (p : Int) (n : Nat) (pts : List (Int × Int)) : List Int × List Int := pts.foldl (nStep p) (List.replicate n 0, [1])
def thr (p : Int) (pts : List (Int × Int)) : List Int := (nAll p pts.length pts).1
def prodX (z : Int) : List (Int × Int) → Int
  | [] => 1
  | q :: r => (z - q.1) * prodX z r
/-- what holds behind some points -/
structure Nw (p : Int) (n : Nat) (done : List (Int × Int)) (s : List Int × List Int) : Prop where
  lc : s.1.length = n
  lv : s.2.length = done.length + 1
  rc : ∀ c ∈ s.1, 0 ≤ c ∧ c < p
  rv : ∀ c ∈ s.2, 0 ≤ c ∧ c < p
  van : ∀ z, Cg p (pval p z s.2) (prodX z done)
  hit : ∀ q ∈ done, pval p q.1 s.1 = q.2
/-- the points of a law -/
structure Pts (p : Int) (pts : List (Int × Int)) : Prop where
  nd : (pts.map (·.1)).Nodup
  rg : ∀ q ∈ pts, 0 ≤ q.1 ∧ q.1 < p ∧ 0 ≤ q.2 ∧ q.2 < p
/-! ### as the law does it: with a wall of n + 1 numbers -/
def byF (p high step : Int) (m : Int) : Bool := decide (m * high % p = step)
end My

end
section
set_option maxHeartbeats 3999000
/-! ### zip of two iterators, read by enumerate: the tuple it hands out is kept by enumerate's own tuple -/
namespace PySem
abbrev IsZ (h : Heap) (z TI TO : Addr) (f0 f1 : Value) : Prop := h.get? z = some { cls := .type "zip", dict := none, data := .fields #[f0, f1, .bool false, .ref TI, .ref TO], slots := #[] }
def ZF (f0 f1 : Value) : Prop := (f0 = .none ∨ ∃ a t, f0 = .int a t) ∧ ∃ b, f1 = .bool b
structure Zap (z TI TO i1 i2 : Addr) (fp1 fp2 : List Addr) : Prop where
  zTI : TI ≠ z
  zTO : TO ≠ z
  z1 : i1 ≠ z
  z2 : i2 ≠ z
  TT : TI ≠ TO
  T1 : TI ≠ i1
  T2 : TI ≠ i2
  O1 : TO ≠ i1
  O2 : TO ≠ i2
  ii : i1 ≠ i2
  a1 : z ∉ fp1
  a2 : TO ∉ fp1
  a3 : i2 ∉ fp1
  b1 : z ∉ fp2
  b2 : TO ∉ fp2
  b3 : i1 ∉ fp2
section
variable {prog : Program} {w : World} {A : Around} {E : Value → Shared → Prop} {s : Shared}
theorem alive_any {a : Addr} {Q : Option Obj → Shared → Prop} (h : Q (s.heap.get? a) s) : wpAny (model prog w) A (loadIfAlive a) Q E s := fun _ _ _ => h
theorem z_free {z TI TO : Addr} {f0 f1 : Value} {Q : Bool → Shared → Prop} (hz : IsZ s.heap z TI TO f0 f1) (hf : ZF f0 f1) (h1 : Q true s)
    (h2 : ∀ h', IsZ h' z TI TO f0 (.bool true) → Heap.SameBut z s.heap h' → Q false { s with heap := h' }) : wpAny (model prog w) A (Builtin.SmallTypes.ownedTupleIsFree (.ref z)) Q E s := by
  obtain ⟨hf, b, rfl⟩ := hf
  unfold Builtin.SmallTypes.ownedTupleIsFree; rcases hf with rfl | ⟨a, t, rfl⟩
  · exact wpAny_bind (wpAny_field hz rfl (x := .none) rfl (wpAny_pure h1))
  · refine wpAny_bind (wpAny_field hz rfl (x := .int a t) rfl ?_)
    refine wpAny_bind (alive_any ?_)
    cases s.heap.get? a.toNat with
    | none => exact wpAny_pure h1
    | some o =>
      refine wpAny_bind (wpAny_field hz rfl (x := .bool b) rfl ?_)
      cases b with
      | true => exact wpAny_pure (h2 s.heap hz ⟨rfl, fun _ _ => rfl⟩)
      | false => exact wpAny_bind (wpAny_setField_rec hz (by simp) fun h' a' b' => wpAny_pure (h2 h' a' b'))
theorem zn_item {z TI TO i1 i2 : Addr} {fp1 fp2 : List Addr} {n1 n2 k1 k2 : Nat} {P1 P2 : Nat → Value → Prop} {S1 S2 : Nat → Heap → Prop} {f0 f1 a b : Value} {Q : Value → Shared → Prop} (D1 : Draws prog w A i1 fp1 n1 P1 S1) (D2 : Draws prog w A i2 fp2 n2 P2 S2) (Z : Zap z TI TO i1 i2 fp1 fp2)
    (hz : IsZ s.heap z TI TO f0 f1) (hf : ZF f0 f1) (hTI : IsPair s.heap TI (.ref i1) (.ref i2)) (hTO : IsPair s.heap TO a b) (st1 : S1 k1 s.heap) (st2 : S2 k2 s.heap) (l1 : k1 < n1) (l2 : k2 < n2)
    (hQ : ∀ x y h' tk g0 g1 a' b', P1 k1 x → P2 k2 y → IsZ h' z TI TO g0 g1 → ZF g0 g1 → IsPair h' TI (.ref i1) (.ref i2) → IsPair h' TO a' b' → S1 (k1 + 1) h' → S2 (k2 + 1) h' → IsPair h' s.heap.objs.size x y → h'.objs.size = s.heap.objs.size + 1 →
      (∀ c o, c ≠ z → c ≠ TO → c ≠ i1 → c ≠ i2 → s.heap.get? c = some o → h'.get? c = some o) → Q (.ref s.heap.objs.size) { s with heap := h', toks := tk }) : wpAny (model prog w) A (Builtin.«zip.__next__» ⟨[.ref z], []⟩) (fun fin s' => ∃ v, fin = .done (.ret v) ∧ Q v s') E s := by
  obtain ⟨hp, g, d, tk0, os⟩ := s
  show wpAny _ _ (field (.ref z) 2 >>= _) _ _ _; refine wpAny_bind (wpAny_field hz rfl (x := .bool false) rfl ?_); show wpAny _ _ (field (.ref z) 3 >>= _) _ _ _
  refine wpAny_bind (wpAny_field hz rfl (x := .ref TI) rfl ?_); refine wpAny_bind (wpAny_seqItems hTI rfl ?_)
  show wpAny _ _ (Builtin.SmallTypes.ownedTupleIsFree (.ref z) >>= _) _ _ _; refine wpAny_bind (z_free hz hf ?_ fun h0 hz0 hs0 => ?_)
  · simp only [if_true]
    refine wpAny_bind (wpAny_rule (wpAny_bind (wpAny_field hz rfl (x := .ref TO) rfl ?_)))
    refine wpAny_bind (wpAny_setField_rec hz (by simp) fun ha hza hsa => ?_)
    replace hza : IsZ ha z TI TO .ellipsis f1 := hza
    replace hsa : Heap.SameBut z hp ha := hsa
    refine wpAny_bind ?_
    simp only [List.zipIdx_cons, List.zipIdx_nil, List.forIn_cons, List.forIn_nil]; refine wpAny_bind (wpAny_bind (wpAny_onRaise ?_)); show wpAny _ _ (Builtin.SmallTypes.nextOf (.ref i1) >>= _) _ _ _
    refine wpAny_bind (D1.item k1 _ _ _ l1 (D1.frame _ _ _ st1 fun c hc o e => hsa.extBut c o (fun q => Z.a1 (q ▸ hc)) e) fun x hb tkb px stb hsb => wpAny_pure ?_)
    replace hsb : Heap.SameBut i1 ha hb := hsb
    have hTOb : IsPair hb TO a b := hsb.extBut _ _ Z.O1 (hsa.extBut _ _ Z.zTO hTO)
    refine wpAny_bind (wpAny_seqItems hTOb rfl (wpAny_bind (wpAny_updateSeq_pair hTOb fun hc hTOc hsc => ?_)))
    replace hTOc : IsPair hc TO x b := hTOc
    replace hsc : Heap.SameBut TO hb hc := hsc
    refine wpAny_bind (wpAny_letGo (wpAny_pure (wpAny_bind (wpAny_bind (wpAny_onRaise ?_))))); show wpAny _ _ (Builtin.SmallTypes.nextOf (.ref i2) >>= _) _ _ _
    refine wpAny_bind (D2.item k2 _ _ _ l2 (D2.frame _ _ _ st2 fun c hcf o e => hsc.extBut c o (fun q => Z.b2 (q ▸ hcf)) (hsb.extBut c o (fun q => Z.b3 (q ▸ hcf)) (hsa.extBut c o (fun q => Z.b1 (q ▸ hcf)) e))) fun y hd tkd py std hsd => wpAny_pure ?_)
    replace hsd : Heap.SameBut i2 hc hd := hsd
    have hTOd : IsPair hd TO x b := hsd.extBut _ _ Z.O2 hTOc
    refine wpAny_bind (wpAny_seqItems hTOd rfl (wpAny_bind (wpAny_updateSeq_pair hTOd fun he hTOe hse => ?_)))
    replace hTOe : IsPair he TO x y := hTOe
    replace hse : Heap.SameBut TO hd he := hse
    refine wpAny_bind (wpAny_letGo (wpAny_pure (wpAny_pure ?_))); refine wpAny_bind (wpAny_seqItems hTOe rfl (wpAny_bind (wpAny_newTuple ?_)))
    have hsz : he.objs.size = hp.objs.size := by rw [hse.1, hsd.1, hsc.1, hsb.1, hsa.1]
    have hze : IsZ he z TI TO .ellipsis f1 := hse.extBut _ _ Z.zTO.symm (hsd.extBut _ _ Z.z2.symm (hsc.extBut _ _ Z.zTO.symm (hsb.extBut _ _ Z.z1.symm hza)))
    have kk : ∀ c o, c ≠ z → c ≠ TO → c ≠ i1 → c ≠ i2 → hp.get? c = some o → he.get? c = some o := fun c o c1 c2 c3 c4 e => hse.extBut _ _ c2 (hsd.extBut _ _ c4 (hsc.extBut _ _ c2 (hsb.extBut _ _ c3 (hsa.extBut _ _ c1 e))))
    have st1e : S1 (k1 + 1) he := D1.frame _ _ _ stb fun c hcf o e => hse.extBut c o (fun q => Z.a2 (q ▸ hcf)) (hsd.extBut c o (fun q => Z.a3 (q ▸ hcf)) (hsc.extBut c o (fun q => Z.a2 (q ▸ hcf)) e))
    have st2e : S2 (k2 + 1) he := D2.frame _ _ _ std fun c hcf o e => hse.extBut c o (fun q => Z.b2 (q ▸ hcf)) e
    have zlt : z < he.objs.size := Heap.lt_size hze
    show wpAny _ _ (Builtin.SmallTypes.ownedTupleHandOut (.ref z) (.ref he.objs.size) >>= _) _ _ _
    refine wpAny_bind ?_
    unfold Builtin.SmallTypes.ownedTupleHandOut; have hzf : IsZ (he.push { cls := .type "tuple", data := .seq #[x, y] }) z TI TO .ellipsis f1 := Heap.get?_push_of_some _ hze
    refine wpAny_bind (wpAny_setField_rec hzf (by simp) fun h7 hz7 hs7 => ?_)
    replace hz7 : IsZ h7 z TI TO (rawInt he.objs.size) f1 := hz7
    refine wpAny_setField_rec hz7 (by simp) fun h8 hz8 hs8 => wpAny_pure ⟨_, rfl, ?_⟩
    replace hz8 : IsZ h8 z TI TO (rawInt he.objs.size) (.bool false) := hz8
    have up : ∀ c o, c ≠ z → he.get? c = some o → h8.get? c = some o := fun c o c1 e => hs8.extBut _ _ c1 (hs7.extBut _ _ c1 (Heap.get?_push_of_some _ e))
    have hT8 : IsPair h8 he.objs.size x y := hs8.extBut _ _ (Nat.ne_of_gt zlt) (hs7.extBut _ _ (Nat.ne_of_gt zlt) (Heap.get?_push_size _ rfl))
    have hs8' : h8.objs.size = he.objs.size + 1 := by rw [hs8.1, hs7.1, Heap.size_push]
    show Q (.ref he.objs.size) _
    rw [hsz] at hz8 hT8 hs8' ⊢
    exact hQ x y h8 tkd _ _ _ _ px py hz8 ⟨.inr ⟨_, _, rfl⟩, _, rfl⟩ (up _ _ Z.zTI (kk _ _ Z.zTI Z.TT Z.T1 Z.T2 hTI)) (up _ _ Z.zTO hTOe) (D1.frame _ _ _ st1e fun c hcf o e => up c o (fun q => Z.a1 (q ▸ hcf)) e) (D2.frame _ _ _ st2e fun c hcf o e => up c o (fun q => Z.b1 (q ▸ hcf)) e) hT8 hs8' fun c o c1 c2 c3 c4 e => up c o c1 (kk c o c1 c2 c3 c4 e)
  · simp only [Bool.false_eq_true, if_false]; replace hs0 : Heap.SameBut z hp h0 := hs0
    rw [show (#[Value.ref i1, Value.ref i2] : Array Value) = [Value.ref i1, Value.ref i2].toArray from rfl]
    simp only [List.forIn_toArray, List.forIn_cons, List.forIn_nil]
    refine wpAny_bind (wpAny_bind (wpAny_bind (wpAny_holding ?_))); show wpAny _ _ (Builtin.SmallTypes.nextOf (.ref i1) >>= _) _ _ _
    refine wpAny_bind (D1.item k1 _ _ _ l1 (D1.frame _ _ _ st1 fun c hc o e => hs0.extBut c o (fun q => Z.a1 (q ▸ hc)) e) fun x hb tkb px stb hsb => wpAny_pure (wpAny_pure ?_))
    replace hsb : Heap.SameBut i1 h0 hb := hsb
    refine wpAny_bind (wpAny_bind (wpAny_holding ?_)); show wpAny _ _ (Builtin.SmallTypes.nextOf (.ref i2) >>= _) _ _ _
    refine wpAny_bind (D2.item k2 _ _ _ l2 (D2.frame _ _ _ st2 fun c hcf o e => hsb.extBut c o (fun q => Z.b3 (q ▸ hcf)) (hs0.extBut c o (fun q => Z.b1 (q ▸ hcf)) e)) fun y hd tkd py std hsd => wpAny_pure (wpAny_pure (wpAny_pure ?_)))
    replace hsd : Heap.SameBut i2 hb hd := hsd
    show wpAny _ _ (newTuple [x, y] >>= _) _ _ _
    refine wpAny_bind (wpAny_newTuple (wpAny_pure ⟨_, rfl, ?_⟩))
    have hsz : hd.objs.size = hp.objs.size := by rw [hsd.1, hsb.1, hs0.1]
    have kk : ∀ c o, c ≠ z → c ≠ TO → c ≠ i1 → c ≠ i2 → hp.get? c = some o → hd.get? c = some o := fun c o c1 c2 c3 c4 e => hsd.extBut _ _ c4 (hsb.extBut _ _ c3 (hs0.extBut _ _ c1 e))
    have hzd : IsZ hd z TI TO f0 (.bool true) := hsd.extBut _ _ Z.z2.symm (hsb.extBut _ _ Z.z1.symm hz0)
    have hTOd : IsPair hd TO a b := hsd.extBut _ _ Z.O2 (hsb.extBut _ _ Z.O1 (hs0.extBut _ _ Z.zTO hTO))
    have st1d : S1 (k1 + 1) hd := D1.frame _ _ _ stb fun c hcf o e => hsd.extBut c o (fun q => Z.a3 (q ▸ hcf)) e
    have up : ∀ c o, hd.get? c = some o → (hd.push { cls := .type "tuple", data := .seq #[x, y] }).get? c = some o := fun c o e => Heap.get?_push_of_some _ e
    have hT8 : IsPair (hd.push { cls := .type "tuple", data := .seq #[x, y] }) hd.objs.size x y := Heap.get?_push_size _ rfl
    have hs8' : (hd.push { cls := .type "tuple", data := .seq #[x, y] }).objs.size = hd.objs.size + 1 := Heap.size_push ..
    show Q (.ref hd.objs.size) _
    rw [hsz] at hT8 hs8' ⊢
    exact hQ x y _ tkd _ _ _ _ px py (up _ _ hzd) ⟨hf.1, _, rfl⟩ (up _ _ (kk _ _ Z.zTI Z.TT Z.T1 Z.T2 hTI)) (up _ _ hTOd) (D1.frame _ _ _ st1d fun c _ o e => up c o e) (D2.frame _ _ _ std fun c _ o e => up c o e) hT8 hs8' fun c o c1 c2 c3 c4 e => up c o (kk c o c1 c2 c3 c4 e)
theorem zn_end {z TI TO i1 i2 : Addr} {fp1 fp2 : List Addr} {n1 n2 k1 k2 : Nat} {P1 P2 : Nat → Value → Prop} {S1 S2 : Nat → Heap → Prop} {f0 f1 a b : Value} {Q : Fin → Shared → Prop} (D1 : Draws prog w A i1 fp1 n1 P1 S1) (D2 : Draws prog w A i2 fp2 n2 P2 S2) (Z : Zap z TI TO i1 i2 fp1 fp2)
    (hz : IsZ s.heap z TI TO f0 f1) (hf : ZF f0 f1) (hTI : IsPair s.heap TI (.ref i1) (.ref i2)) (hTO : IsPair s.heap TO a b) (st1 : S1 k1 s.heap) (st2 : S2 k2 s.heap) (l1 : k1 = n1 ∨ (k1 < n1 ∧ k2 = n2))
    (hE : ∀ h' tk e, (∀ c o, c ≠ z → c ≠ TO → c ≠ i1 → c ≠ i2 → s.heap.get? c = some o → h'.get? c = some o) → (∃ o, h'.get? e = some o ∧ o.cls = .type "StopIteration") → E (.ref e) { s with heap := h', toks := tk }) : wpAny (model prog w) A (Builtin.«zip.__next__» ⟨[.ref z], []⟩) Q E s := by
  obtain ⟨hp, g, d, tk0, os⟩ := s
  have nz : ∀ {h : Heap} {e : Addr} {o : Obj} {x y : Value}, IsZ h z TI TO x y → h.get? e = some o → o.cls = .type "StopIteration" → e ≠ z := fun h1 h2 h3 q => by subst q; rw [h1] at h2; cases h2; simp at h3
  show wpAny _ _ (field (.ref z) 2 >>= _) _ _ _; refine wpAny_bind (wpAny_field hz rfl (x := .bool false) rfl ?_); show wpAny _ _ (field (.ref z) 3 >>= _) _ _ _
  refine wpAny_bind (wpAny_field hz rfl (x := .ref TI) rfl ?_); refine wpAny_bind (wpAny_seqItems hTI rfl ?_)
  show wpAny _ _ (Builtin.SmallTypes.ownedTupleIsFree (.ref z) >>= _) _ _ _; refine wpAny_bind (z_free hz hf ?_ fun h0 hz0 hs0 => ?_)
  · simp only [if_true]
    refine wpAny_bind (wpAny_rule (wpAny_bind (wpAny_field hz rfl (x := .ref TO) rfl ?_)))
    refine wpAny_bind (wpAny_setField_rec hz (by simp) fun ha hza hsa => ?_)
    replace hza : IsZ ha z TI TO .ellipsis f1 := hza
    replace hsa : Heap.SameBut z hp ha := hsa
    refine wpAny_bind ?_
    simp only [List.zipIdx_cons, List.zipIdx_nil, List.forIn_cons, List.forIn_nil]; refine wpAny_bind (wpAny_bind (wpAny_onRaise ?_)); show wpAny _ _ (Builtin.SmallTypes.nextOf (.ref i1) >>= _) _ _ _
    have st1a : S1 k1 ha := D1.frame _ _ _ st1 fun c hc o e => hsa.extBut c o (fun q => Z.a1 (q ▸ hc)) e
    rcases l1 with rfl | ⟨l1, rfl⟩
    · refine wpAny_bind (D1.done _ _ _ st1a fun hb e hsb ⟨oe, hoe, hce⟩ => ?_)
      have hzb : IsZ hb z TI TO .ellipsis f1 := hsb _ _ Z.z1.symm hza
      exact wpAny_setField_rec hzb (by simp) fun h3 _ hs3 => hE h3 tk0 e (fun c o c1 _ c3 _ x => hs3.extBut _ _ c1 (hsb _ _ c3 (hsa.extBut _ _ c1 x))) ⟨oe, hs3.extBut _ _ (nz hzb hoe hce) hoe, hce⟩
    · refine wpAny_bind (D1.item k1 _ _ _ l1 st1a fun x hb tkb px stb hsb => wpAny_pure ?_)
      replace hsb : Heap.SameBut i1 ha hb := hsb
      have hTOb : IsPair hb TO a b := hsb.extBut _ _ Z.O1 (hsa.extBut _ _ Z.zTO hTO)
      refine wpAny_bind (wpAny_seqItems hTOb rfl (wpAny_bind (wpAny_updateSeq_pair hTOb fun hc hTOc hsc => ?_)))
      replace hsc : Heap.SameBut TO hb hc := hsc
      refine wpAny_bind (wpAny_letGo (wpAny_pure (wpAny_bind (wpAny_bind (wpAny_onRaise ?_))))); show wpAny _ _ (Builtin.SmallTypes.nextOf (.ref i2) >>= _) _ _ _
      refine wpAny_bind (D2.done _ _ _ (D2.frame _ _ _ st2 fun c hcf o e => hsc.extBut c o (fun q => Z.b2 (q ▸ hcf)) (hsb.extBut c o (fun q => Z.b3 (q ▸ hcf)) (hsa.extBut c o (fun q => Z.b1 (q ▸ hcf)) e))) fun hd e hsd ⟨oe, hoe, hce⟩ => ?_)
      have hzd : IsZ hd z TI TO .ellipsis f1 := hsd _ _ Z.z2.symm (hsc.extBut _ _ Z.zTO.symm (hsb.extBut _ _ Z.z1.symm hza))
      exact wpAny_setField_rec hzd (by simp) fun h3 _ hs3 => hE h3 tkb e (fun c o c1 c2 c3 c4 x => hs3.extBut _ _ c1 (hsd _ _ c4 (hsc.extBut _ _ c2 (hsb.extBut _ _ c3 (hsa.extBut _ _ c1 x))))) ⟨oe, hs3.extBut _ _ (nz hzd hoe hce) hoe, hce⟩
  · simp only [Bool.false_eq_true, if_false]; replace hs0 : Heap.SameBut z hp h0 := hs0
    rw [show (#[Value.ref i1, Value.ref i2] : Array Value) = [Value.ref i1, Value.ref i2].toArray from rfl]
    simp only [List.forIn_toArray, List.forIn_cons, List.forIn_nil]
    refine wpAny_bind (wpAny_bind (wpAny_bind (wpAny_holding ?_))); show wpAny _ _ (Builtin.SmallTypes.nextOf (.ref i1) >>= _) _ _ _
    have st1a : S1 k1 h0 := D1.frame _ _ _ st1 fun c hc o e => hs0.extBut c o (fun q => Z.a1 (q ▸ hc)) e
    rcases l1 with rfl | ⟨l1, rfl⟩
    · exact wpAny_bind (D1.done _ _ _ st1a fun hb e hsb he => hE hb tk0 e (fun c o c1 _ c3 _ x => hsb _ _ c3 (hs0.extBut _ _ c1 x)) he)
    · refine wpAny_bind (D1.item k1 _ _ _ l1 st1a fun x hb tkb px stb hsb => wpAny_pure (wpAny_pure ?_))
      replace hsb : Heap.SameBut i1 h0 hb := hsb
      refine wpAny_bind (wpAny_bind (wpAny_holding ?_)); show wpAny _ _ (Builtin.SmallTypes.nextOf (.ref i2) >>= _) _ _ _
      exact wpAny_bind (D2.done _ _ _ (D2.frame _ _ _ st2 fun c hcf o e => hsb.extBut c o (fun q => Z.b3 (q ▸ hcf)) (hs0.extBut c o (fun q => Z.b1 (q ▸ hcf)) e)) fun hd e hsd he => hE hd tkb e (fun c o c1 _ c3 c4 x => hsd _ _ c4 (hsb.extBut _ _ c3 (hs0.extBut _ _ c1 x))) he)
end
end PySem
namespace PySem
def lstIt (l : Addr) : Obj := { cls := .type "list_iterator", data := .fields #[.ref l, .int 0 0] }
def prOf (x y : Value) : Obj := { cls := .type "tuple", data := .seq #[x, y] }
def zpOf (a b : Addr) : Obj := { cls := .type "zip", data := .fields #[.none, .bool false, .bool false, .ref a, .ref b] }
abbrev zt2 (h : Heap) (l1 l2 : Addr) : Heap := (h.push (tupIt l1)).push (lstIt l2)
abbrev zt4 (h : Heap) (l1 l2 : Addr) : Heap := ((zt2 h l1 l2).push (prOf (.ref h.objs.size) (.ref (h.push (tupIt l1)).objs.size))).push (prOf .none .none)
abbrev zt5 (h : Heap) (l1 l2 : Addr) : Heap := (zt4 h l1 l2).push (zpOf (zt2 h l1 l2).objs.size ((zt2 h l1 l2).push (prOf (.ref h.objs.size) (.ref (h.push (tupIt l1)).objs.size))).objs.size)
theorem meets_zipTL (l1 l2 : Addr) (xs ys : Array Value) : Meets (Builtin.«zip.__new__» ⟨[.type "zip", .ref l1, .ref l2], []⟩) (fun _ R s => s.heap.IsTuple l1 xs ∧ s.heap.IsList l2 ys ∧ R (.ok (.ret (.ref (zt4 s.heap l1 l2).objs.size))) { s with heap := zt5 s.heap l1 l2 }) :=
  .of_wp fun prog w A R s h => by
    obtain ⟨hp, g, d, tk, os⟩ := s; obtain ⟨hl1, hl2, h⟩ := h; have hsub := sub_zip
    have hL1 : Heap.IsTuple (Shared.heap ⟨hp, g, d, tk, os⟩) l1 xs := hl1
    have hL2 : Heap.IsList (Shared.heap ⟨hp.push { cls := .type "tuple_iterator", data := .fields #[.ref l1, .int 0 0] }, g, d, tk, os⟩) l2 ys := Heap.IsList.push hl2 _
    wp_walk using wpAny_pyIter_tuple hL1, wpAny_pyIter_list hL2
    exact ⟨_, rfl, h⟩
section
variable {prog : Program} {w : World} {A : Around} {E : Value → Shared → Prop} {s : Shared}
theorem call_zipTL {l1 l2 : Addr} {xs ys : Array Value} {Q : Value → Shared → Prop} (hl1 : s.heap.IsTuple l1 xs) (hl2 : s.heap.IsList l2 ys)
    (h : ∀ h' n, n = s.heap.objs.size → IsZ h' (n + 4) (n + 2) (n + 3) .none (.bool false) → IsPair h' (n + 2) (.ref n) (.ref (n + 1)) → IsPair h' (n + 3) .none .none → h'.IsTupleIter n l1 0 → h'.IsListIter (n + 1) l2 0 → h'.objs.size = n + 5 →
      (∀ c o, s.heap.get? c = some o → h'.get? c = some o) → Q (.ref (n + 4)) { s with heap := h' }) : wpAny (model prog w) A (call (.type "zip") [.ref l1, .ref l2]) Q E s := by
  refine callType_new F.called_zip (by decide) (F.typeCall_zip_2 _ _) (F.newCall_zip_2 _ _) (fun obj => F.args_object_init_3 obj _ _) F.entry_zip_new (meets_zipTL l1 l2 xs ys) ⟨hl1, hl2, ?_⟩
  have z1 : (s.heap.push (tupIt l1)).objs.size = s.heap.objs.size + 1 := Heap.size_push ..
  have z2 : (zt2 s.heap l1 l2).objs.size = s.heap.objs.size + 2 := by rw [Heap.size_push, z1]
  have z3 : ((zt2 s.heap l1 l2).push (prOf (.ref s.heap.objs.size) (.ref (s.heap.push (tupIt l1)).objs.size))).objs.size = s.heap.objs.size + 3 := by rw [Heap.size_push, z2]
  have z4 : (zt4 s.heap l1 l2).objs.size = s.heap.objs.size + 4 := by rw [Heap.size_push, z3]
  have g5 := Heap.get?_push_size (zt4 s.heap l1 l2) (o := zpOf (zt2 s.heap l1 l2).objs.size ((zt2 s.heap l1 l2).push (prOf (.ref s.heap.objs.size) (.ref (s.heap.push (tupIt l1)).objs.size))).objs.size) rfl
  have g4 : (zt5 s.heap l1 l2).get? _ = some _ := Heap.get?_push_of_some _ (Heap.get?_push_size ((zt2 s.heap l1 l2).push (prOf (.ref s.heap.objs.size) (.ref (s.heap.push (tupIt l1)).objs.size))) (o := prOf .none .none) rfl)
  have g3 : (zt5 s.heap l1 l2).get? _ = some _ := Heap.get?_push_of_some _ (Heap.get?_push_of_some _ (Heap.get?_push_size (zt2 s.heap l1 l2) (o := prOf (.ref s.heap.objs.size) (.ref (s.heap.push (tupIt l1)).objs.size)) rfl))
  have g2 : (zt5 s.heap l1 l2).get? _ = some _ := Heap.get?_push_of_some _ (Heap.get?_push_of_some _ (Heap.get?_push_of_some _ (Heap.get?_push_size (s.heap.push (tupIt l1)) (o := lstIt l2) rfl)))
  have g1 : (zt5 s.heap l1 l2).get? s.heap.objs.size = some (tupIt l1) := Heap.get?_push_of_some _ (Heap.get?_push_of_some _ (Heap.get?_push_of_some _ (Heap.get?_push_of_some _ (Heap.get?_push_size _ rfl))))
  have z5 : (zt5 s.heap l1 l2).objs.size = s.heap.objs.size + 5 := by rw [Heap.size_push, z4]
  have k5 : ∀ c o, s.heap.get? c = some o → (zt5 s.heap l1 l2).get? c = some o := fun c o x => Heap.get?_push_of_some _ (Heap.get?_push_of_some _ (Heap.get?_push_of_some _ (Heap.get?_push_of_some _ (Heap.get?_push_of_some _ x))))
  show _ ∧ _
  rw [z4] at g5 ⊢
  rw [z3] at g4
  rw [z2] at g3
  rw [z1] at g2
  refine ⟨⟨_, g5, rfl⟩, h _ _ rfl ?_ ?_ g4 ⟨_, g1, rfl, rfl⟩ ⟨_, g2, rfl, rfl⟩ z5 k5⟩
  · have : IsZ (zt5 s.heap l1 l2) (s.heap.objs.size + 4) (zt2 s.heap l1 l2).objs.size ((zt2 s.heap l1 l2).push (prOf (.ref s.heap.objs.size) (.ref (s.heap.push (tupIt l1)).objs.size))).objs.size .none (.bool false) := g5
    rw [z2, z3] at this
    exact this
  · have : IsPair (zt5 s.heap l1 l2) (s.heap.objs.size + 2) (.ref s.heap.objs.size) (.ref (s.heap.push (tupIt l1)).objs.size) := g3
    rw [z1] at this
    exact this
end
end PySem

end
section
set_option maxHeartbeats 3999000
namespace L2
open PySem PySem.Spec PyProof.Rows
/-! ### enumerate(zip(a tuple, a list)) with targets i, (u, v) -/
def ItEZ (Sq1 Sq2 : Hp → Addr → List V → Prop) (a b : Addr) : It :=
  ⟨fun i H => ∃ xs ys x y, Sq1 H a xs ∧ Sq2 H b ys ∧ xs[i]? = some x ∧ ys[i]? = some y,
   fun i H x H' => ∃ T1 T2 u v, H T1 = none ∧ H T2 = none ∧ T1 ≠ T2 ∧ x = .ref T2 ∧ H' = upd (upd H T1 (.tup [u, v])) T2 (.tup [.int i, .ref T1]) ∧ (∀ xs, Sq1 H a xs → xs[i]? = some u) ∧ ∀ ys, Sq2 H b ys → ys[i]? = some v,
   fun i H => ∃ xs ys, Sq1 H a xs ∧ Sq2 H b ys ∧ xs.length = i⟩
abbrev ezFp (n : Nat) : List Addr := [n + 5, n + 4, n + 2, n + 3, n, n + 1]
abbrev ezSt (n a b : Nat) (i : Nat) (h : Heap) : Prop := (∃ old, IsEnum h (n + 5) (n + 4) i old) ∧ (∃ f0 f1, IsZ h (n + 4) (n + 2) (n + 3) f0 f1 ∧ ZF f0 f1) ∧ IsPair h (n + 2) (.ref n) (.ref (n + 1)) ∧ (∃ u v, IsPair h (n + 3) u v) ∧ h.IsTupleIter n a i ∧ h.IsListIter (n + 1) b i
theorem nq {x y : Nat} (h : x ≠ y) : @Ne Addr x y := h
theorem nl {x y : Nat} (h : x < y) : @LT.lt Nat _ x y := h
theorem nm2 {c x y : Nat} (h1 : c ≠ x) (h2 : c ≠ y) : ¬ @Membership.mem Addr (List Addr) _ [x, y] c := fun h => by
  rcases List.mem_cons.mp h with e | e
  · exact h1 e
  · exact h2 (List.mem_singleton.mp e)
theorem zap_new {n a b : Nat} (ha : a < n) (hb : b < n) : Zap (n + 4) (n + 2) (n + 3) n (n + 1) [n, a] [n + 1, b] :=
  ⟨nq (by omega), nq (by omega), nq (by omega), nq (by omega), nq (by omega), nq (by omega), nq (by omega), nq (by omega), nq (by omega), nq (by omega), nm2 (by omega) (by omega), nm2 (by omega) (by omega), nm2 (by omega) (by omega), nm2 (by omega) (by omega), nm2 (by omega) (by omega), nm2 (by omega) (by omega)⟩
def iEZ (Sq1 Sq2 : Hp → Addr → List V → Prop) (ta : TA) : TI := fun σ H R => ta σ H fun vs H1 => ∃ a b xs ys, vs = [.ref a, .ref b] ∧ Sq1 H1 a xs ∧ Sq2 H1 b ys ∧ R (ItEZ Sq1 Sq2 a b) H1
end L2

end
section
set_option maxHeartbeats 3998000
/-! ### zip(a tuple, a list) by itself -/
namespace PySem
section
variable {prog : Program} {w : World} {A : Around} {E : Value → Shared → Prop} {s : Shared}
theorem zs_item {z TI TO i1 i2 : Addr} {fp1 fp2 : List Addr} {n1 n2 k1 k2 : Nat} {P1 P2 : Nat → Value → Prop} {S1 S2 : Nat → Heap → Prop} {f0 f1 a b : Value} {Q : Option Value → Shared → Prop} (D1 : Draws prog w A.in1 i1 fp1 n1 P1 S1) (D2 : Draws prog w A.in1 i2 fp2 n2 P2 S2) (Z : Zap z TI TO i1 i2 fp1 fp2)
    (hz : IsZ s.heap z TI TO f0 f1) (hf : ZF f0 f1) (hTI : IsPair s.heap TI (.ref i1) (.ref i2)) (hTO : IsPair s.heap TO a b) (st1 : S1 k1 s.heap) (st2 : S2 k2 s.heap) (l1 : k1 < n1) (l2 : k2 < n2)
    (hQ : ∀ x y h' tk g0 g1 a' b', P1 k1 x → P2 k2 y → IsZ h' z TI TO g0 g1 → ZF g0 g1 → IsPair h' TI (.ref i1) (.ref i2) → IsPair h' TO a' b' → S1 (k1 + 1) h' → S2 (k2 + 1) h' → IsPair h' s.heap.objs.size x y → h'.objs.size = s.heap.objs.size + 1 →
      (∀ c o, c ≠ z → c ≠ TO → c ≠ i1 → c ≠ i2 → s.heap.get? c = some o → h'.get? c = some o) → Q (some (.ref s.heap.objs.size)) { s with heap := h', toks := tk }) : wpAny (model prog w) A (pyNext (.ref z)) Q E s := by
  have hTz : s.TypeIs (.ref z) "zip" := ⟨_, hz, rfl⟩
  unfold pyNext
  refine wpAny_bind (wpAny_attempt (wpAny_callSpecial?_slot (name := Str.ofString "__next__") hTz F.slot_zip_next (wpAny_call_entry F.slot_zip_next hTz F.entry_zip_next ?_ (F.args_zip_next_1 _))))
  exact zn_item D1 D2 Z hz hf hTI hTO st1 st2 l1 l2 fun x y h1 tk g0 g1 a' b' px py hz1 hf1 hTI1 hTO1 st1' st2' hp1 hsz1 kk => wpAny_pure (hQ x y h1 tk g0 g1 a' b' px py hz1 hf1 hTI1 hTO1 st1' st2' hp1 hsz1 kk)
theorem zs_end {z TI TO i1 i2 : Addr} {fp1 fp2 : List Addr} {n1 n2 k1 k2 : Nat} {P1 P2 : Nat → Value → Prop} {S1 S2 : Nat → Heap → Prop} {f0 f1 a b : Value} {Q : Option Value → Shared → Prop} (D1 : Draws prog w A.in1 i1 fp1 n1 P1 S1) (D2 : Draws prog w A.in1 i2 fp2 n2 P2 S2) (Z : Zap z TI TO i1 i2 fp1 fp2)
    (hz : IsZ s.heap z TI TO f0 f1) (hf : ZF f0 f1) (hTI : IsPair s.heap TI (.ref i1) (.ref i2)) (hTO : IsPair s.heap TO a b) (st1 : S1 k1 s.heap) (st2 : S2 k2 s.heap) (l1 : k1 = n1 ∨ (k1 < n1 ∧ k2 = n2))
    (hQ : ∀ h' tk, (∀ c o, c ≠ z → c ≠ TO → c ≠ i1 → c ≠ i2 → s.heap.get? c = some o → h'.get? c = some o) → Q none { s with heap := h', toks := tk }) : wpAny (model prog w) A (pyNext (.ref z)) Q E s := by
  have hTz : s.TypeIs (.ref z) "zip" := ⟨_, hz, rfl⟩
  unfold pyNext
  refine wpAny_bind (wpAny_attempt (wpAny_callSpecial?_slot (name := Str.ofString "__next__") hTz F.slot_zip_next (wpAny_call_entry F.slot_zip_next hTz F.entry_zip_next ?_ (F.args_zip_next_1 _))))
  refine zn_end D1 D2 Z hz hf hTI hTO st1 st2 l1 fun h' tk x kk ⟨o, ho, hc⟩ => ?_
  exact wpAny_bind (wpAny_isInstance (T := "StopIteration") (b := true) ⟨o, ho, hc⟩ isSubtype_stop (wpAny_pure (hQ h' tk kk)))
theorem zs_iter {z TI TO : Addr} {f0 f1 : Value} {Q : Value → Shared → Prop} (hz : IsZ s.heap z TI TO f0 f1) (h : Q (.ref z) s) : wpAny (model prog w) A (pyIter (.ref z)) Q E s := by
  have hT : s.TypeIs (.ref z) "zip" := ⟨_, hz, rfl⟩; refine wpAny_pyIter_slot hT F.slot_zip_iter (wpAny_call_entry F.slot_zip_iter hT F.entry_zip_iter ?_ (F.args_zip_iter_1 _))
  show wpAny _ _ (ret (.ref z)) _ _ s; exact wpAny_pure ⟨_, rfl, "zip", _, hT, F.slot_zip_next.lookup, h⟩
theorem zs_go {elts : List Expr} {x1} {pos : Pos} {z TI TO T : Addr} {f0 f1 : Value} {Q : Unit → Shared → Prop} (hz : IsZ s.heap z TI TO f0 f1) (hf : ZF f0 f1)
    (hQ : ∀ h' g0, IsZ h' z TI TO g0 f1 → ZF g0 f1 → Heap.SameBut z s.heap h' → Q () { s with heap := h' }) : wpAny (model prog w) A (letOwnedTupleGo (.Tuple elts x1 pos) (.ref z) (.ref T)) Q E s := by
  unfold letOwnedTupleGo; refine wpAny_bind (wpAny_load hz ?_)
  show wpAny _ _ (if _ then _ else _) Q E s
  split
  · refine wpAny_bind (wpAny_rule ?_); show wpAny _ _ (setField (.ref z) 0 .none) Q E s
    exact wpAny_setField_rec hz (by simp) fun h' hz' hs' => hQ h' .none hz' ⟨.inl rfl, hf.2⟩ hs'
  · exact wpAny_pure (hQ s.heap f0 hz hf ⟨rfl, fun _ _ => rfl⟩)
end
end PySem
namespace L2
open PySem PySem.Spec PyProof.Rows
def ItZq (Sq1 Sq2 : Hp → Addr → List V → Prop) (a b : Addr) : It :=
  ⟨(ItZp Sq1 Sq2 a b).go, (ItZp Sq1 Sq2 a b).yld, fun i H => ∃ xs ys, Sq1 H a xs ∧ Sq2 H b ys ∧ (xs.length = i ∨ (i < xs.length ∧ ys.length = i))⟩
abbrev ztFp (n : Nat) : List Addr := [n + 4, n + 2, n + 3, n, n + 1]
abbrev ztSt (n a b : Nat) (i : Nat) (h : Heap) : Prop := (∃ f0 f1, IsZ h (n + 4) (n + 2) (n + 3) f0 f1 ∧ ZF f0 f1) ∧ IsPair h (n + 2) (.ref n) (.ref (n + 1)) ∧ (∃ u v, IsPair h (n + 3) u v) ∧ h.IsTupleIter n a i ∧ h.IsListIter (n + 1) b i
theorem turn_zTL {P : Program} {w : World} {K : PySem.W.Frag} {es : List Expr} {k : Nat} {pos : Pos} (a b n : Nat) (ha : a < n) (hb : b < n) : Turn P w K (.Tuple es k pos) (ItZq (SqT K) (SqL K) a b) (ztFp n) (n + 4) (ztSt n a b) where
  mem := by simp
  obj := fun i h st c hc => by
    obtain ⟨⟨f0, f1, h1, _⟩, h2, ⟨u, v, h3⟩, ⟨o4, e4, _, d4⟩, ⟨o5, e5, _, d5⟩⟩ := st
    simp only [ztFp, List.mem_cons, List.not_mem_nil, or_false] at hc
    rcases hc with z | z | z | z | z <;> subst z
    · exact ⟨_, h1, fun v z => by cases z⟩
    · exact ⟨_, h2, fun v z => by cases z⟩
    · exact ⟨_, h3, fun v z => by cases z⟩
    · exact ⟨_, e4, fun v z => by rw [d4] at z; cases z⟩
    · exact ⟨_, e5, fun v z => by rw [d5] at z; cases z⟩
  keep := fun i h h' st kk => by
    obtain ⟨⟨f0, f1, h1, hf⟩, h2, ⟨u, v, h3⟩, h4, h5⟩ := st
    exact ⟨⟨f0, f1, kk _ (by simp) _ h1, hf⟩, kk _ (by simp) _ h2, ⟨u, v, kk _ (by simp) _ h3⟩, h4.at fun o eo => kk _ (by simp) o eo, h5.at fun o eo => kk _ (by simp) o eo⟩
  item := by
    intro X hP hw hK hc i pins s σ H E I hf st hg
    subst hP hw hK
    obtain ⟨xs, ys, x, y, hq1, hq2, hx, hy⟩ := hg
    obtain ⟨⟨f0, f1, h1, hzf⟩, h2, ⟨u0, v0, h3⟩, h4, h5⟩ := st
    obtain ⟨its1, rv1, p1, hz1⟩ := I.tuple hq1
    obtain ⟨its2, rv2, p2, hz2⟩ := I.list hq2
    obtain ⟨u, hu, ru⟩ := rv1.get hx
    obtain ⟨v, hv, rv⟩ := rv2.get hy
    have hes : n + 4 < s.heap.objs.size := Heap.lt_size h1
    have hh : X.A.in1.handled = none := by simp [I.ok.hd hc]
    have hlt1 : i < its1.toArray.size := by have := (List.getElem?_eq_some_iff.mp hu).1; simpa using this
    have hlt2 : i < its2.toArray.size := by have := (List.getElem?_eq_some_iff.mp hv).1; simpa using this
    refine zs_item (Draws.tuple hh n a (nq (by omega)) its1.toArray) (Draws.list hh (n + 1) b (nq (by omega)) its2.toArray) (zap_new ha hb) h1 hzf h2 h3 ⟨h4, (show s.heap.IsTuple a its1.toArray from p1)⟩ ⟨h5, p2.isList⟩ hlt1 hlt2
      fun x' y' h' tk g0 g1 a' b' px py ez ezf e2 e3 t4 t5 pp hsz kk => ?_
    have eu : x' = u := by
      have e1 : its1[i]? = some x' := by simpa using px
      rw [hu] at e1; exact (Option.some.inj e1).symm
    have ev : y' = v := by
      have e1 : its2[i]? = some y' := by simpa using py
      rw [hv] at e1; exact (Option.some.inj e1).symm
    subst eu ev
    have ch : ∀ c ∈ [n + 4, n + 3, n, n + 1], c ∈ ztFp n := fun c hc' => by
      simp only [ztFp, List.mem_cons, List.not_mem_nil, or_false] at hc' ⊢
      rcases hc' with z | z | z | z <;> subst z <;> simp
    have k1 : ∀ c o, c ∉ [n + 4, n + 3, n, n + 1] → s.heap.get? c = some o → h'.get? c = some o := fun c o hc' eo => by
      simp only [List.mem_cons, List.not_mem_nil, or_false, not_or] at hc'
      exact kk c o hc'.1 hc'.2.1 hc'.2.2.1 hc'.2.2.2 eo
    have th1 : ∀ c ∈ [n + 4, n + 3, n, n + 1], ∃ o, h'.get? c = some o := fun c hc' => by
      simp only [List.mem_cons, List.not_mem_nil, or_false] at hc'
      rcases hc' with z | z | z | z <;> subst z
      · exact ⟨_, ez⟩
      · exact ⟨_, e3⟩
      · obtain ⟨o, e, _⟩ := t4.1; exact ⟨o, e⟩
      · obtain ⟨o, e, _⟩ := t5.1; exact ⟨o, e⟩
    have I1 : Inv X pins σ (upd H s.heap.objs.size (.tup [x, y])) { s with heap := h', toks := tk } :=
      I.turnedNew k1 (fun c hc' => hf c (ch c hc')) th1 (Nat.le_refl _) ⟨two_le_line, _, .cons ru (.cons rv .nil), isTup_pair pp⟩
    refine ⟨_, rfl, zs_go (s := { s with heap := h', toks := tk }) ez ezf fun h'' g2 hz'' hzf'' hs'' => ?_⟩
    have fr : ∀ c ∈ ztFp n, upd H s.heap.objs.size (.tup [x, y]) c = none := fun c hc' => by
      have hlt : c < s.heap.objs.size := by
        simp only [ztFp, List.mem_cons, List.not_mem_nil, or_false] at hc'
        rcases hc' with z | z | z | z | z <;> subst z <;> exact nl (by omega)
      rw [upd_ne (Nat.ne_of_lt hlt)]
      exact (hf c hc').1
    have I2 : Inv X pins σ (upd H s.heap.objs.size (.tup [x, y])) { s with heap := h'', toks := tk } :=
      Inv.turnedL (s := { s with heap := h', toks := tk }) (ch := [n + 4]) (t' := tk) I1 (fun c o hc' eo => hs''.extBut c o (by simpa using hc') eo) (fun c hc' => by
        have z : c = n + 4 := by simpa using hc'
        subst z
        exact ⟨fr _ (by simp), (hf _ (by simp)).2⟩) (fun c hc' => by
        have z : c = n + 4 := by simpa using hc'
        subst z
        exact ⟨_, hz''⟩)
    have up : ∀ c o, c ≠ n + 4 → h'.get? c = some o → h''.get? c = some o := fun c o hc' e => hs''.extBut c o hc' e
    exact ⟨.ref s.heap.objs.size, _, I2, rfl, ⟨_, x, y, I.fresh, rfl, rfl, fun zs hz => by rw [I.tuple_inj hz hq1]; exact hx, fun zs hz => by rw [I.list_inj hz hq2]; exact hy⟩,
      ⟨⟨g2, g1, hz'', hzf''⟩, up _ _ (nq (by omega)) e2, ⟨_, _, up _ _ (nq (by omega)) e3⟩, t4.1.at fun o e => up _ o (nq (by omega)) e, t5.1.at fun o e => up _ o (nq (by omega)) e⟩, fr⟩
  done := by
    intro X hP hw hK hc i pins s σ H E I hf st hg
    subst hP hw hK
    obtain ⟨xs, ys, hq1, hq2, hx⟩ := hg
    obtain ⟨⟨f0, f1, h1, hzf⟩, h2, ⟨u0, v0, h3⟩, h4, h5⟩ := st
    obtain ⟨its1, rv1, p1, hz1⟩ := I.tuple hq1
    obtain ⟨its2, rv2, p2, hz2⟩ := I.list hq2
    have hh : X.A.in1.handled = none := by simp [I.ok.hd hc]
    have hl1 := rv1.length
    have hl2 := rv2.length
    refine zs_end (Draws.tuple hh n a (nq (by omega)) its1.toArray) (Draws.list hh (n + 1) b (nq (by omega)) its2.toArray) (zap_new ha hb) h1 hzf h2 h3 ⟨h4, (show s.heap.IsTuple a its1.toArray from p1)⟩ ⟨h5, p2.isList⟩ (by rw [List.size_toArray, List.size_toArray]; omega) fun h' tk kk => ⟨rfl, ?_⟩
    have sub : ∀ c ∈ [n + 4, n + 3, n, n + 1], c ∈ ztFp n := fun c hc' => by
      simp only [ztFp, List.mem_cons, List.not_mem_nil, or_false] at hc' ⊢
      rcases hc' with z | z | z | z <;> subst z <;> simp
    have k1 : ∀ c o, c ∉ [n + 4, n + 3, n, n + 1] → s.heap.get? c = some o → h'.get? c = some o := fun c o hc' e => by
      simp only [List.mem_cons, List.not_mem_nil, or_false, not_or] at hc'
      exact kk c o hc'.1 hc'.2.1 hc'.2.2.1 hc'.2.2.2 e
    have nit : ∀ d u', H d = some u' → d ∉ [n + 4, n + 3, n, n + 1] := fun d u' e' hd => by rw [(hf d (sub d hd)).1] at e'; cases e'
    refine I.step (g' := s.gens) (d' := s.drawn) (t' := tk) (ch := [n + 4, n + 3, n, n + 1]) (fun c hc' => ?_) (fun c o _ _ hcc e _ => k1 c o hcc e) (fun c o _ _ hcc e _ => ⟨o.slots, k1 c o hcc e⟩) (fun _ _ _ _ n => n)
      (fun c o hcc e => ⟨o, k1 c o hcc e⟩) (fun _ _ e => e) (fun _ _ _ e => e) (fun c ps e => ⟨#[], by rw [e]; simp⟩) (fun m hm => ?_) (fun c u e => ?_) I.bare
    · obtain ⟨_, a1, _, a3, a4, a5⟩ := hf c (sub c hc')
      exact ⟨a3, a1, a4, a5⟩
    · obtain ⟨o, es', ep, ho, r⟩ := hm
      exact ⟨o, es', ep, k1 _ o (fun z => (hf _ (sub _ z)).2.1 rfl) ho, r⟩
    · refine (I.hok c u e).stay (fun d v' hd q => k1 d v' ?_ q) (fun _ q => q) fun _ _ q => q
      rcases hd with z | z
      · rw [z]; exact nit c u e
      · exact nit d _ z
  self := fun _ _ _ _ _ st h => by
    obtain ⟨⟨f0, f1, hz, _⟩, _⟩ := st
    exact zs_iter hz h
def iZq (Sq1 Sq2 : Hp → Addr → List V → Prop) (ta : TA) : TI := fun σ H R => ta σ H fun vs H1 => ∃ a b xs ys, vs = [.ref a, .ref b] ∧ Sq1 H1 a xs ∧ Sq2 H1 b ys ∧ R (ItZq Sq1 Sq2 a b) H1
theorem pi_zipTL {X : Cx} {es : List Expr} {k : Nat} {tpos p pos : Pos} {a b : Expr} {ta : TA} (hg : Gl X "zip") (hm : X.mg "zip" = none) (ha : PA X [a, b] ta) (hs : starEach [a, b] X.env = [(false, eval a X.env), (false, eval b X.env)] := by rfl) (hs2 : starEach [b] X.env = [(false, eval b X.env)] := by rfl) :
    PI X (.Tuple es k tpos) (.Call (.Name "zip" p) [a, b] [] pos) (iZq (SqT X.K) (SqL X.K) ta) := by
  intro pins s σ H R I h
  refine Call_ (ld_blt I hg hm boot_zip (PyProof.Rows.callWith_type1 (thn (ha pos pins s σ H _ I h) fun us s1 ⟨vs, H1, I1, r1, q1⟩ => ?_) (by rw [hs, hs2]) (by rw [hs2]; rfl)))
  obtain ⟨l1, l2, xs, ys, e, hq1, hq2, q⟩ := q1
  subst e
  cases r1 with
  | cons r rr =>
    cases rr with
    | cons r' rr =>
      cases rr
      cases r
      cases r'
      obtain ⟨its1, rv1, pl1, hz1⟩ := I1.tuple hq1
      obtain ⟨its2, rv2, pl2, hz2⟩ := I1.list hq2
      have hlt1 : l1 < s1.heap.objs.size := by obtain ⟨_, e, _⟩ := pl1; exact Heap.lt_size e
      have hlt2 : l2 < s1.heap.objs.size := by obtain ⟨_, _, e, _⟩ := pl2; exact Heap.lt_size e
      refine call_zipTL (show s1.heap.IsTuple l1 its1.toArray from pl1) pl2.isList fun h' n hn b1 b2 b3 b4 b5 b6 kk => ?_
      have I2 : Inv X pins σ H1 { s1 with heap := h' } := I1.kept (t' := s1.toks) kk
      refine zs_iter b1 ?_
      refine ⟨_, ztFp n, ztSt n l1 l2, ItZq (SqT X.K) (SqL X.K) l1 l2, H1, rfl, I2, turn_zTL l1 l2 n (by rw [hn]; exact hlt1) (by rw [hn]; exact hlt2), ⟨⟨_, _, b1, .inl rfl, _, rfl⟩, b2, ⟨_, _, b3⟩, b4, b5⟩, fun c hc => ?_, q⟩
      have hle : s1.heap.objs.size ≤ c := by
        simp only [ztFp, List.mem_cons, List.not_mem_nil, or_false] at hc
        rw [← hn]
        rcases hc with z | z | z | z | z <;> subst z
        all_goals first | exact Nat.le_add_right _ _ | exact Nat.le_refl _
      exact I1.fpOk hle (I1.hok.fresh hle)
end L2

end
section
set_option maxHeartbeats 3999000
namespace L2
open PySem PySem.Spec PyProof.Rows
/-! ### all(a list of truths) -/
end L2

end
section
set_option maxHeartbeats 3999000
namespace My
open PySem L2 PyProof.Rows
section
variable {K : PySem.W.Frag}

theorem at_int {ns : List Int} {k : Int} (h0 : 0 ≤ k) (h1 : k < ns.length) : ∃ c : Int, ns[k.toNat]? = some c ∧ atI (ns.map V.int) k = some (.int c) := by
  have hlt : k.toNat < ns.length := by omega
  have e : atI (ns.map V.int) ((k.toNat : Nat) : Int) = some (.int ns[k.toNat]) := atI_nat (by simp [List.getElem?_map, List.getElem?_eq_getElem hlt])
  have hk : ((k.toNat : Nat) : Int) = k := by omega
  rw [hk] at e
  exact ⟨ns[k.toNat], by simp, e⟩
theorem at_ints {ns : List Int} {k : Int} (h0 : 0 ≤ k) (h1 : k < ns.length) : ∃ c : Int, atI (ns.map V.int) k = some (.int c) := let ⟨c, _, e⟩ := at_int h0 h1; ⟨c, e⟩
theorem same_upd {H : Hp} {a : Addr} {o : HO} (h : H a = none) : Same H (upd H a o) := fun b u e => by rw [upd_ne (ne_of_none e h)]; exact e
theorem same_upd' {H H' : Hp} {a : Addr} {o : HO} (s : Same H H') (h : H a = none) : Same H (upd H' a o) := fun b u e => by rw [upd_ne (ne_of_none e h)]; exact s b u e
theorem small_line {n : Nat} (h : n ≤ 10000) : n < sizeLine := by rw [sizeLine_eq]; omega

/-! ### _law_cell -/
def sp_l_cell (K : PySem.W.Frag) : Sp := fun vs H Q _ => ∃ (a : Addr) (ns : List Int) (k : Int), vs = [.ref a, .int k] ∧ SqL K H a (ns.map V.int) ∧ ns.length ≤ 63 ∧ 0 ≤ k ∧ k ≤ 1000 ∧ ∀ c : Int, Q (.int c) H
/-! ### _law_draws -/
def DrawsOk (many : Nat) (base : Int) (ds : List Int) : Prop := ds.length = many ∧ ∀ d ∈ ds, 0 ≤ d ∧ d < base
def sp_l_draws (K : PySem.W.Frag) : Sp := fun vs H Q _ => ∃ (a : Addr) (ns : List Int) (k many base : Int), vs = [.ref a, .int k, .int many, .int base] ∧ SqL K H a (ns.map V.int) ∧ ns.length ≤ 63 ∧ 0 ≤ k ∧ k ≤ 1000 ∧ 0 ≤ many ∧ many ≤ 1000 ∧ 0 < base ∧ base < 1073741824 ∧
  ∀ (l : Addr) (ds : List Int) (H' : Hp), H l = none → Same H H' → DrawsOk many.toNat base ds → H' l = some (.lst (ds.map V.int)) → Q (.ref l) H'
abbrev prs8 : List V := [.int 2147483647, .int 2147483629, .int 2147483587, .int 2147483579, .int 2147483563, .int 2147483549, .int 2147483543, .int 2147483497]
theorem at_prs8 {m : Int} (h0 : 0 ≤ m) (h1 : m < 8) : ∃ q : Int, atI prs8 m = some (.int q) ∧ 0 < q ∧ q < 2147483648 := by
  have : m = 0 ∨ m = 1 ∨ m = 2 ∨ m = 3 ∨ m = 4 ∨ m = 5 ∨ m = 6 ∨ m = 7 := by omega
  rcases this with e | e | e | e | e | e | e | e <;> subst e <;> exact ⟨_, rfl, by decide, by decide⟩
theorem at_prs8m (j : Int) : ∃ q : Int, atI prs8 (j % 8) = some (.int q) ∧ 0 < q ∧ q < 2147483648 := at_prs8 (Int.emod_nonneg _ (by decide)) (Int.emod_lt_of_pos _ (by decide))

/-! ### _law_code -/
theorem gY {i : Nat} {x : V} {σ : L2.St} {H : Hp} {A B : L2.St → Hp → Prop} (h : A (σ.set i (some x)) H) : gName i x σ H (fun σ2 H2 => tYes σ2 H2 fun b H3 => if b = true then A σ2 H3 else B σ2 H3) := by
  show (if true = true then A (σ.set i (some x)) H else B (σ.set i (some x)) H)
  rw [if_pos rfl]
  exact h
structure CodeOk (mk mn p k : Int) (pl : List Int) : Prop where
  pr : p ∈ primesL
  k1 : 1 ≤ k
  kk : k ≤ mk
  kl : k ≤ pl.length
  ln : (pl.length : Int) ≤ mn
  nd : pl.Nodup
  rg : ∀ x ∈ pl, 0 ≤ x ∧ x < p
def sp_l_code (K : PySem.W.Frag) : Sp := fun vs H Q _ => ∃ (a : Addr) (ns : List Int) (at' mk mn : Int), vs = [.ref a, .int at', .int mk, .int mn] ∧ SqL K H a (ns.map V.int) ∧ ns.length ≤ 63 ∧ 0 ≤ at' ∧ at' ≤ 1000 ∧ 1 ≤ mk ∧ mk ≤ 5 ∧ mk ≤ mn ∧ mn ≤ 16 ∧
  ∀ (c tt : Addr) (p k : Int) (pl : List Int) (H' : Hp), H c = none → Same H H' → CodeOk mk mn p k pl → H' c = some (.tup [.int p, .int k, .ref tt]) → H' tt = some (.tup (pl.map V.int)) → Q (.ref c) H'
theorem at_two {x y m : Int} (h0 : 0 ≤ m) (h1 : m < 2) : ∃ z : Int, atI [V.int x, V.int y] m = some (.int z) ∧ (z = x ∨ z = y) := by
  have : m = 0 ∨ m = 1 := by omega
  rcases this with e | e <;> subst e
  · exact ⟨x, rfl, .inl rfl⟩
  · exact ⟨y, rfl, .inr rfl⟩
theorem at_mem {ns : List Int} {k : Int} (h0 : 0 ≤ k) (h1 : k < ns.length) : ∃ c : Int, c ∈ ns ∧ atI (ns.map V.int) k = some (.int c) := by
  obtain ⟨c, e, h⟩ := at_int h0 h1
  exact ⟨c, List.mem_of_getElem? e, h⟩
theorem erase_map {α β : Type} (f : α → β) : ∀ (l : List α) (k : Nat), (l.map f).eraseIdx k = (l.eraseIdx k).map f
  | [], _ => rfl
  | _ :: _, 0 => rfl
  | a :: l, k + 1 => by show f a :: (l.map f).eraseIdx k = f a :: (l.eraseIdx k).map f; rw [erase_map f l k]
theorem erase_perm {α : Type} : ∀ {l : List α} {k : Nat} {x : α}, l[k]? = some x → (x :: l.eraseIdx k).Perm l
  | [], _, _, h => by simp at h
  | a :: l, 0, x, h => by
    have e : a = x := by simpa using h
    subst e
    exact List.Perm.refl _
  | a :: l, k + 1, x, h => by
    have ih := erase_perm (l := l) (k := k) (x := x) (by simpa using h)
    exact (List.Perm.swap a x _).trans (ih.cons a)
theorem move_ok {p : Int} {xs ls : List Int} {k : Nat} {x : Int} (h : ls[k]? = some x) (nd : (xs ++ ls).Nodup) (rg : ∀ y ∈ xs ++ ls, 0 ≤ y ∧ y < p) : ((xs ++ [x]) ++ ls.eraseIdx k).Nodup ∧ ∀ y ∈ (xs ++ [x]) ++ ls.eraseIdx k, 0 ≤ y ∧ y < p := by
  have hp : ((xs ++ [x]) ++ ls.eraseIdx k).Perm (xs ++ ls) := by
    rw [List.append_assoc]
    exact (erase_perm h).append_left xs
  exact ⟨hp.nodup_iff.mpr nd, fun y hy => rg y (hp.mem_iff.mp hy)⟩
theorem intsTo_ok (p : Int) : (intsTo 0 p.toNat).Nodup ∧ ∀ y ∈ intsTo 0 p.toNat, 0 ≤ y ∧ y < p := by
  unfold intsTo
  constructor
  · rw [List.nodup_iff_pairwise_ne, List.pairwise_map]
    exact (List.nodup_iff_pairwise_ne.mp (List.nodup_range (n := p.toNat))).imp fun {a b} hab => by omega
  · intro y hy
    obtain ⟨i, hi, e⟩ := List.mem_map.mp hy
    have := List.mem_range.mp hi
    omega

/-! ### value_at, _law_value -/
def sp_value_at (K : PySem.W.Frag) : Sp := fun vs H Q _ => ∃ (p x : Int) (a : Addr) (cs : List Int), vs = [.int p, .ref a, .int x] ∧ (SqL K H a (cs.map V.int) ∨ SqT K H a (cs.map V.int)) ∧ 0 < p ∧ p ≤ 97 ∧ 0 ≤ x ∧ x < p ∧ Q (.int (pval p x cs)) H
def sp_l_value (K : PySem.W.Frag) : Sp := sp_value_at K
theorem map_get {cs : List Int} {j : Nat} {x : V} (h : (cs.map V.int)[j]? = some x) : ∃ c, x = .int c ∧ cs[j]? = some c := by
  rw [List.getElem?_map] at h
  cases e : cs[j]? with
  | none => rw [e] at h; cases h
  | some c => rw [e] at h; exact ⟨c, (Option.some.inj h).symm, rfl⟩
/-! ### _law_whole of an int -/
def sp_l_whole (K : PySem.W.Frag) : Sp := fun vs H Q _ => ∃ i : Int, vs = [.int i] ∧ Q (.bl true) H

/-! ### _law_value -/
theorem lv_step {p x total power c : Int} {cs : List Int} {i : Nat} (h : cs[i]? = some c) : lv p x total power (cs.drop i) = lv p x ((total + c * power) % p) (power * x % p) (cs.drop (i + 1)) := by
  obtain ⟨hlt, e⟩ := List.getElem?_eq_some_iff.mp h
  rw [List.drop_eq_getElem_cons hlt, e]
  rfl
/-! ### inverse -/
def sp_inverse (K : PySem.W.Frag) : Sp := fun vs H Q _ => ∃ (p h : Int), vs = [.int p, .int h] ∧ p ∈ primesL ∧ 0 ≤ h ∧ h < p ∧ Q (.int (inv p h)) H
def leftOf (σ : L2.St) : Nat := match (σ[4]? : Option (Option V)) with
  | some (some (V.int l)) => l.toNat
  | _ => 0
theorem gY2 {K : PySem.W.Frag} {i j : Nat} {T : Addr} {x y : V} {σ : L2.St} {H : Hp} {A B : L2.St → Hp → Prop} (hT : SqT K H T [x, y]) (h : A ((σ.set i (some x)).set j (some y)) H) :
    gTup K 2 (gCons (gName i) (gCons (gName j) gNil)) (.ref T) σ H (fun σ2 H2 => tYes σ2 H2 fun b H3 => if b = true then A σ2 H3 else B σ2 H3) := by
  refine ⟨T, _, rfl, hT, rfl, x, _, rfl, y, _, rfl, rfl, ?_⟩
  show (if true = true then A ((σ.set i (some x)).set j (some y)) H else B ((σ.set i (some x)).set j (some y)) H)
  rw [if_pos rfl]
  exact h
/-! ### times_root -/
def sp_times_root (K : PySem.W.Frag) : Sp := fun vs H Q _ => ∃ (p r : Int) (a : Addr) (cs : List Int), vs = [.int p, .ref a, .int r] ∧ H a = some (.lst (cs.map V.int)) ∧ cs.length ≤ 1000 ∧ 0 < p ∧ 0 ≤ r ∧ r ≤ 97 ∧
  ∀ (l : Addr) (H' : Hp), H l = none → Same H H' → H' l = some (.lst ((trMul p r cs).map V.int)) → Q (.ref l) H'

/-! ### through -/
/-- a list of pairs at a place -/
def PtsAt (K : PySem.W.Frag) (H : Hp) (a : Addr) (pts : List (Int × Int)) : Prop := ∃ bs : List Addr, SqL K H a (bs.map V.ref) ∧ bs.length = pts.length ∧ ∀ (i : Nat) (b : Addr) (q : Int × Int), bs[i]? = some b → pts[i]? = some q → H b = some (.tup [.int q.1, .int q.2])
theorem rep_zero (n : Nat) : (List.replicate n [V.int 0]).flatten = (List.replicate n (0 : Int)).map V.int := by
  induction n with
  | zero => rfl
  | succ n ih => rw [List.replicate_succ, List.flatten_cons, ih, List.replicate_succ]; rfl
theorem ref_get {bs : List Addr} {i : Nat} {x : V} (h : (bs.map V.ref)[i]? = some x) : ∃ b, x = .ref b ∧ bs[i]? = some b := by
  rw [List.getElem?_map] at h
  cases e : bs[i]? with
  | none => rw [e] at h; cases h
  | some b => rw [e] at h; exact ⟨b, (Option.some.inj h).symm, rfl⟩
theorem take_snoc {α : Type} {l : List α} {i : Nat} {x : α} (h : l[i]? = some x) : l.take (i + 1) = l.take i ++ [x] := by
  rw [List.take_add_one, h, Option.toList]
def sp_through (K : PySem.W.Frag) : Sp := fun vs H Q _ => ∃ (p : Int) (a : Addr) (pts : List (Int × Int)), vs = [.int p, .ref a] ∧ PtsAt K H a pts ∧ pts.length ≤ 100 ∧ p ∈ primesL ∧ Pts p pts ∧
  ∀ (l : Addr) (H' : Hp), H l = none → Same H H' → H' l = some (.tup ((thr p pts).map V.int)) → Q (.ref l) H'

/-! ### _law_through -/
def sp_l_through (K : PySem.W.Frag) : Sp := sp_through K
/-! ### law -/
/-- a comprehension over a list or tuple, item by item, that leaves no things behind -/
theorem comp_mapL {a : Addr} {xs fs : List V} {g : TG} {ts : TT} {te : TE} {σ0 : L2.St} {Q : VK} {H : Hp} (ha : SqL K H a xs) (hl : fs.length = xs.length) (hn : xs.length ≤ 10000)
    (hs : ∀ (i : Nat) (x y : V) (R : VK) (B : L2.St → Hp → Prop), xs[i]? = some x → fs[i]? = some y → R y H → g x σ0 H fun σ2 H2 => ts σ2 H2 fun b H3 => if b = true then te σ2 H3 R else B σ2 H3)
    (hd : ∀ D, H D = none → Q (.ref D) (upd H D (.lst fs))) : cGo g ts te σ0 (Itl K a) Q H := by
  refine comp_by (n := xs.length) (fun i ys H' => ys = fs.take i ∧ H' = H) ⟨by simp, rfl⟩ ?_ ?_ ?_ ?_
  · rintro i ys H3 hi ⟨_, rfl⟩
    exact ⟨_, xs[i], ha, by simp⟩
  · rintro ys H3 ⟨_, rfl⟩
    exact ⟨_, ha, Nat.le_refl _⟩
  · rintro i x ys H3 H4 hi ⟨rfl, rfl⟩ ⟨rfl, hx⟩
    have hy : fs[i]? = some fs[i] := by simp
    refine hs i x fs[i] _ _ (hx _ ha) hy ⟨small_line (Nat.le_trans (List.length_take_le _ _) (by omega)), ?_, rfl⟩
    rw [take_snoc hy]
  · rintro ys H3 D ⟨rfl, rfl⟩ hD
    rw [List.take_of_length_le (by omega)]
    exact hd D hD
/-- the points of a law -/
def ptsOf (p : Int) (pl ds : List Int) : List (Int × Int) := pl.zip ((ds.drop 42).map (· % p))
theorem cut_ints (ds : List Int) (lo hi : Option Int) : ∃ ms : List Int, cutV (ds.map V.int) lo hi = ms.map V.int ∧ ms.length ≤ ds.length := by
  refine ⟨(ds.drop (HT.sIx (ds.map V.int).length 0 lo)).take (HT.sIx (ds.map V.int).length (ds.map V.int).length hi - HT.sIx (ds.map V.int).length 0 lo), ?_, ?_⟩
  · unfold cutV; rw [List.map_take, List.map_drop]
  · rw [List.length_take, List.length_drop]
    omega
theorem map_map_get {ms : List Int} {f : Int → V} {i : Nat} {x y : V} (hx : (ms.map V.int)[i]? = some x) (hy : (ms.map f)[i]? = some y) : ∃ c, ms[i]? = some c ∧ x = .int c ∧ y = f c := by
  obtain ⟨c, rfl, hc⟩ := map_get hx
  rw [List.getElem?_map, hc] at hy
  exact ⟨c, hc, rfl, (Option.some.inj hy).symm⟩
def sp_law (K : PySem.W.Frag) : Sp := fun vs H Q _ => ∃ (a : Addr) (ns : List Int), vs = [.ref a] ∧ SqL K H a (ns.map V.int) ∧ ns.length ≤ 63 ∧ ∀ H', Q (.bl true) H'

end
end My

end
section
set_option maxHeartbeats 3999000
namespace My
open PySem L2 PyProof.Rows
section
variable {K : PySem.W.Frag}
/-! ### things of any kind -/
inductive Any1 (H : Hp) : V → Prop where
  | non : Any1 H .non
  | bl (b : Bool) : Any1 H (.bl b)
  | int (i : Int) : Any1 H (.int i)
  | str (x : Str) : Any1 H (.str x)
  | lst {a : Addr} {xs : List V} (e : H a = some (.lst xs)) : Any1 H (.ref a)
  | tup {a : Addr} {xs : List V} (e : H a = some (.tup xs)) : Any1 H (.ref a)
def isI : V → Bool
  | .int _ => true
  | .bl _ => true
  | _ => false
def isB : V → Bool
  | .bl _ => true
  | _ => false
def isW : V → Bool
  | .int _ => true
  | _ => false
def lstOf (H : Hp) : V → Option (List V)
  | .ref a => match H a with
    | some (.lst xs) => some xs
    | _ => none
  | _ => none
/-- .. and, if it is a list, its items are such -/
def Any2 (H : Hp) (v : V) : Prop := Any1 H v ∧ ∀ xs, lstOf H v = some xs → xs.length ≤ 1000 ∧ ∀ x ∈ xs, Any1 H x
/-- is it an entry -/
def entB (p : Int) : V → Bool
  | .non => true
  | .int i => decide (0 ≤ i) && decide (i < p)
  | _ => false
/-- is it a row -/
def rowB (p : Int) (n : Nat) (H : Hp) (v : V) : Bool := match lstOf H v with
  | some xs => decide (xs.length = n) && xs.all (entB p)
  | none => false
/-- a code in the heap -/
def CodeAt (H : Hp) (c tt : Addr) (p k : Int) (pl : List Int) : Prop := H c = some (.tup [.int p, .int k, .ref tt]) ∧ H tt = some (.tup (pl.map V.int))
theorem CodeAt.same {H H' : Hp} {c tt : Addr} {p k : Int} {pl : List Int} (s : Same H H') (h : CodeAt H c tt p k pl) : CodeAt H' c tt p k pl := ⟨s _ _ h.1, s _ _ h.2⟩
def numB (p : Int) : V → Bool
  | .int i => decide (0 ≤ i) && decide (i < p)
  | _ => false
def sp_any_whole (K : PySem.W.Frag) : Sp := fun vs H Q _ => ∃ v, vs = [v] ∧ Any1 H v ∧ Q (.bl (isW v)) H
def sp_is_number (K : PySem.W.Frag) : Sp := fun vs H Q _ => ∃ (p : Int) (v : V), vs = [.int p, v] ∧ Any1 H v ∧ Q (.bl (numB p v)) H
def sp_any_row (K : PySem.W.Frag) : Sp := fun vs H Q _ => ∃ (c tt : Addr) (p k : Int) (pl : List Int) (v : V), vs = [.ref c, v] ∧ CodeAt H c tt p k pl ∧ Any2 H v ∧ ∀ H', Same H H' → Q (.bl (rowB p pl.length H v)) H'
/-! ### rows -/
def enc : Option Int → V
  | none => .non
  | some i => .int i
def fitsB (p : Int) (pl : List Int) (rw : List (Option Int)) (poly : List Int) (j : Nat) : Bool := match pl[j]?, rw[j]? with
  | some x, some (some i) => decide (i = pval p x poly)
  | _, _ => false
def fitL (p : Int) (pl : List Int) (rw : List (Option Int)) (poly : List Int) (n : Nat) : List Int := ((List.range n).filter (fitsB p pl rw poly)).map fun (j : Nat) => (j : Int)
theorem enc_get {rw : List (Option Int)} {j : Nat} {x : V} (h : (rw.map enc)[j]? = some x) : ∃ o, x = enc o ∧ rw[j]? = some o := by
  rw [List.getElem?_map] at h
  cases e : rw[j]? with
  | none => rw [e] at h; cases h
  | some c => rw [e] at h; exact ⟨c, (Option.some.inj h).symm, rfl⟩
/-- the heap without one thing -/
def hide (H : Hp) (a : Addr) : Hp := fun b => if b = a then none else H b
end
end My

end
section
set_option maxHeartbeats 3999000
namespace My
open PySem L2 PyProof.Rows
section
variable {K : PySem.W.Frag}
def sp_fits (K : PySem.W.Frag) : Sp := fun vs H Q _ => ∃ (c tt ra po : Addr) (p k : Int) (pl poly : List Int) (rw : List (Option Int)), vs = [.ref c, .ref ra, .ref po] ∧ CodeAt H c tt p k pl ∧ H ra = some (.lst (rw.map enc)) ∧ rw.length = pl.length ∧ H po = some (.tup (poly.map V.int)) ∧ 0 < p ∧ p ≤ 97 ∧ (∀ x ∈ pl, 0 ≤ x ∧ x < p) ∧ pl.length ≤ 100 ∧
  ∀ (l : Addr) (H' : Hp), H l = none → Same H H' → H' l = some (.lst ((fitL p pl rw poly pl.length).map V.int)) → Q (.ref l) H'
def sp_l_fits (K : PySem.W.Frag) : Sp := sp_fits K
def sp_l_polynomial (K : PySem.W.Frag) : Sp := fun vs H Q _ => ∃ (a : Addr) (ds : List Int) (p k : Int), vs = [.ref a, .int p, .int k] ∧ SqL K H a (ds.map V.int) ∧ ds.length ≤ 1000 ∧ 0 < p ∧
  ∀ (l : Addr) (ms : List Int) (H' : Hp), H l = none → Same H H' → H' l = some (.tup (ms.map V.int)) → Q (.ref l) H'
def someL (rw : List (Option Int)) (n : Nat) : List Int := ((List.range n).filter fun j => (rw[j]?.getD none).isSome).map fun (j : Nat) => (j : Int)
def fitV (p : Int) (pl : List Int) (rw : List (Option Int)) (poly : List Int) : V → Bool
  | .int z => fitsB p pl rw poly z.toNat
  | _ => false
end
end My

end
section
set_option maxHeartbeats 3999000
namespace L2
open PySem PySem.Spec PyProof.Rows
section
variable {prog : Program} {w : World} {A : Around} {h : Heap} {g : Array GenState} {d : Drawn} {tk : Nat} {os : OsState} {K : PySem.W.Frag} {x C : Addr} {E : Value → Shared → Prop}
/-! ### the class of an exception, told by itself -/
theorem class_get2 {R : Result → Shared → Prop} {tp : Value} (J : ∀ M, PySem.W.Looks M h (typeOf (.ref x)) (.ref C)) (X : K.In h)
    (hm : PySem.W.mroIn K C (.type "object") = some true) (q : R (.ok (.ret (.ref C))) ⟨h, g, d, tk, os⟩) :
    codeAny (model prog w) A (Code.call (.builtin "getset_descriptor.__get__") { pos := [.builtin "object.__class__", .ref x, tp] }) R ⟨h, g, d, tk, os⟩ := by
  refine codeAny_call_builtin PySem.W.KF.slot_gs.plain PySem.W.KF.entry_gs (PySem.W.KF.slot_gs.check _ _ _ _ _ _ _ _ ?_ (PySem.W.KF.args_gs _ _ _) ?_)
  · exact PySem.W.KF.type_class
  · unfold Builtin.«getset_descriptor.__get__» Builtin.Getset_descriptor.descrGet
    rw [PySem.W.dga_obj]
    refine wpAny_bind (wpAny_pure ?_)
    try dsimp only
    unfold Builtin.Getset_descriptor.descrGetter
    try dsimp only
    refine wpAny_bind ?_
    unfold Builtin.Getset_descriptor.descrCheckInstance Builtin.Getset_descriptor.descrNameAndClass
    try dsimp only
    rw [PySem.W.KF.owner_class]
    refine wpAny_bind (wpAny_pure ?_)
    try dsimp only
    unfold isInstance
    refine wpAny_bind (wpAny_bind ((J _).at ((PySem.W.looks_mroIn X hm).at ?_)))
    refine wpAny_ite_false rfl (wpAny_pure ?_)
    unfold again
    refine wpAny_pure ⟨Code.quiet_builtin _ (by decide +kernel), ?_⟩
    refine codeAny_builtin PySem.W.KF.entry_class ?_
    unfold Builtin.«object.__class__»
    try dsimp only
    unfold shownTypeOf
    refine wpAny_bind (wpAny_bind ((J _).at ?_))
    refine wpAny_ite_false rfl (wpAny_pure ?_)
    unfold ret
    exact wpAny_pure q
theorem check_ga2 {M : Model} {nameV : Value} {Q : Unit → Shared → Prop} (J : ∀ M, PySem.W.Looks M h (typeOf (.ref x)) (.ref C)) (X : K.In h) (hm : PySem.W.mroIn K C (.type "BaseException") = some true) (q : Q () ⟨h, g, d, tk, os⟩) :
    wpAny M A (checkBuiltinCall "BaseException.__getattribute__" { pos := [.ref x, nameV] }) Q E ⟨h, g, d, tk, os⟩ := by
  have hk : builtinKind "BaseException.__getattribute__" = some Manifest.AttrKind.slot := (by decide +kernel)
  have hs : splitId "BaseException.__getattribute__" = some ("BaseException", "__getattribute__") := by decide +kernel
  unfold checkBuiltinCall
  rw [hk, hs]
  try dsimp only
  unfold isInstance
  refine wpAny_bind (wpAny_bind ((J _).at ((PySem.W.looks_mroIn X hm).at ?_)))
  refine wpAny_ite_false rfl ?_
  have ok := F.args_bexc_ga (.ref x) nameV
  unfold argsOk at ok
  generalize Manifest.signature? "BaseException.__getattribute__" = sg at ok ⊢
  cases sg with
  | none => exact wpAny_pure q
  | some sig =>
    dsimp only at ok ⊢
    rw [ok]
    exact wpAny_pure q
theorem exc_class {Q : Option Value → Shared → Prop} (J : ∀ M, PySem.W.Looks M h (typeOf (.ref x)) (.ref C)) (X : K.In h)
    (F1 : PySem.W.findIn K (.ref C) "__getattribute__" = some (some (.builtin "BaseException.__getattribute__"))) (F2 : PySem.W.findIn K (.ref C) "__getattr__" = some none)
    (F3 : PySem.W.findIn K (.ref C) "__class__" = some (some (.builtin "object.__class__"))) (hm : PySem.W.mroIn K C (.type "object") = some true) (hb : PySem.W.mroIn K C (.type "BaseException") = some true)
    (q : Q (some (.ref C)) ⟨h, g, d, tk + 1, os⟩) : wpAny (model prog w) A (getAttr? (.ref x) "__class__") Q E ⟨h, g, d, tk, os⟩ := by
  unfold getAttr?
  refine wpAny_bind (wpAny_mkText ?_); unfold getAttrBy?
  refine wpAny_bind (wpAny_attempt ?_); unfold getAttrBy
  refine wpAny_holding (wpAny_bind ((J _).at (wpAny_bind ((PySem.W.looks_findIn X F1).at ?_))))
  try dsimp only
  refine wpAny_ite_false rfl ?_
  unfold getAttrByItsOwn
  refine wpAny_bind ((PySem.W.looks_hook (mc := .ref C) X (r := none) (by rw [show onTheHeap (Value.ref C) = true from rfl, if_pos rfl]; exact F2)).at ?_)
  refine wpAny_bind (wpAny_attempt (wpAny_holding ?_)); unfold callGetattribute
  refine wpAny_ite_false rfl ?_
  unfold boundAndCalled
  rw [F.attrBase_ValueError.ga.bind]
  refine wpAny_bind (wpAny_pure ?_)
  try dsimp only
  refine wpAny_call ?_
  refine codeAny_call_builtin F.attrBase_ValueError.ga.plain F.entry_bexc_ga (check_ga2 J X hb ?_)
  unfold Builtin.«object.__getattribute__»; refine wpAny_bind ?_
  unfold slotArgs
  try dsimp only
  refine wpAny_ite_false rfl (wpAny_ite_false rfl (wpAny_pure ?_))
  try dsimp only
  unfold Builtin.ObjectAttr.attrName
  try dsimp only
  refine wpAny_bind (wpAny_pure (wpAny_bind ((J _).at (wpAny_bind ?_))))
  unfold Builtin.ObjectAttr.find
  refine wpAny_bind ((PySem.W.looks_findIn X F3).at ?_)
  unfold Builtin.ObjectAttr.getOf
  try dsimp only
  refine wpAny_bind (wpAny_specialOf_val PySem.W.KF.type_class F.slot_gs_get.lookup ?_)
  unfold Builtin.ObjectAttr.dataDescriptor?
  try dsimp only
  refine wpAny_bind ?_
  unfold Builtin.ObjectAttr.takesStores
  refine wpAny_bind (wpAny_bind (wpAny_specialOf_val PySem.W.KF.type_class F.slot_gs_set.lookup ?_))
  refine wpAny_ite_true rfl (wpAny_pure ?_)
  refine wpAny_ite_true rfl (wpAny_pure ?_)
  try dsimp only
  refine wpAny_bind (wpAny_rule (wpAny_pure ?_)); try dsimp only
  unfold Builtin.ObjectAttr.bindTo
  try dsimp only
  refine wpAny_bind (wpAny_holding (wpAny_call (class_get2 J X hm ?_)))
  try dsimp only
  unfold ret
  refine wpAny_pure ?_
  try dsimp only
  unfold handedOut
  try dsimp only
  refine wpAny_pure ?_
  try dsimp only
  exact wpAny_pure q
end
end L2

end
section
set_option maxHeartbeats 3999000
namespace L2
open PySem PySem.Spec PyProof.Rows
/-! ### isinstance of an exception -/
/-- an own exception class, as the text has it -/
structure Xc (K : PySem.W.Frag) (C : Addr) : Prop where
  f1 : PySem.W.findIn K (.ref C) "__getattribute__" = some (some (.builtin "BaseException.__getattribute__"))
  f2 : PySem.W.findIn K (.ref C) "__getattr__" = some none
  f3 : PySem.W.findIn K (.ref C) "__class__" = some (some (.builtin "object.__class__"))
  ob : PySem.W.mroIn K C (.type "object") = some true
  bb : PySem.W.mroIn K C (.type "BaseException") = some true
  kc : PySem.W.kitCls K (.ref C) (.ref C) = some true
theorem exc_type {h : Heap} {x C : Addr} (e : ∃ o, h.get? x = some o ∧ o.cls = .ref C) (M : Model) : PySem.W.Looks M h (typeOf (.ref x)) (.ref C) := by
  obtain ⟨o, e, c⟩ := e
  intro A Q E s k q
  obtain ⟨h', g, d, t, os⟩ := s
  unfold typeOf
  refine wpAny_bind (wpAny_loadPart_at (k _ _ e) (wpAny_pure ?_))
  rw [c]
  exact q
theorem cls_at {K : PySem.W.Frag} {C : Addr} {b : Value} {r : Bool} (m : PySem.W.mroIn K C b = some r) : ∃ oc dd cd sl, K.lookup C = some ⟨oc, dd, .cls cd, sl⟩ := by
  unfold PySem.W.mroIn PySem.W.clsIn at m
  cases e : List.lookup C K with
  | none => rw [e] at m; cases m
  | some o =>
    obtain ⟨oc, dd, da, sl⟩ := o
    cases da with
    | cls cd => exact ⟨oc, dd, cd, sl, rfl⟩
    | _ => rw [e] at m; cases m
theorem kitx_exc {K : PySem.W.Frag} {x C : Addr} (c : Xc K C) : PySem.W.KitX K (.ref x) (.ref C) (fun h => ∃ o, h.get? x = some o ∧ o.cls = .ref C) := by
  refine ⟨fun M h _ e => exc_type e M, fun M h X e => (PySem.W.kit_cls X c.kc).2.1, fun h tp dd its n sl X e => ?_, fun {prog w A E Q s} X e q => ?_⟩
  · obtain ⟨oc, dd', cd, sl', l⟩ := cls_at c.ob
    have e2 := X _ _ l
    have ne : C ≠ tp := fun z => by
      rw [z, e] at e2
      cases e2
    exact decide_eq_false fun z => ne (by injection z)
  · obtain ⟨h, g, d, tk, os⟩ := s
    exact exc_class (fun M => exc_type e M) X c.f1 c.f2 c.f3 c.ob c.bb q
/-- an exception of the class at C -/
def ExcO (a C : Addr) : HO := .ext fun h => ∃ o, h.get? a = some o ∧ o.cls = .ref C
theorem call_isinstX {X : Cx} : CallR X (.builtin "isinstance") (fun xs H Q => ∃ a C y b, xs = [.ref a, y] ∧ H a = some (ExcO a C) ∧ Xc X.K C ∧ ((∃ D, y = .ref D ∧ PySem.W.kitOne X.K (.ref C) (.ref D) = some b) ∨ ∃ n, y = .ty n ∧ PySem.W.kitOne X.K (.ref C) (.type n) = some b) ∧ Q (.bl b) H) := by
  intro pins s σ H xs us Q I r h
  obtain ⟨a, C, y, b, rfl, ha, c, hy, q⟩ := h
  obtain ⟨u, u', rfl, rx, r2⟩ := vals2 r
  cases rx
  obtain ⟨he, _, _⟩ := (show ObjOk X.prog X.w H s.heap a (ExcO a C) from I.hok a _ ha)
  rcases hy with ⟨D, rfl, hk⟩ | ⟨n, rfl, hk⟩
  · cases r2
    exact PySem.W.kia_one (kitx_exc c) I.kIn he hk (fun z => nomatch z) fun tk => ⟨.bl b, H, I.tok tk, rfl, q⟩
  · cases r2
    exact PySem.W.kia_one (kitx_exc c) I.kIn he hk (fun z => nomatch z) fun tk => ⟨.bl b, H, I.tok tk, rfl, q⟩
end L2

end
section
set_option maxHeartbeats 3999000
namespace L2
open PySem PySem.Spec PyProof.Rows
/-! ### an own exception class in the heap -/
abbrev vErr : List Value := [.type "ValueError", .type "Exception", .type "BaseException", .type "object"]
structure XcAt (C : Addr) (h : Heap) (bmB : List Value) (newId : String) : Prop where
  ex : ∃ nm q N bs bm hdct sn sub ab col dd k0 k1 k2 k3 k5, ∃ mN : Str → Option Value, h.get? C = some (excClassObj nm q C N bs bm hdct sn sub ab col dd k0 k1 k2 k3 k5 newId) ∧ h.Ns N mN ∧ mN "__init__" = none ∧ OwnTail h bmB bm
theorem exc_of_in {K : PySem.W.Frag} {h : Heap} {C : Addr} {bmB : List Value} {newId : String} (X : K.In h) (e : PySem.W.excIn K C bmB newId = true) : XcAt C h bmB newId := by
  unfold PySem.W.excIn at e
  split at e
  · rename_i dict cd sl hl
    split at e
    · rename_i C' bm a0 a1 a2 a3 n a5 hm hs
      simp only [Bool.and_eq_true, beq_iff_eq] at e
      obtain ⟨⟨⟨⟨⟨rfl, rfl⟩, hdel⟩, ht⟩, hn⟩, hi⟩ := e
      obtain ⟨sll⟩ := sl
      have hs : sll = [a0, a1, a2, a3, some (Value.builtin n), a5] := hs
      subst hs
      have ho := X _ _ hl
      cases cd
      dsimp only at hm hn hi hdel
      subst hm
      simp only [Bool.not_eq_true'] at hdel
      subst hdel
      exact ⟨_, _, _, _, _, _, _, _, _, _, _, _, _, _, _, _, _, ho, Heap.Ns.of_isNs (PySem.W.isNs_of_in X hn), PySem.W.nsMap_none_of_in X hn hi, PySem.W.tail_of_in X ht⟩
    · cases e
  · cases e
end L2

end
section
set_option maxHeartbeats 3999000
namespace L2
open PySem PySem.Spec PyProof.Rows
/-! ### how an own exception lies behind a call -/
theorem frames_over {h h' base B : Heap} (k : ∀ b o, h.get? b = some o → h'.get? b = some o) : ∀ {l : List Env}, h.FunFrames base l → (∀ b ∈ frs l, B.get? b = none) → h'.FunFrames B l
  | [], _, _ => trivial
  | env :: r, hl, hb => by
    obtain ⟨hk, ⟨L, o, hf, hn, ho, hd⟩, hr⟩ := hl
    have e : frs (env :: r) = L :: frs r := by unfold frs; rw [List.filterMap_cons, hf]
    rw [e] at hb
    exact ⟨hk, ⟨L, o, hf, hb L (by simp), k _ _ ho, hd⟩, frames_over k hr fun b z => hb b (List.mem_cons_of_mem _ z)⟩
/-- B: what the exception leaves alone -/
structure Xl (P : Program) (w : World) (outer : List Env) (H : Hp) (h : Heap) (H' : Hp) (h' B : Heap) (e C : Addr) : Prop where
  new : h.get? e = none
  hok : HOk P w H' B
  fly : ∃ t, B.FlyingW outer e (.ref C) t h'
  keep : ∀ b o, h.get? b = some o → H b = none → b ∉ frs outer → B.get? b = some o
  slot : ∀ b o, h.get? b = some o → H b = none → b ∈ frs outer → ∃ sl, h'.get? b = some { o with slots := sl }
  free : ∀ b o, h.get? b = some o → H b = none → H' b = none
  there : ∀ b o, h.get? b = some o → b ∉ frs outer → ∃ o', B.get? b = some o'
  tups : ∀ b xs, H b = some (.tup xs) → H' b = some (.tup xs)
  frzs : ∀ b o u, H b = some (.frz o u) → H' b = some (.frz o u)
  tbls : ∀ b ps, H b = some (.tbl ps) → ∃ more, H' b = some (.tbl (ps ++ more))
def CX1 (P : Program) (w : World) : CXT := fun outer H s E ev s' => ∃ (e C : Addr) (H' : Hp) (B : Heap), ev = .ref e ∧ s'.os = s.os ∧ AllBare s'.gens ∧ Xl P w outer H s.heap H' s'.heap B e C ∧ E (.ref C) none H'
section
variable {P : Program} {w : World} {outer : List Env} {H H' : Hp} {h h' B : Heap} {e C : Addr}
theorem obj_at {o : HO} {a : Addr} (x : ObjOk P w H h a o) : ∃ ob, h.get? a = some ob := by
  cases o with
  | lst xs => obtain ⟨_, _, _, _, e⟩ := x; exact ⟨_, e⟩
  | tup xs => obtain ⟨_, _, _, o, e, _⟩ := x; exact ⟨_, e⟩
  | dK kvs => obtain ⟨_, _, _, _, o, _, _, e, _⟩ := x; exact ⟨_, e⟩
  | dT kvs => obtain ⟨_, _, _, _, o, _, _, e, _⟩ := x; exact ⟨_, e⟩
  | set S n => obtain ⟨o, _, _, _, e, _⟩ := x; exact ⟨_, e⟩
  | ins C dx fs => obtain ⟨_, _, _, e, _⟩ := x; exact ⟨_, e⟩
  | own y => obtain ⟨_, e⟩ := x; exact ⟨_, e⟩
  | xd fs => obtain ⟨_, ⟨_, _, _, e, _⟩, _⟩ := x; exact ⟨_, e⟩
  | rng lo hi => obtain ⟨_, _, _, e⟩ := x; exact ⟨_, e⟩
  | frz ob u => obtain ⟨e, _⟩ := x; exact ⟨_, e⟩
  | tbl ps => exact ⟨_, (show h.get? a = some _ from x)⟩
  | met f y => exact ⟨_, (show h.get? a = some _ from x)⟩
  | ext φ => obtain ⟨_, ⟨_, e⟩, _⟩ := x; exact ⟨_, e⟩
theorem Xl.fresh (x : Xl P w outer H h H' h' B e C) : H' e = none := by
  obtain ⟨t, _, hb, _⟩ := x.fly
  cases q : H' e with
  | none => rfl
  | some u =>
    obtain ⟨ob, z⟩ := obj_at (x.hok e u q)
    rw [hb] at z
    cases z
theorem Xl.un (x : Xl P w outer H h H' h' B e C) (hf : ∀ b ∈ frs outer, H b = none) : Un (frs outer) [] H H' h h' where
  keep := fun b o q n hb _ => by
    obtain ⟨t, st, _⟩ := x.fly
    exact st _ _ (x.keep b o q n hb)
  slot := fun b o q n hb _ => x.slot b o q n hb
  free := fun b o q n _ => x.free b o q n
  there := fun b o q _ => by
    by_cases hb : b ∈ frs outer
    · obtain ⟨sl, z⟩ := x.slot b o q (hf b hb) hb
      exact ⟨_, z⟩
    · obtain ⟨o', z⟩ := x.there b o q hb
      obtain ⟨t, st, _⟩ := x.fly
      exact ⟨o', st _ _ z⟩
  tups := x.tups
  frzs := x.frzs
  tbls := x.tbls
end
section
variable {X : Cx} {σ : St} {H : Hp} {s : Shared} {pins : List (Addr × Obj)}
theorem Inv.hid (I : Inv X pins σ H s) : HOk X.prog X.w H (PySem.W.hideAll s.heap (frs X.stack)) := fun a o q =>
  (I.hok a o q).stay (fun b u hb z => PySem.W.hideAll_get _ z fun m => by
    have n := I.stkFree b m
    rcases hb with rfl | hb
    · rw [q] at n; cases n
    · rw [hb] at n; cases n) (fun _ z => z) fun _ _ z => z
theorem frs_cons {env : Env} {outer : List Env} {L : Addr} (hf : env.frame = some L) : frs (env :: outer) = L :: frs outer := by unfold frs; rw [List.filterMap_cons, hf]
/-- from an entry: the objects of the entry are not this def's frame -/
theorem Inv.notHere (I : Inv X pins σ H s) {b : Addr} {o : Obj} (q : X.s₀.heap.get? b = some o) : b ≠ X.env.locals := Nat.ne_of_lt (Nat.lt_of_lt_of_le (Heap.lt_size q) I.ok.above)
end
/-! ### raised in a def -/
section
variable {P : Program} {w : World} {K : PySem.W.Frag} {mg : Str → Option Value} {base : Heap} {N : List Str} {qual : Str} {scope : Scope} {f : Addr} {cd : Value} {A : Around} {outer : List Env} {s₀ : Shared} {H₀ : Hp} {E : XK}
abbrev cxX (P : Program) (w : World) (K : PySem.W.Frag) (mg : Str → Option Value) (base : Heap) (N : List Str) (qual : Str) (scope : Scope) (f : Addr) (cd : Value) (A : Around) (outer : List Env) (s : Shared) (H : Hp) (E : XK) : Cx := cxOf (CX1 P w) P w K mg base N qual scope f cd A outer s H E
theorem raises_out {pins : List (Addr × Obj)} {σ : St} {H : Hp} {s : Shared} {h1 : Heap} {e C : Addr} {vs : List Value} (I : Inv (cxX P w K mg base N qual scope f cd A outer s₀ H₀ E) pins σ H s) (m : s.heap.MadeExcOf h1 e (.ref C) vs) (q : E (.ref C) none H) :
    (cxX P w K mg base N qual scope f cd A outer s₀ H₀ E).xe (.ref e) { s with heap := h1 } := by
  have frm : frs (cxX P w K mg base N qual scope f cd A outer s₀ H₀ E).stack = s₀.heap.objs.size :: frs outer := frs_cons rfl
  obtain ⟨t, he, _, _⟩ := m.there
  have stays : (PySem.W.hideAll s.heap (frs (cxX P w K mg base N qual scope f cd A outer s₀ H₀ E).stack)).StaysIn h1 := fun b o z => m.keeps _ _ (PySem.W.of_hideAll _ z)
  have none_e : (PySem.W.hideAll s.heap (frs (cxX P w K mg base N qual scope f cd A outer s₀ H₀ E).stack)).get? e = none := by
    cases z : (PySem.W.hideAll s.heap (frs (cxX P w K mg base N qual scope f cd A outer s₀ H₀ E).stack)).get? e with
    | none => rfl
    | some o => have := PySem.W.of_hideAll _ z; rw [m.new] at this; cases this
  refine wpAny_leaving_firstW (base := PySem.W.hideAll s.heap (frs (cxX P w K mg base N qual scope f cd A outer s₀ H₀ E).stack)) (outer := outer) I.ok.frames (frames_over m.keeps I.stack fun b z => PySem.W.hideAll_none _ z) rfl he stays none_e rfl rfl rfl fun h2 left => ?_
  obtain ⟨st2, ff2, tr2, sl2⟩ := left
  refine ⟨e, C, H, PySem.W.hideAll s.heap (frs (cxX P w K mg base N qual scope f cd A outer s₀ H₀ E).stack), rfl, I.os, I.bare, ⟨?_, I.hid, ⟨_, st2, none_e, ff2.2.2, tr2⟩, fun b o z n hb => ?_, fun b o z n hb => ?_, fun b o z n => I.base.free b o z n (by simp [cxX, cxOf]), fun b o z hb => ?_, I.base.tups, I.base.frzs, I.base.tbls⟩, q⟩
  · cases z : s₀.heap.get? e with
    | none => rfl
    | some o =>
      obtain ⟨o', z'⟩ := I.base.there e o z (by simp [cxX, cxOf])
      rw [m.new] at z'; cases z'
  · refine PySem.W.hideAll_get _ (I.base.keep b o z n hb (by simp [cxX, cxOf])) fun hm => ?_
    rw [frm] at hm
    rcases List.mem_cons.mp hm with z' | z'
    · exact I.notHere z z'
    · exact hb z'
  · obtain ⟨sl, z1⟩ := I.base.slot b o z n hb (by simp [cxX, cxOf])
    obtain ⟨_, ob, zo, nd⟩ := I.ok.funs.mem hb
    have eo : ob = o := by
      have z3 : s₀.heap.get? b = some ob := zo
      rw [z] at z3; exact (Option.some.inj z3).symm
    subst eo
    obtain ⟨sl', z2⟩ := sl2 b _ (m.keeps _ _ z1) nd
    exact ⟨sl', z2⟩
  · obtain ⟨o', z1⟩ := I.base.there b o z (by simp [cxX, cxOf])
    refine ⟨o', PySem.W.hideAll_get _ z1 fun hm => ?_⟩
    rw [frm] at hm
    rcases List.mem_cons.mp hm with z' | z'
    · exact I.notHere z z'
    · exact hb z'
/-- a callee's exception goes on -/
theorem passes_out : Passes (CX1 P w) (cxX P w K mg base N qual scope f cd A outer s₀ H₀ E) E := by
  intro pins σ H s ev s' I hq
  obtain ⟨e, C, H', B, rfl, os, bare, L, q⟩ := hq
  have frm : frs (cxX P w K mg base N qual scope f cd A outer s₀ H₀ E).stack = s₀.heap.objs.size :: frs outer := frs_cons rfl
  obtain ⟨t, fl⟩ := L.fly
  show wpAny _ _ (leaving _ _) _ _ _
  unfold leaving
  refine wpAny_bind (wpAny_looks_onW (base := B) (outer := outer) I.ok.frames rfl fl fun h2 held u2 => ?_)
  refine wpAny_landsW held fun h3 fl3 u3 => ?_
  obtain ⟨st3, none_e, ff3, tr3⟩ := fl3
  refine ⟨e, C, H', B, rfl, os.trans I.os, bare, ⟨?_, L.hok, ⟨_, st3, none_e, ff3.2.2, tr3⟩, fun b o z n hb => ?_, fun b o z n hb => ?_, fun b o z n => ?_, fun b o z hb => ?_, fun b xs z => L.tups b xs (I.base.tups b xs z), fun b o u z => L.frzs b o u (I.base.frzs b o u z), fun b ps z => ?_⟩, q⟩
  · cases z : s₀.heap.get? e with
    | none => rfl
    | some o =>
      obtain ⟨o', z'⟩ := I.base.there e o z (by simp [cxX, cxOf])
      rw [L.new] at z'; cases z'
  · refine L.keep b o (I.base.keep b o z n hb (by simp [cxX, cxOf])) (I.base.free b o z n (by simp [cxX, cxOf])) fun hm => ?_
    rw [frm] at hm
    rcases List.mem_cons.mp hm with z' | z'
    · exact I.notHere z z'
    · exact hb z'
  · obtain ⟨sl, z1⟩ := I.base.slot b o z n hb (by simp [cxX, cxOf])
    obtain ⟨_, ob, zo, nd⟩ := I.ok.funs.mem hb
    have eo : ob = o := by
      have z3 : s₀.heap.get? b = some ob := zo
      rw [z] at z3; exact (Option.some.inj z3).symm
    subst eo
    obtain ⟨sl2, z2⟩ := L.slot b _ z1 (I.base.free b _ z n (by simp [cxX, cxOf])) (by rw [frm]; exact List.mem_cons_of_mem _ hb)
    obtain ⟨sl3, z3⟩ := u2 b _ z2 nd
    obtain ⟨sl4, z4⟩ := u3 b _ z3 nd
    exact ⟨sl4, z4⟩
  · obtain ⟨o', z'⟩ := I.base.there b o z (by simp [cxX, cxOf])
    exact L.free b o' z' (I.base.free b o z n (by simp [cxX, cxOf]))
  · obtain ⟨o', z'⟩ := I.base.there b o z (by simp [cxX, cxOf])
    refine L.there b o' z' fun hm => ?_
    rw [frm] at hm
    rcases List.mem_cons.mp hm with z' | z'
    · exact I.notHere z z'
    · exact hb z'
  · obtain ⟨m1, e1⟩ := I.base.tbls b ps z
    obtain ⟨m2, e2⟩ := L.tbls b _ e1
    exact ⟨m1 ++ m2, by rw [e2, Array.append_assoc]⟩
/-- THE RULE for a def that may raise -/
theorem Fun.okX {x : Str} {st : Stmt} {fd : FuncData} {ps : List Str} {k : Nat} {sp : Sp} (F : Fun K x qual st f fd) (S : FnScope N ps (defScope st)) (len : ∀ vs H Q E, sp vs H Q E → vs.length = ps.length)
    (hbody : ∀ (cdv : Value) (A : Around) (outer : List Env) (s : Shared) (H : Hp) (vs : List V) (Q : VK) (E : XK), Room k (A.deeper (envOfC qual (defScope st) s.heap.objs.size f cdv)) → sp vs H Q E →
      ∃ t, PSs (cxX P w K mg base N qual (defScope st) f cdv A outer s H E) (defBody st) t ∧ t { nx := fun _ H' => Q .non H', rt := Q } (start N vs) H) : FnOk P w K mg base (CX1 P w) (k + 1) f fd ps sp := by
  obtain ⟨oc, od, kV, doc, pm, an, cdv, ct, osl, rfl, lk, hcd⟩ := F.ex
  exact fn_of lk hcd S len fun A outer s H vs Q E hr hsp => hbody cdv A outer s H vs Q E hr hsp
end
/-! ### raise C(e) -/
section
variable {X : Cx} {x : Str} {C : Addr} {e : Expr} {te : TE} {np cpos pos : Pos} {E : XK}
/-- what is raised here is as E wants it -/
def RaisesTo (X : Cx) (E : XK) : Prop := ∀ (pins : List (Addr × Obj)) (σ : St) (H : Hp) (s : Shared) (h1 : Heap) (e C : Addr) (vs : List Value), Inv X pins σ H s → s.heap.MadeExcOf h1 e (.ref C) vs → E (.ref C) none H → X.xe (.ref e) { s with heap := h1 }
def tRaise (C : Addr) (E : XK) (te : TE) : TS := fun _ σ H => tCons te tNil σ H fun vs H1 => vs.length = 1 ∧ E (.ref C) none H1
theorem ps_raise (hx : RaisesTo X E) (hc : X.calm = true) (hg : Gl X x) (hm : X.mg x = some (.ref C)) (xc : PySem.W.excIn X.K C vErr "ValueError.__new__" = true) (he : PE X e te) (hd : (x == ("__debug__" : Str)) = false := by decide)
    (hpl : ((backTo cpos (starEach [e] X.env)).any fun x => x.fst) = false := by rfl) (hst : starEach [e] X.env = (false, eval e X.env) :: starEach [] X.env := by rfl) :
    PS X (.Raise (some (.Call (.Name x np) [e] [] cpos)) none pos) (tRaise C E te) := by
  intro pins s σ H D I h
  obtain ⟨nm, q, N, bs, bm, hdct, sn, sub, ab, col, dd, k0, k1, k2, k3, k5, mN, hob, hns, hin, htl⟩ := (exc_of_in I.mod.kin xc).ex
  refine wpAny_Raise_call_subU (nm := nm) (q := q) (N := N) (bs := bs) (hdct := hdct) (sn := sn) (sub := sub) (ab := ab) (col := col) (dd := dd) (k0 := k0) (k1 := k1) (k2 := k2) (k3 := k3) (k5 := k5) (bm := bm) (bmB := vErr) (bmN := vErr) F.excBase_ValueError rfl F.excBase_ValueError (OwnTail.hasType htl rfl) (I.ok.hd hc) hpl hin (ld_glob I hg hm ⟨rfl, ?_⟩ hd)
  have pa : PA X [e] (tCons te tNil) := pa_cons he pa_nil hst
  have go := pa cpos pins s σ H (fun vs H1 => vs.length = 1 ∧ E (.ref C) none H1) I h
  rw [hst] at go ⊢
  refine Calls.evalArgs_plain (thn go fun us s2 ⟨vs, H2, I2, r2, ql, q2⟩ => ⟨rfl, ?_, I2.bk _ _ hob, hns.keeps I2.bk, htl.keeps I2.bk, fun h1 ea m => hx pins σ H2 s2 h1 ea C _ I2 m q2⟩)
  have := r2.length
  have hsl : 1 ≤ sizeLine := by decide
  show us.length ≤ sizeLine
  omega
end
end L2

end
section
set_option maxHeartbeats 3999000
namespace L2
open PySem PySem.Spec PyProof.Rows
/-! ### judgements at known names (within a try: the names at the exception are those at its entry) -/
def PEat (X : Cx) (pins : List (Addr × Obj)) (σ : St) (e : Expr) (t : TE) : Prop := ∀ (s : Shared) (H : Hp) (Q : VK), Inv X pins σ H s → t σ H Q → wpAny (model X.prog X.w) X.A (eval e X.env) (EP X pins σ Q) X.xe s
def PSat (X : Cx) (pins : List (Addr × Obj)) (σ : St) (st : Stmt) (t : TS) : Prop := ∀ (s : Shared) (H : Hp) (D : Ends), Inv X pins σ H s → t D σ H → wpAny (model X.prog X.w) X.A (exec st X.env) (SP X pins D) X.xe s
def PSsat (X : Cx) (pins : List (Addr × Obj)) (σ : St) (st : List Stmt) (t : TS) : Prop := ∀ (s : Shared) (H : Hp) (D : Ends), Inv X pins σ H s → t D σ H → wpAny (model X.prog X.w) X.A (execs st X.env) (SP X pins D) X.xe s
def PassesAt (CX : CXT) (X : Cx) (pins : List (Addr × Obj)) (σ : St) (E : XK) : Prop := ∀ (H : Hp) (s : Shared) (e : Value) (s' : Shared), Inv X pins σ H s → CX X.stack H s E e s' → X.xe e s'
section
variable {X : Cx} {pins : List (Addr × Obj)} {σ : St} {CX : CXT} {k : Nat} {f C : Addr} {fd : FuncData} {ps : List Str} {sp : Sp} {dvs : List V} {ds : List Value} {E : XK} {x m : Str} {p pos apos : Pos} {e o : Expr} {es : List Expr} {ta te : TE} {t : TA}
theorem run_fn_at {H : Hp} {s : Shared} {Q : VK} {us : List Value} {vs : List V} (F : FnOk X.prog X.w X.K X.mg X.base CX k f fd ps sp) (hr : Room k X.A) (hb : Binds X.K fd ps ds) (hd : Vals dvs ds) (hx : PassesAt CX X pins σ E)
    (I : Inv X pins σ H s) (r : Vals vs us) (h : sp (vs ++ dvs) H Q E) : wpAny (model X.prog X.w) X.A (call (.ref f) us) (EP X pins σ Q) X.xe s := by
  have r2 : Vals (vs ++ dvs) (us ++ ds) := r.append hd
  have hl : (us ++ ds).length = ps.length := by rw [← r2.length]; exact F.len _ _ _ _ h
  refine wpAny_call (codeAny_mono (F.run X.A X.stack s H ⟨us, []⟩ (us ++ ds) (vs ++ dvs) Q E hr I.env0 (hb s us I.kIn hl) r2 h) fun r s' hq => ?_)
  cases r with
  | error e => exact hx H s e s' I hq
  | ok fl =>
    cases fl with
    | ret u => exact I.after hq
    | next => exact False.elim hq
    | brk => exact False.elim hq
    | cont => exact False.elim hq
theorem pe_call_at (F : FnOk X.prog X.w X.K X.mg X.base CX k f fd ps sp) (hr : Room k X.A) (hg : Gl X x) (hm : X.mg x = some (.ref f)) (hk : PySem.W.keepIn X.K (.ref f) = true) (hb : Binds X.K fd ps ds) (hd : Vals dvs ds) (hx : PassesAt CX X pins σ E)
    (ha : PA X (e :: es) t) (hdb : (x == ("__debug__" : Str)) = false := by decide) (he : starEach (e :: es) X.env = (false, eval e X.env) :: starEach es X.env := by rfl) (hpl : (backTo pos (starEach es X.env)).any (·.1) = false := by rfl) :
    PEat X pins σ (.Call (.Name x p) (e :: es) [] pos) (tCall sp dvs E t) := by
  intro s H Q I h
  refine wpAny_Call_Name_kw (ld_glob I hg hm ?_ hdb)
  refine PySem.W.callWith_K (h₀ := X.base) I.ok.mod.kin hk (thn (ha pos pins s σ H _ I h) fun us s1 ⟨vs, H1, I1, r, q⟩ => ⟨I1.kIn, ?_⟩) he hpl
  exact run_fn_at F hr hb hd hx I1 r q
theorem ps_set_at {i : Nat} {pos' : Pos} (hN : X.N.Nodup) (hi : X.N[i]? = some x) (hx : Loc X.env.scope x) (he : PEat X pins σ e te) (hs : swapsWith e (some (.Name x pos')) pos.line X.env = pure false := by rfl) (hf : X.fn x = true ∨ X.env.scope.names.lookup x = some .local := by first | exact .inl rfl | exact .inr rfl | assumption) :
    PSat X pins σ (.Assign [.Name x pos'] e pos) (tAsg te (gName i)) := by
  intro s H D I h
  refine wpAny_Assign_Name (thn (he s H _ I h) fun v s1 ⟨y, H1, I1, r1, q1⟩ => ?_) hs
  exact store_ok I1 hN hi hx r1 (fun s2 I2 => ⟨_, H1, I2, q1⟩) hf
theorem pss_one_at {st : Stmt} {ts : TS} (h : PSat X pins σ st ts) : PSsat X pins σ [st] ts := by
  intro s H D I h1
  refine wpAny_execs_cons (thn (h s H D I h1) fun f s1 q => ?_)
  cases f with
  | next => exact wpAny_execs_nil q
  | ret v => exact q
  | brk => exact q
  | cont => exact q
end
/-! ### a name unbound -/
section
variable {X : Cx} {σ : St} {H : Hp} {s : Shared} {pins : List (Addr × Obj)}
theorem unbind_ok {M : Model} {A : Around} {E : Value → Shared → Prop} {i : Nat} {x : Str} {v : V} {Q : Unit → Shared → Prop} (I : Inv X pins σ H s) (hN : X.N.Nodup) (hi : X.N[i]? = some x) (hk : X.env.scope.names.lookup x = some .local) (hv : σ[i]? = some (some v))
    (h : ∀ s', Inv X pins (σ.set i none) H s' → Q () s') : wpAny M A (unbindName X.env x) Q E s := by
  obtain ⟨m, hn, hl⟩ := id I.loc
  have hcls : (X.env.scope.kind == .class || (X.env.scope.kind == .module && X.env.locals != X.env.globals)) = false := by rw [I.ok.kind]; rfl
  have hiσ : i < σ.length := by rw [I.len]; exact (List.getElem?_eq_some_iff.mp hi).1
  have cne := I.cne
  obtain ⟨u, r, lk⟩ := hl i x v hi hv (.inl hk)
  have hm : m x = some u := by
    rcases lk with ⟨_, z⟩ | ⟨z, _⟩
    · exact z
    · have z : X.env.scope.names.lookup x = some .cell ∨ X.env.scope.names.lookup x = some .free := z
      rw [hk] at z
      rcases z with z | z <;> cases z
  refine wpAny_unbindName_local hk hn hm hcls fun h' u' hn' hs => ?_
  obtain ⟨oL, _, _, hoL, _⟩ := id hn
  refine h _ ⟨I.ok, I.os, I.bare, ⟨fun b o e n hb hx => ?_, fun b o e n hb hx => ?_, I.base.free, fun b o e hx => ?_, I.base.tups, I.base.frzs, I.base.tbls⟩, ⟨_, hn', fun j y v' e1 e2 e3 => ?_⟩, fun y c e => ?_, I.free, I.freeC, fun p hp => ?_, fun b ob e => ?_, by simpa using I.len⟩
  · exact (hs.2 b (Nat.ne_of_lt (Nat.lt_of_lt_of_le (Heap.lt_size e) I.ok.above))).trans (I.base.keep b o e n hb hx)
  · obtain ⟨sl, e1⟩ := I.base.slot b o e n hb hx
    exact ⟨sl, (hs.2 b (Nat.ne_of_lt (Nat.lt_of_lt_of_le (Heap.lt_size e) I.ok.above))).trans e1⟩
  · obtain ⟨o', e1⟩ := I.base.there b o e hx
    exact ⟨o', (hs.2 b (Nat.ne_of_lt (Nat.lt_of_lt_of_le (Heap.lt_size e) I.ok.above))).trans e1⟩
  · by_cases hj : j = i
    · subst hj
      rw [List.getElem?_set_self hiσ] at e2
      cases e2
    · rw [List.getElem?_set_ne (Ne.symm hj)] at e2
      obtain ⟨u', r', q⟩ := hl j y v' e1 e2 e3
      refine ⟨u', r', ?_⟩
      rcases q with ⟨k, e⟩ | ⟨k, c, e, z⟩
      · refine .inl ⟨k, ?_⟩
        have : y ≠ x := fun e => hj (nodup_ix hN e1 (e ▸ hi))
        simp [this, e]
      · exact .inr ⟨k, c, e, z.sameBut hs (cne y c e)⟩
  · obtain ⟨w', z⟩ := I.cell y c e
    exact ⟨w', z.sameBut hs (cne y c e)⟩
  · obtain ⟨e, n, ne, nf, d⟩ := I.pin p hp
    exact ⟨(hs.2 p.1 ne).trans e, n, ne, nf, d⟩
  · refine (I.hok b ob e).stay (fun c w' hc q => (hs.2 c ?_).trans q) (fun _ q => q) fun _ _ q => q
    rintro rfl
    rcases hc with rfl | hc
    · rw [I.free] at e; cases e
    · rw [I.free] at hc; cases hc
/-- something that lies untracked is tracked from here on -/
theorem Inv.trackX {a : Addr} {o : HO} (I : Inv X pins σ H s) (hn : H a = none) (h0 : X.s₀.heap.get? a = none) (hL : a ≠ X.env.locals) (hc : ∀ x c, X.env.cells.lookup x = some c → c ≠ a) (hp : ∀ p ∈ X.pn ++ pins, p.1 ≠ a) (new : ObjOk X.prog X.w (upd H a o) s.heap a o) :
    Inv X pins σ (upd H a o) s := by
  have hok : HOk X.prog X.w (upd H a o) s.heap := fun b u e => by
    by_cases hb : b = a
    · subst hb
      rw [upd_same] at e
      cases e
      exact new
    · rw [upd_ne hb] at e
      exact (I.hok b u e).stay (fun c v _ q => q) (fun c q => by rw [upd_ne (ne_of_none q hn)]; exact q) fun c xs q => by rw [upd_ne (ne_of_none q hn)]; exact q
  refine ⟨I.ok, I.os, I.bare, ⟨I.base.keep, I.base.slot, fun b u e n hx => ?_, I.base.there, fun b xs e => ?_, fun b u xs e => ?_, fun b ps e => ?_⟩, I.loc, I.cell, ?_, fun x c e => ?_, fun p hpp => ?_, hok, I.len⟩
  · rw [upd_ne (fun z => by rw [z, h0] at e; cases e)]
    exact I.base.free b u e n hx
  · have := I.base.tups b xs e
    rw [upd_ne (ne_of_none this hn)]; exact this
  · have := I.base.frzs b u xs e
    rw [upd_ne (ne_of_none this hn)]; exact this
  · obtain ⟨m1, this⟩ := I.base.tbls b ps e
    exact ⟨m1, by rw [upd_ne (ne_of_none this hn)]; exact this⟩
  · rw [upd_ne (Ne.symm hL)]; exact I.free
  · rw [upd_ne (hc x c e)]; exact I.freeC x c e
  · obtain ⟨e, n, ne, nf, d⟩ := I.pin p hpp
    exact ⟨e, by rw [upd_ne (hp p hpp)]; exact n, ne, nf, d⟩
end
/-! ### within an except suite -/
abbrev Cx.inExc (X : Cx) (e : Addr) : Cx := { X with A := X.A.mark (some (.ref e)), calm := false, xe := fun _ _ => False }
section
variable {X : Cx} {pins : List (Addr × Obj)} {σ : St} {H : Hp} {s : Shared} {e : Addr}
theorem Cx.Ok.inExc (ok : X.Ok) (e : Addr) : (X.inExc e).Ok :=
  ⟨ok.mod, ok.kind, ok.glob, ok.blt, ok.above, ok.inj, ok.has, ok.cab, fun z => (by cases z), ok.frames, ok.stk, ok.exf, ok.bs, ok.bsz, ok.noex, ok.exfs, ok.funs, ok.frf⟩
theorem Inv.inExc (I : Inv X pins σ H s) (e : Addr) : Inv (X.inExc e) pins σ H s := ⟨I.ok.inExc e, I.os, I.bare, I.base, I.loc, I.cell, I.free, I.freeC, I.pin, I.hok, I.len⟩
theorem Inv.outExc (I : Inv (X.inExc e) pins σ H s) (ok : X.Ok) : Inv X pins σ H s := ⟨ok, I.os, I.bare, I.base, I.loc, I.cell, I.free, I.freeC, I.pin, I.hok, I.len⟩
/-- except S, e of a class below S -/
theorem exc_matches {M : Model} {A : Around} {E : Value → Shared → Prop} {h : Heap} {g : Array GenState} {d : Drawn} {tk : Nat} {os : OsState} {K : PySem.W.Frag} {C S : Addr} {Q : Bool → Shared → Prop} (X : K.In h) (he : ∃ o, h.get? e = some o ∧ o.cls = .ref C) (hk : PySem.W.kitCls K (.ref C) (.ref S) = some true)
    (hs : PySem.W.mroIn K S (.type "BaseException") = some true) (q : Q true ⟨h, g, d, tk, os⟩) : wpAny M A (excMatches (.ref e) (.ref S)) Q E ⟨h, g, d, tk, os⟩ := by
  obtain ⟨l1, l2, l3⟩ := PySem.W.kit_cls (M := M) X hk
  unfold excMatches isInstance
  refine wpAny_bind (wpAny_bind (l1.at ?_))
  rw [tc_notTuple]
  refine wpAny_pure (wpAny_ite_false rfl (wpAny_bind (wpAny_pure ?_)))
  dsimp only
  simp only [List.forIn_cons, List.forIn_nil]; refine wpAny_bind (wpAny_bind (wpAny_bind ?_))
  unfold isExcClass
  refine wpAny_bind (l2.at (wpAny_ite_true rfl ((PySem.W.looks_mroIn X hs).at ?_)))
  refine wpAny_ite_false rfl (wpAny_pure (wpAny_pure ?_))
  refine wpAny_bind ((exc_type he M).at ?_)
  refine wpAny_bind (wpAny_bind (wpAny_bind (l3.at (wpAny_ite_true rfl (wpAny_pure (wpAny_pure ?_))))))
  exact wpAny_pure q
end
end L2

end
section
set_option maxHeartbeats 3999000
namespace L2
open PySem PySem.Spec PyProof.Rows
/-! ### try: .. except S as n: .. -/
def Ends.but (D : Ends) (i : Nat) : Ends := { nx := fun σ H => D.nx (σ.set i none) H, rt := D.rt, bk := fun σ H => D.bk (σ.set i none) H, ct := fun σ H => D.ct (σ.set i none) H }
def tTry (K : PySem.W.Frag) (S : Addr) (i : Nat) (tb : XK → TS) (th : TS) : TS := fun D σ H =>
  tb (fun cls _ H' => ∃ C, cls = .ref C ∧ PySem.W.kitCls K (.ref C) (.ref S) = some true ∧ ∀ e, H' e = none → th (D.but i) (σ.set i (some (.ref e))) (upd H' e (ExcO e C))) D σ H
section
variable {X : Cx} {x n : Str} {S : Addr} {i : Nat} {body suite : List Stmt} {b₀ : Stmt} {tb : XK → TS} {th : TS} {np hpos pos : Pos}
theorem ps_try (hex : X.ex = []) (hstk : X.stack = X.env :: X.outer) (hfr : X.env.frame = some X.env.locals) (hg : Gl X x) (hm : X.mg x = some (.ref S)) (hS : PySem.W.mroIn X.K S (.type "BaseException") = some true)
    (hN : X.N.Nodup) (hi : X.N[i]? = some n) (hk : X.env.scope.names.lookup n = some .local)
    (hb : ∀ (xe : Value → Shared → Prop) (pins : List (Addr × Obj)) (σ : St) (E : XK), PassesAt (CX1 X.prog X.w) (X.wish xe) pins σ E → PSsat (X.wish xe) pins σ body (tb E))
    (hh : ∀ e : Addr, PSs (X.inExc e) (b₀ :: suite) th) (hd : (x == ("__debug__" : Str)) = false := by decide) :
    PS X (.Try body [.ExceptHandler (some (.Name x np)) (some n) (b₀ :: suite) hpos] [] [] pos) (tTry X.K S i tb th) := by
  intro pins s σ H D I h
  refine wpAny_Try_except ?_
  refine wpAny_mono (hb (fun ev s1 => wpAny (model X.prog X.w) X.A (noteFrame ev X.env) (fun _ s₂ => wpAny (model X.prog X.w) X.A (setFlight ev none) (fun _ s₃ => wpAny (model X.prog X.w) X.A (handleBy ev X.env [ExceptHandler.ExceptHandler (some (Expr.Name x np)) (some n) (b₀ :: suite) hpos]) (SP X pins D) X.xe s₃) X.xe s₂) X.xe s1) pins σ _ ?_ s H D (I.wish _) h) (fun f s1 q => ?_) fun ev s1 z => z
  · -- an exception
    intro H1 s1 ev s2 I1 hq
    have I1 := I1.unwish
    obtain ⟨e, C, H', B, rfl, os, bare, L, C', hC, hcl, q⟩ := hq
    cases hC
    obtain ⟨t, fl⟩ := L.fly
    have frs_free : ∀ b ∈ frs X.stack, H1 b = none := I1.stkFree
    show wpAny _ _ (noteFrame _ _) _ _ _
    have fl0 : B.FlyingW (X.env :: X.outer) e (.ref C) t s2.heap := by rw [← hstk]; exact fl
    refine wpAny_looks_onW (base := B) (outer := X.outer) (by rw [← hstk]; exact I1.ok.frames) hfr fl0 fun h2 held u2 => ?_
    refine wpAny_landsW held fun h3 fl3 u3 => ?_
    -- the state behind it
    have st3 : ∀ (h4 : Heap), B.FlyingW (X.env :: X.outer) e (.ref C) t h4 → s2.heap.UpToSlots h4 → ∀ (tk : Nat), Inv X pins σ H' ⟨h4, s2.gens, s2.drawn, tk, s2.os⟩ := by
      intro h4 fl4 u4 tk
      refine I1.call' (s' := ⟨h4, s2.gens, s2.drawn, tk, s2.os⟩) (ch := []) os ?_ (L.hok.kept fl4.1) bare (fun b z => absurd z (by simp))
      have U := L.un frs_free
      refine ⟨fun b o z nn hb _ => fl4.1 _ _ (L.keep b o z nn hb), fun b o z nn hb _ => ?_, U.free, fun b o z _ => ?_, L.tups, L.frzs, L.tbls⟩
      · obtain ⟨sl, z1⟩ := L.slot b o z nn hb
        obtain ⟨_, ob, zo, nd⟩ := I1.stack.mem hb
        rw [z] at zo
        cases zo
        obtain ⟨sl2, z2⟩ := u4 b _ z1 nd
        exact ⟨sl2, z2⟩
      · by_cases hb : b ∈ frs X.stack
        · obtain ⟨sl, z1⟩ := L.slot b o z (frs_free b hb) hb
          obtain ⟨_, ob, zo, nd⟩ := I1.stack.mem hb
          rw [z] at zo
          cases zo
          obtain ⟨sl2, z2⟩ := u4 b _ z1 nd
          exact ⟨_, z2⟩
        · obtain ⟨o', z1⟩ := L.there b o z hb
          exact ⟨o', fl4.1 _ _ z1⟩
    have I3 := st3 h3 fl3 (u2.trans u3) s2.toks
    refine wpAny_handleBy_cons (codeAny_handlers_test ?_) (by intro z; cases z)
    refine ld_glob (X := X.inExc e) (I3.inExc e) hg hm ?_ hd
    refine exc_matches I3.kIn fl3.there hcl hS ?_
    rw [if_pos rfl]
    refine codeAny_handlers_suite_as ?_; refine PyProof.Rows.lands_againW fl3 fun h4 fl4 u4 => ?_
    have I4 := st3 h4 fl4 ((u2.trans u3).trans u4) s2.toks
    have ne : H' e = none := L.fresh
    have e0 : X.s₀.heap.get? e = none := by
      cases z : X.s₀.heap.get? e with
      | none => rfl
      | some o =>
        obtain ⟨o', z'⟩ := I1.base.there e o z (by rw [hex]; simp)
        rw [L.new] at z'; cases z'
    have I5 : Inv X pins σ (upd H' e (ExcO e C)) ⟨h4, s2.gens, s2.drawn, s2.toks, s2.os⟩ := by
      refine I4.trackX ne e0 (fun z => ?_) (fun y c hc z => ?_) (fun p hp z => ?_) ?_
      · obtain ⟨m, ⟨o, _, _, ho, _⟩, _⟩ := I1.loc
        rw [← z, L.new] at ho
        cases ho
      · obtain ⟨v, o, ho, _⟩ := I1.cell y c hc
        rw [z, L.new] at ho
        cases ho
      · have := (I1.pin p hp).1
        rw [z, L.new] at this
        cases this
      · obtain ⟨ob, ho, hcls⟩ := fl4.there
        exact ⟨⟨ob, ho, hcls⟩, ⟨ob, ho⟩, fun h1 h2 ⟨o, z, c⟩ k => ⟨o, k o z, c⟩⟩
    refine store_ok (X := X.inExc e) (v := .ref e) (I5.inExc e) hN hi (.inl hk) rfl (fun s6 I6 => ?_) (.inr hk)
    refine wpAny_mono (hh e pins s6 _ _ (D.but i) I6 (q e ne)) (fun f s7 q7 => ?_) fun _ _ z => z.elim
    -- behind the suite: the name is unbound
    have fin : ∀ {σ' : St} {H7 : Hp} {R : Shared → Prop}, Inv (X.inExc e) pins σ' H7 s7 → (∀ s8, Inv X pins (σ'.set i none) H7 s8 → R s8) → wpAny (model X.prog X.w) X.A (do bindName X.env n Value.none; unbindBehindTheSuite X.env n hpos) (fun _ s8 => R s8) X.xe s7 := by
      intro σ' H7 R I7 hR
      have I7 := I7.outExc I.ok
      refine wpAny_bind (wpAny_bindName (store_ok (v := .non) I7 hN hi (.inl hk) rfl (fun s8 I8 => ?_) (.inr hk)))
      unfold unbindBehindTheSuite
      refine wpAny_onRaise ?_
      have hil : i < σ'.length := by rw [I7.len]; exact (List.getElem?_eq_some_iff.mp hi).1
      refine unbind_ok (v := .non) I8 hN hi hk (by rw [List.getElem?_set_self hil]) fun s9 I9 => hR s9 ?_
      rw [List.set_set] at I9
      exact I9
    cases f with
    | next =>
      obtain ⟨σ', H7, I7, q8⟩ := q7
      exact fin I7 fun s8 I8 => ⟨_, _, I8, q8⟩
    | brk =>
      obtain ⟨σ', H7, I7, q8⟩ := q7
      exact fin I7 fun s8 I8 => ⟨_, _, I8, q8⟩
    | cont =>
      obtain ⟨σ', H7, I7, q8⟩ := q7
      exact fin I7 fun s8 I8 => ⟨_, _, I8, q8⟩
    | ret v =>
      obtain ⟨u, σ', H7, I7, r, q8⟩ := q7
      exact fin I7 fun s8 I8 => ⟨u, _, _, I8, r, q8⟩
  · cases f with
    | next => exact wpAny_execs_nil (SP.unwish q)
    | ret v => exact SP.unwish q
    | brk => exact SP.unwish q
    | cont => exact SP.unwish q
end
end L2

end
section
set_option maxHeartbeats 3999000
namespace L2
open PySem PySem.Spec PyProof.Rows
/-! ### a def called within an except suite -/
structure RoomH (k : Nat) (A : Around) : Prop where
  dp : A.depth + 3 * k + 5 < recursionLimit
  un : A.units + 16 * k + 200 < cLine
theorem RoomH.of {k : Nat} {A : Around} {e : Addr} (r : Room k A) : RoomH k (A.mark (some (.ref e))) := ⟨r.dp, r.un⟩
theorem RoomH.deeper {k : Nat} {A : Around} (r : RoomH (k + 1) A) (env : Env) : RoomH k (A.deeper env) :=
  ⟨by have := r.dp; show A.depth + 1 + 3 * k + 5 < _; omega, by have := r.un; show A.units + 3 + 16 * k + 200 < _; omega⟩
structure FnOkH (P : Program) (w : World) (K : PySem.W.Frag) (mg : Str → Option Value) (base : Heap) (k : Nat) (f : Addr) (fd : FuncData) (ps : List Str) (sp : Sp) : Prop where
  len : ∀ vs H Q E, sp vs H Q E → vs.length = ps.length
  run : ∀ (A : Around) (outer : List Env) (s : Shared) (H : Hp) (args : Args) (us : List Value) (vs : List V) (Q : VK) (E : XK), RoomH k A → Env0 P w K mg base A outer s H → BindsTo s fd args (ps.zip us) → Vals vs us → sp vs H Q E →
    codeAny (model P w) A (.call (.ref f) args) (CR CX0 outer P w H s Q E) s
/-- a def's body there -/
abbrev cxH (P : Program) (w : World) (K : PySem.W.Frag) (mg : Str → Option Value) (base : Heap) (N : List Str) (qual : Str) (scope : Scope) (f : Addr) (cd : Value) (A : Around) (outer : List Env) (s : Shared) (H : Hp) (E : XK) : Cx :=
  { cxOf CX0 P w K mg base N qual scope f cd A outer s H E with calm := false, xe := fun _ _ => False }
section
variable {P : Program} {w : World} {K : PySem.W.Frag} {mg : Str → Option Value} {base : Heap}
theorem fn_ofH {k : Nat} {f : Addr} {name qual : Str} {params : Arguments} {body : List Stmt} {scope : Scope} {dV kV doc pm cdv ct oc : Value} {an od : Option Addr}
    {osl : Array (Option Value)} {N ps : List Str} {sp : Sp} (lk : K.lookup f = some ⟨oc, od, .func (PySem.W.fnOf name qual params body scope dV kV doc pm an cdv ct), osl⟩) (hcd : PySem.W.codeIn K cdv qual = true) (S : FnScope N ps scope)
    (len : ∀ vs H Q E, sp vs H Q E → vs.length = ps.length)
    (hbody : ∀ (A : Around) (outer : List Env) (s : Shared) (H : Hp) (vs : List V) (Q : VK) (E : XK), RoomH k (A.deeper (envOfC qual scope s.heap.objs.size f cdv)) → sp vs H Q E →
      ∃ t, PSs (cxH P w K mg base N qual scope f cdv A outer s H E) body t ∧ t { nx := fun _ H' => Q .non H', rt := Q } (start N vs) H) :
    FnOkH P w K mg base (k + 1) f (PySem.W.fnOf name qual params body scope dV kV doc pm an cdv ct) ps sp := by
  refine ⟨len, fun A outer s H args us vs Q E hr e0 hb r hsp => ?_⟩
  have hl := len _ _ _ _ hsp
  have KX : K.In s.heap := e0.mod.kin.keeps fun b o e => (e0.bs b o e).1
  have lim : s.heap.NoLimit := e0.mod.nolimit.keeps fun b o e => (e0.bs b o e).1
  have hkind : ∀ y ∈ ps.zip us, scope.names.lookup y.1 = some .local ∨ (scope.names.lookup y.1 = some .cell ∧ ((cellsFrom (s.heap.objs.size + 1) scope.names []).lookup y.1).isSome = true) := fun ⟨n, v⟩ hy => by
    rcases S.par n (List.of_mem_zip hy).1 with q | q
    · exact .inl q
    · exact .inr ⟨q, PySem.W.cellsFrom_some _ _ _ (.inl q)⟩
  refine codeAny_call_function (by have := hr.dp; omega) (KX _ _ lk) rfl S.co S.gen rfl (PySem.W.codeRec_of KX hcd) (hb _ _ _ _ ?_)
  refine wpAny_newFunctionEnv_cells S.kind hkind fun env he s1 x => ?_
  subst he
  refine ⟨lim.keeps x.toInCall.keep, codeAny_func ?_⟩
  obtain ⟨t, ht, hq⟩ := hbody A outer s H vs Q E (hr.deeper _) hsp
  have e1 : Env0 P w K mg base { A with handled := none } outer s H := ⟨e0.frames, e0.mod, e0.bs, e0.bsz, e0.funs, e0.frf, e0.hok, e0.bare⟩
  have I0 : Inv (cxOf CX0 P w K mg base N qual scope f cdv { A with handled := none } outer s H E) [] (start N vs) H s1 := inv_start S rfl e1 hl r x
  have I : Inv (cxH P w K mg base N qual scope f cdv A outer s H E) [] (start N vs) H s1 :=
    ⟨⟨I0.ok.mod, I0.ok.kind, I0.ok.glob, I0.ok.blt, I0.ok.above, I0.ok.inj, I0.ok.has, I0.ok.cab, fun z => (by cases z), I0.ok.frames, I0.ok.stk, I0.ok.exf, I0.ok.bs, I0.ok.bsz, I0.ok.noex, I0.ok.exfs, I0.ok.funs, I0.ok.frf⟩, I0.os, I0.bare, I0.base, I0.loc, I0.cell, I0.free, I0.freeC, I0.pin, I0.hok, I0.len⟩
  refine wpAny_mono (ht [] s1 (start N vs) H _ I hq) (fun fl s' hs => ?_) fun e s' hs => hs.elim
  have fin : ∀ {σ' : St} {H' : Hp} {v : V} {u : Value}, Inv (cxH P w K mg base N qual scope f cdv A outer s H E) [] σ' H' s' → RelV v u → Q v H' → CE outer P w H s Q u s' :=
    fun {σ' H' v u} J rv q => ⟨v, H', J.os, J.bare, J.base, J.hok, rv, q⟩
  cases fl with
  | ret u =>
    obtain ⟨v, σ', H', J, rv, q⟩ := hs
    exact fin J rv q
  | next =>
    obtain ⟨σ', H', J, q⟩ := hs
    exact fin (v := V.non) (u := Value.none) J rfl q
  | brk =>
    obtain ⟨_, _, _, q⟩ := hs
    exact False.elim q
  | cont =>
    obtain ⟨_, _, _, q⟩ := hs
    exact False.elim q
theorem Fun.okH {x qual : Str} {st : Stmt} {f : Addr} {fd : FuncData} {N ps : List Str} {k : Nat} {sp : Sp} (F : Fun K x qual st f fd) (S : FnScope N ps (defScope st)) (len : ∀ vs H Q E, sp vs H Q E → vs.length = ps.length)
    (hbody : ∀ (cdv : Value) (A : Around) (outer : List Env) (s : Shared) (H : Hp) (vs : List V) (Q : VK) (E : XK), RoomH k (A.deeper (envOfC qual (defScope st) s.heap.objs.size f cdv)) → sp vs H Q E →
      ∃ t, PSs (cxH P w K mg base N qual (defScope st) f cdv A outer s H E) (defBody st) t ∧ t { nx := fun _ H' => Q .non H', rt := Q } (start N vs) H) : FnOkH P w K mg base (k + 1) f fd ps sp := by
  obtain ⟨oc, od, kV, doc, pm, an, cdv, ct, osl, rfl, lk, hcd⟩ := F.ex
  exact fn_ofH lk hcd S len fun A outer s H vs Q E hr hsp => hbody cdv A outer s H vs Q E hr hsp
end
section
variable {X : Cx} {k : Nat} {f : Addr} {fd : FuncData} {ps : List Str} {sp : Sp} {x : Str} {p pos : Pos} {e : Expr} {es : List Expr} {t : TA}
theorem pe_callH (F : FnOkH X.prog X.w X.K X.mg X.base k f fd ps sp) (hr : RoomH k X.A) (hg : Gl X x) (hm : X.mg x = some (.ref f)) (hk : PySem.W.keepIn X.K (.ref f) = true) (hb : Binds X.K fd ps [])
    (ha : PA X (e :: es) t) (hdb : (x == ("__debug__" : Str)) = false := by decide) (he : starEach (e :: es) X.env = (false, eval e X.env) :: starEach es X.env := by rfl) (hpl : (backTo pos (starEach es X.env)).any (·.1) = false := by rfl) :
    PE X (.Call (.Name x p) (e :: es) [] pos) (tCall sp [] E0 t) := by
  intro pins s σ H Q I h
  refine wpAny_Call_Name_kw (ld_glob I hg hm ?_ hdb)
  refine PySem.W.callWith_K (h₀ := X.base) I.ok.mod.kin hk (thn (ha pos pins s σ H _ I h) fun us s1 ⟨vs, H1, I1, r, q⟩ => ⟨I1.kIn, ?_⟩) he hpl
  have r2 : Vals (vs ++ []) (us ++ []) := r.append .nil
  have hl : (us ++ []).length = ps.length := by rw [← r2.length]; exact F.len _ _ _ _ q
  refine wpAny_call (codeAny_mono (F.run X.A X.stack s1 H1 ⟨us, []⟩ (us ++ []) (vs ++ []) Q E0 hr I1.env0 (hb s1 us I1.kIn hl) r2 q) fun r s' hq => ?_)
  cases r with
  | error e => exact hq.elim
  | ok fl =>
    cases fl with
    | ret u => exact I1.after hq
    | next => exact False.elim hq
    | brk => exact False.elim hq
    | cont => exact False.elim hq
end
end L2

end
section
set_option maxHeartbeats 3999000
namespace L2
open PySem PySem.Spec PyProof.Rows
/-! ### xs.count(b), xs.index(b) of truths -/
theorem vals_bools : ∀ {bs : List Bool} {us : List Value}, Vals (bs.map V.bl) us → us = bs.map Value.bool
  | [], _, r => by cases r; rfl
  | b :: bs, _, r => by
    cases r with
    | cons r1 r2 =>
      rw [vals_bools r2]
      cases r1
      rfl
theorem reads_bools {h : Heap} : ∀ (bs : List Bool), ∃ as, ReadsAll h (bs.map Value.bool) (bs.map PyData.bool) as
  | [] => ⟨_, .nil⟩
  | b :: bs => by
    obtain ⟨as, r⟩ := reads_bools (h := h) bs
    exact ⟨_, .cons (by constructor) r⟩
theorem shape_bools : ∀ (bs : List Bool), (bs.map PyData.bool).all Spec.Shape.bool.has = true
  | [] => rfl
  | _ :: bs => by
    rw [List.map_cons, List.all_cons, shape_bools bs]
    rfl
theorem eq_bools {bs : List Bool} (k : Bool) (y : Value) (hy : y ∈ bs.map Value.bool) (A : Around) (s : Shared) : SeqAt.EqAt A s y (.bool k) (isBoolOf k y) := by
  obtain ⟨as, r⟩ := reads_bools (h := s.heap) bs
  exact eq_isBoolOf k r (shape_bools bs) y hy A s
theorem countP_bools (k : Bool) : ∀ bs : List Bool, List.countP (isBoolOf k) (bs.map Value.bool) = bs.count k
  | [] => rfl
  | b :: bs => by
    rw [List.map_cons, List.countP_cons, List.count_cons, countP_bools k bs]
    rfl
section
variable {X : Cx}
def rCountB : V → List V → Hp → VK → Prop := fun x vs H Q => ∃ (l : Addr) (bs : List Bool) (k : Bool), x = .ref l ∧ vs = [.bl k] ∧ H l = some (.lst (bs.map V.bl)) ∧ Q (.int ((bs.count k : Nat) : Int)) H
theorem mt_countB : MtM X "list.count" rCountB := by
  intro pins s σ H x vs v us Q I rx rv h
  obtain ⟨l, bs, k, rfl, rfl, hH, q⟩ := h
  cases rx
  obtain ⟨u, rfl, ru⟩ := rv.one
  cases ru
  obtain ⟨z, its, n, r, hl, e⟩ := I.lstM hH
  have hi := vals_bools r
  subst hi
  refine call_meets F.slot_list_count ⟨_, e, rfl⟩ F.entry_list_count (F.args_list_count_2 _ _) (SeqAt.list_countAt l _ n _ _ (.bool k) (isBoolOf k)) ⟨e, fun y hy => eq_bools (bs := bs) k y (by simpa using hy) _ _, ?_⟩
  rw [List.toList_toArray, countP_bools]
  exact ⟨.int ((bs.count k : Nat) : Int), H, I.tok _, ⟨_, rfl⟩, q⟩
def rIndexB : V → List V → Hp → VK → Prop := fun x vs H Q => ∃ (l : Addr) (bs : List Bool) (k : Bool) (j : Nat), x = .ref l ∧ vs = [.bl k] ∧ H l = some (.lst (bs.map V.bl)) ∧ bs[j]? = some k ∧ (∀ m, m < j → bs[m]? = some (!k)) ∧ j < 1000 ∧ Q (.int (j : Int)) H
theorem mt_indexB : MtM X "list.index" rIndexB := by
  intro pins s σ H x vs v us Q I rx rv h
  obtain ⟨l, bs, k, j, rfl, rfl, hH, hj, hm, h1000, q⟩ := h
  cases rx
  obtain ⟨u, rfl, ru⟩ := rv.one
  cases ru
  obtain ⟨z, its, n, r, hl, e⟩ := I.lstM hH
  have hi := vals_bools r
  subst hi
  obtain ⟨hjl, hje⟩ := List.getElem?_eq_some_iff.mp hj
  refine call_meets F.slot_list_index ⟨_, e, rfl⟩ F.entry_list_index (F.args_list_index_2 _ _) (SeqAt.list_indexAt l _ n _ _ (.bool k) (isBoolOf k) j (by simpa using hjl) (by omega) ?_ ?_) ⟨e, fun y hy => eq_bools (bs := bs) k y (by simpa using hy) _ _, ?_⟩
  · simp [isBoolOf, hje]
  · intro m h1 h2
    have := hm m h2
    obtain ⟨_, hme⟩ := List.getElem?_eq_some_iff.mp this
    simp [isBoolOf, hme]
  · exact ⟨.int (j : Int), H, I.tok _, ⟨_, rfl⟩, q⟩
end
/-! ### for .. in range(i, j, -1) -/
def ItrD (hi : Int) (n : Nat) : It := ⟨fun i _ => i < n, fun i H x H' => H' = H ∧ x = .int (hi - i), fun i _ => n ≤ i⟩
section
variable {X : Cx} {tg : Expr}
def iRngD (ta : TA) : TI := fun σ H R => ta σ H fun vs H1 => ∃ i j : Int, vs = [.int i, .int j, .int (-1)] ∧ (-1000000 ≤ i ∧ i < 1000000 ∧ -1000000 ≤ j ∧ j < 1000000) ∧ R (ItrD i (i - j).toNat) H1
end
/-! ### a display of written texts -/
def strsOf : List Expr → Option (List Str)
  | [] => some []
  | .Constant (.str i) _ _ :: r => (strsOf r).map (i :: ·)
  | _ => none
def tStrs (ns : List Str) : TA := fun _ H Q => Q (ns.map V.str) H
theorem pa_strs {X : Cx} : ∀ (es : List Expr) (ns : List Str), strsOf es = some ns → PA X es (tStrs ns) := by
  intro es
  induction es with
  | nil =>
    intro ns h
    have e : ns = [] := (Option.some.inj h).symm
    subst e
    exact pa_nil
  | cons e r ih =>
    intro ns h
    unfold strsOf at h
    split at h
    · rename_i heq
      cases heq
    · rename_i i j p r' heq
      injection heq with e1 e2
      subst e1 e2
      cases hr : strsOf r with
      | none => rw [hr] at h; cases h
      | some ms =>
        rw [hr] at h
        have e : i :: ms = ns := Option.some.inj h
        subst e
        exact pa_cons pe_str (ih ms hr)
    · cases h
/-- name = [written texts]: with @ -/
theorem pss_strs {X : Cx} {i : Nat} {x : Str} {pos' pos2 spos : Pos} {rest : List Stmt} {u : TS} {es : List Expr} {ns : List Str} (h : strsOf es = some ns) (hN : X.N.Nodup) (hi : X.N[i]? = some x) (hx : Loc X.env.scope x)
    (hf : X.fn x = true ∨ X.env.scope.names.lookup x = some .local) (hr : PSs X rest u) : PSs X (.Assign [.Name x pos'] (.List es pos2) spos :: rest) (tSeq (tAsg (tLst (tStrs ns)) (gName i)) u) := by
  have h1 : PE X (.List es pos2) (tLst (tStrs ns)) := @pe_lst X es (tStrs ns) pos2 (@pa_strs X es ns h)
  have h2 : PS X (.Assign [.Name x pos'] (.List es pos2) spos) (tAsg (tLst (tStrs ns)) (gName i)) := ps_set hN hi hx h1 (by rfl) hf
  exact pss_cons h2 hr
end L2

end
section
set_option maxHeartbeats 3998000
namespace L2
open PySem PySem.Spec PyProof.Rows

/-! ### lists of pairs as tables -/
section
variable {κ : Type} [DecidableEq κ]
def valV (kvs : List (κ × V)) (k : κ) : Option V := (kvs.find? fun kv => decide (kv.1 = k)).map (·.2)
/-- in its place, or at the end -/
def putK (kvs : List (κ × V)) (k : κ) (v : V) : List (κ × V) :=
  if (kvs.any fun kv => decide (kv.1 = k)) = true then kvs.map (fun kv => if kv.1 = k then (kv.1, v) else kv) else kvs ++ [(k, v)]
def dropK (kvs : List (κ × V)) (k : κ) : List (κ × V) := kvs.filter fun kv => decide (kv.1 ≠ k)

theorem valV_pos {p : κ × V} {r : List (κ × V)} {k : κ} (e : p.1 = k) : valV (p :: r) k = some p.2 := by simp [valV, List.find?_cons, e]
theorem valV_neg {p : κ × V} {r : List (κ × V)} {k : κ} (e : ¬ p.1 = k) : valV (p :: r) k = valV r k := by simp [valV, List.find?_cons, e]
theorem valV_any (k : κ) : ∀ kvs : List (κ × V), (kvs.any fun kv => decide (kv.1 = k)) = (valV kvs k).isSome
  | [] => rfl
  | p :: r => by
    rw [List.any_cons]
    by_cases e : p.1 = k
    · simp only [valV_pos e, decide_eq_true e, Bool.true_or, Option.isSome_some]
    · rw [valV_neg e, decide_eq_false e, Bool.false_or]; exact valV_any k r
theorem length_putK (kvs : List (κ × V)) (k : κ) (v : V) : (putK kvs k v).length ≤ kvs.length + 1 := by
  unfold putK
  split
  · rw [List.length_map]; omega
  · rw [List.length_append, List.length_cons, List.length_nil]; omega
theorem RelO.isSome_eq {o : Option V} {u : Option Value} (r : RelO o u) : o.isSome = u.isSome := by
  cases o with
  | none => cases u with
    | none => rfl
    | some _ => exact (show False from r).elim
  | some _ => cases u with
    | none => exact (show False from r).elim
    | some _ => rfl
theorem RelO.getD {o : Option V} {u : Option Value} {d : V} {d' : Value} (r : RelO o u) (rd : RelV d d') : RelV (o.getD d) (u.getD d') := by
  cases o with
  | none => cases u with
    | none => exact rd
    | some _ => exact (show False from r).elim
  | some _ => cases u with
    | none => exact (show False from r).elim
    | some _ => exact r

/-- raw tables of the same keys -/
theorem KV.val {kvs : List (κ × V)} {vs : List (κ × Value)} (r : KV kvs vs) (k : κ) : RelO (valV kvs k) (valueAt vs k) := by
  unfold KV at r
  induction r with
  | nil => exact True.intro
  | @cons p q ps qs h t ih =>
    obtain ⟨h1, h2⟩ := h
    by_cases e : p.1 = k
    · have e' : q.1 = k := h1.symm.trans e
      have b : valueAt (q :: qs) k = some q.2 := by simp [valueAt, List.find?_cons, e']
      rw [valV_pos e, b]; exact h2
    · have e' : ¬ q.1 = k := fun z => e (h1.trans z)
      have b : valueAt (q :: qs) k = valueAt qs k := by simp [valueAt, List.find?_cons, e']
      rw [valV_neg e, b]; exact ih
theorem KV.any {kvs : List (κ × V)} {vs : List (κ × Value)} (r : KV kvs vs) (k : κ) : (kvs.any fun kv => decide (kv.1 = k)) = vs.any fun kv => decide (kv.1 = k) := by
  unfold KV at r
  induction r with
  | nil => rfl
  | cons h t ih => rw [List.any_cons, List.any_cons, ih, h.1]
theorem KV.repl {kvs : List (κ × V)} {vs : List (κ × Value)} (r : KV kvs vs) (k : κ) {y : V} {u : Value} (ry : RelV y u) :
    KV (kvs.map fun kv => if kv.1 = k then (kv.1, y) else kv) (vs.map fun kv => if kv.1 = k then (kv.1, u) else kv) := by
  unfold KV at r ⊢
  induction r with
  | nil => exact .nil
  | @cons p q ps qs h t ih =>
    rw [List.map_cons, List.map_cons]
    refine .cons ?_ ih
    obtain ⟨h1, h2⟩ := h
    by_cases e : p.1 = k
    · rw [if_pos e, if_pos (h1.symm.trans e)]; exact ⟨h1, ry⟩
    · rw [if_neg e, if_neg (fun z => e (h1.trans z))]; exact ⟨h1, h2⟩
theorem KV.put {kvs : List (κ × V)} {vs : List (κ × Value)} (r : KV kvs vs) (k : κ) {y : V} {u : Value} (ry : RelV y u) : KV (putK kvs k y) (stored vs k u) := by
  unfold putK stored
  rw [r.any k]
  by_cases e : (vs.any fun kv => decide (kv.1 = k)) = true
  · rw [if_pos e, if_pos e]; exact r.repl k ry
  · rw [if_neg e, if_neg e]; exact Paired.snoc r ⟨rfl, ry⟩
theorem KV.length {kvs : List (κ × V)} {vs : List (κ × Value)} (r : KV kvs vs) : kvs.length = vs.length := Paired.length r
end


/-! ### a tracked dict, its keys ints and texts or tuples of these -/
theorem kV_is {P : Program} {w : World} {k : Key} {u : Value} (r : RelV (kV k) u) : (mixKind P w).is k u = true := by
  cases k with
  | inl i => obtain ⟨t, e⟩ := (show ∃ t, u = Value.int i t from r); subst e; exact mixKind_int P w i t
  | inr x => obtain ⟨t, e⟩ := (show ∃ t, u = Value.str x t from r); subst e; exact mixKind_str P w x t
theorem items_are {P : Program} {w : World} : ∀ {ks : List Key} {us : List Value}, Vals (ks.map kV) us → ItemsAre (mixKind P w) ks us
  | [], _, r => by rw [List.map_nil] at r; cases r; exact .nil
  | k :: ks, _, r => by
    rw [List.map_cons] at r
    cases r with
    | cons h t => exact .cons (kV_is h) (items_are t)

/-- raw entries of a dict with tuple keys -/
abbrev KT (H : Hp) : List (List Key × V) → List (List Key × Addr × Value) → Prop := Paired fun p q => p.1 = q.1 ∧ H q.2.1 = some (.tup (p.1.map kV)) ∧ RelV p.2 q.2.2
theorem KT.val {H : Hp} {kvs : List (List Key × V)} {xs : List (List Key × Addr × Value)} (r : KT H kvs xs) (k : List Key) : RelO (valV kvs k) ((atKey xs k).map (·.2)) := by
  induction r with
  | nil => exact True.intro
  | @cons p q ps qs h t ih =>
    obtain ⟨h1, _, h2⟩ := h
    by_cases e : p.1 = k
    · have e' : q.1 = k := h1.symm.trans e
      have b : atKey (q :: qs) k = some q.2 := by simp [atKey, List.find?_cons, e']
      rw [valV_pos e, b]; exact h2
    · have e' : ¬ q.1 = k := fun z => e (h1.trans z)
      have b : atKey (q :: qs) k = atKey qs k := by simp [atKey, List.find?_cons, e']
      rw [valV_neg e, b]; exact ih
theorem KT.repl {H : Hp} {kvs : List (List Key × V)} {xs : List (List Key × Addr × Value)} (r : KT H kvs xs) (k : List Key) {y : V} {u : Value} (ry : RelV y u) :
    KT H (kvs.map fun kv => if kv.1 = k then (kv.1, y) else kv) (xs.map (putAt k u)) := by
  induction r with
  | nil => exact .nil
  | @cons p q ps qs h t ih =>
    rw [List.map_cons, List.map_cons]
    refine .cons ?_ ih
    obtain ⟨h1, h2, h3⟩ := h
    unfold putAt
    by_cases e : p.1 = k
    · rw [if_pos e, if_pos (h1.symm.trans e)]; exact ⟨h1, h2, ry⟩
    · rw [if_neg e, if_neg (fun z => e (h1.trans z))]; exact ⟨h1, h2, h3⟩
theorem KT.put {H : Hp} {kvs : List (List Key × V)} {xs : List (List Key × Addr × Value)} (r : KT H kvs xs) (k : List Key) {b : Addr} {y : V} {u : Value} (hb : H b = some (.tup (k.map kV))) (ry : RelV y u) :
    KT H (putK kvs k y) (storedH xs k b u) := by
  have e : (kvs.any fun kv => decide (kv.1 = k)) = (atKey xs k).isSome := by
    rw [valV_any, (r.val k).isSome_eq, Option.isSome_map]
  unfold putK storedH
  rw [e]
  by_cases q : (atKey xs k).isSome = true
  · rw [if_pos q, if_pos q]; exact r.repl k ry
  · rw [if_neg q, if_neg q]; exact Paired.snoc r ⟨rfl, hb, ry⟩
theorem KT.keeps {H H' : Hp} {kvs : List (List Key × V)} {xs : List (List Key × Addr × Value)} (r : KT H kvs xs) (ht : ∀ b ys, H b = some (.tup ys) → H' b = some (.tup ys)) : KT H' kvs xs :=
  Paired.mapP r fun _ _ z => ⟨z.1, ht _ _ z.2.1, z.2.2⟩

section
variable {P : Program} {w : World} {H : Hp} {h : Heap} {a : Addr}
theorem rd_of {u : HO} (ok : HOk P w H h) (e : Rd H a u) : ObjOk P w H h a u := e.ok ok
theorem dk_rd {kvs : List (Key × V)} (ok : HOk P w H h) (e : Rd H a (.dK kvs)) : kvs.length ≤ sizeLine ∧ (a == sysModules) = false ∧ ∃ vs, KV kvs vs ∧ h.DictOf (mixKind P w) a vs :=
  show ObjOk P w H h a (.dK kvs) from rd_of ok e
theorem dk_of {kvs : List (Key × V)} (ok : HOk P w H h) (e : H a = some (.dK kvs)) : kvs.length ≤ sizeLine ∧ (a == sysModules) = false ∧ ∃ vs, KV kvs vs ∧ h.DictOf (mixKind P w) a vs := dk_rd ok (.inl e)
/-- a tracked tuple of ints and texts is a key -/
theorem key_of {ks : List Key} (ok : HOk P w H h) (e : H a = some (.tup (ks.map kV))) : (tupleKind (mixKind P w)).is h ks a := by
  obtain ⟨_, its, r, o, h1, h2, n, h3⟩ := (show ObjOk P w H h a (.tup (ks.map kV)) from ok a _ e)
  exact ⟨o, its.toArray, n, h1, h2, h3, by simpa using items_are r⟩
theorem dt_rd {kvs : List (List Key × V)} (ok : HOk P w H h) (e : Rd H a (.dT kvs)) : kvs.length ≤ sizeLine ∧ (a == sysModules) = false ∧
    ∃ xs, KT H kvs xs ∧ h.DictOfH (tupleKind (mixKind P w)) a xs := by
  obtain ⟨z, y, xs, r, o, es, ep, h1, h2, h3, h4, h5⟩ := (show ObjOk P w H h a (.dT kvs) from rd_of ok e)
  refine ⟨z, y, xs, r, o, es, ep, h1, h2, h3, h4, fun x hx => ?_, h5⟩
  have all : ∀ {l : List (List Key × V)} {m : List (List Key × Addr × Value)}, KT H l m → ∀ x ∈ m, (tupleKind (mixKind P w)).is h x.1 x.2.1 := by
    intro l m q
    induction q with
    | nil => intro x hx; exact nomatch hx
    | @cons p q ps qs hq t ih =>
      intro x hx
      rcases List.mem_cons.mp hx with e | hx
      · subst e
        exact key_of ok (by rw [← hq.1]; exact hq.2.1)
      · exact ih x hx
  exact all r x hx
theorem dt_of {kvs : List (List Key × V)} (ok : HOk P w H h) (e : H a = some (.dT kvs)) : kvs.length ≤ sizeLine ∧ (a == sysModules) = false ∧
    ∃ xs, KT H kvs xs ∧ h.DictOfH (tupleKind (mixKind P w)) a xs := dt_rd ok (.inl e)
end

/-- what the dict at a holds at the key y -/
def DGet (H : Hp) (a : Addr) (y : V) (r : Option V) : Prop :=
  (∃ kvs k, Rd H a (.dK kvs) ∧ y = kV k ∧ r = valV kvs k) ∨ ∃ kvs k b, Rd H a (.dT kvs) ∧ y = .ref b ∧ H b = some (.tup (k.map kV)) ∧ r = valV kvs k
/-- the heap behind a[y] = v -/
def DPut (H : Hp) (a : Addr) (y v : V) (H' : Hp) : Prop :=
  (∃ kvs k, H a = some (.dK kvs) ∧ y = kV k ∧ kvs.length < sizeLine ∧ H' = upd H a (.dK (putK kvs k v))) ∨
  ∃ kvs k b, H a = some (.dT kvs) ∧ y = .ref b ∧ H b = some (.tup (k.map kV)) ∧ kvs.length < sizeLine ∧ H' = upd H a (.dT (putK kvs k v))
section
variable {X : Cx} {pins : List (Addr × Obj)} {σ : St} {H : Hp} {s : Shared} {a : Addr} {y v : V} {u r : Value} {o : Option V} {A : Around} {E : Value → Shared → Prop}

theorem Inv.big (I : Inv X pins σ H s) : sysModules < s.heap.objs.size := by
  have h : mainGlobals < s.heap.objs.size := (I.mod.glob.keeps I.bk).lt
  exact Nat.lt_trans (by decide) h

/-- a dict's object is replaced -/
theorem d_write {h' : Heap} {t' : Nat} {ob : HO} (I : Inv X pins σ H s) (mu : Mut (H a)) (hs : Heap.SameBut a s.heap h') (he : ∃ q, h'.get? a = some q) (new : ObjOk X.prog X.w (upd H a ob) h' a ob) :
    Inv X pins σ (upd H a ob) { s with heap := h', toks := t' } :=
  I.write (x := a) (e := a) mu (.inl rfl) (fun b q hb z => (hs.2 b hb).trans z) he new
theorem dk_new {P : Program} {w : World} {H' : Hp} {h' : Heap} {kvs : List (Key × V)} {vs : List (Key × Value)} (z : kvs.length ≤ sizeLine) (hd : (a == sysModules) = false) (rel : KV kvs vs) (dd : h'.DictOf (mixKind P w) a vs) :
    ObjOk P w H' h' a (.dK kvs) := ⟨z, hd, vs, rel, dd⟩
/-- d[y] = v -/
theorem d_setItem {H' : Hp} {Q : Unit → Shared → Prop} (hu : A.units + 1 < cLine) (I : Inv X pins σ H s) (g : DPut H a y v H') (ry : RelV y u) (rv : RelV v r) (h : ∀ s', Inv X pins σ H' s' → Q () s') :
    wpAny (model X.prog X.w) A (setItem (.ref a) u r) Q E s := by
  rcases g with ⟨kvs, k, e, ey, l, eH⟩ | ⟨kvs, k, b, e, ey, eb, l, eH⟩
  · subst ey eH
    obtain ⟨z, hd, vs, rel, dd⟩ := dk_of I.hok e
    have hz : vs.length ≤ sizeLine := by rw [← rel.length]; exact z
    have hl : (putK kvs k v).length ≤ sizeLine := by have := length_putK kvs k v; omega
    refine wpAny_setItem_pairs (hsz := hz) (kV_is ry) dd fun h' dd' hs => h _ ?_
    have he : ∃ q, h'.get? a = some q := let ⟨q, _, _, hq, _⟩ := dd'; ⟨q, hq⟩
    exact d_write I (by rw [e]; exact True.intro) hs he (dk_new hl hd (rel.put k rv) dd')
  · subst ey eH
    cases (show u = Value.ref b from ry)
    obtain ⟨z, hd, xs, rel, dd⟩ := dt_of I.hok e
    have hz : xs.length ≤ sizeLine := by rw [← Paired.length rel]; exact z
    have hl : (putK kvs k v).length ≤ sizeLine := by have := length_putK kvs k v; omega
    refine wpAny_setItem_heap (hsz := hz) (tupleKind_room_in1 hu) (key_of I.hok eb) dd fun h' dd' hs => h _ ?_
    obtain ⟨q, es, ep, hq, h2, h3, h4, _, h5⟩ := dd'
    refine d_write I (by rw [e]; exact True.intro) hs ⟨q, hq⟩ ⟨hl, hd, _, (rel.put k eb rv).keeps fun c ys ec => ?_, q, es, ep, hq, h2, h3, h4, h5⟩
    rw [upd_ne (ne_of ec e (fun z => nomatch z))]
    exact ec
end

section
variable {X : Cx} {pins : List (Addr × Obj)} {σ : St} {H : Hp} {s : Shared} {a : Addr} {kvs : List (Key × V)} {k : Key} {u : Value} {A : Around} {E : Value → Shared → Prop}
end


/-! ### readings and rules -/
/-- the element of a subscription, not a slice -/
def NoSl (i : Expr) : Prop := ∀ ov iv, subscripted i false ov iv = operate [ov, iv] (getItem ov iv)
/-- d[y] -/
def tDGet (td ty : TE) : TE := fun σ H Q => td σ H fun x H1 => ty σ H1 fun y H2 => ∃ a v, x = .ref a ∧ DGet H2 a y (some v) ∧ Q v H2
/-- y in d, y not in d -/
def tDIn (ty td : TE) : TE := fun σ H Q => ty σ H fun y H1 => td σ H1 fun x H2 => ∃ a o, x = .ref a ∧ DGet H2 a y o ∧ Q (.bl o.isSome) H2
def tDNotIn (ty td : TE) : TE := fun σ H Q => ty σ H fun y H1 => td σ H1 fun x H2 => ∃ a o, x = .ref a ∧ DGet H2 a y o ∧ Q (.bl (!o.isSome)) H2
/-- d[y] = v -/
def sDPut (td ty tv : TE) : TS := fun D σ H => tv σ H fun v H1 => td σ H1 fun x H2 => ty σ H2 fun y H3 => ∃ a H4, x = .ref a ∧ DPut H3 a y v H4 ∧ D.nx σ H4
/-- d[y] op= v -/
def sDAug (td ty tv : TE) (rd : V → V → Hp → VK → Prop) : TS := fun D σ H => td σ H fun x H1 => ty σ H1 fun y H2 => ∃ a v, x = .ref a ∧ DGet H2 a y (some v) ∧
  tv σ H2 fun y2 H3 => rd v y2 H3 fun z H4 => ∃ H5, DPut H4 a y z H5 ∧ D.nx σ H5
/-- del d[y] -/
def sDDel (td ty : TE) : TS := fun D σ H => td σ H fun x H1 => ty σ H1 fun y H2 => ∃ a kvs k, x = .ref a ∧ H2 a = some (.dK kvs) ∧ y = kV k ∧ (valV kvs k).isSome = true ∧ D.nx σ (upd H2 a (.dK (dropK kvs k)))

section
variable {X : Cx} {o i e value : Expr} {pos pos' tpos : Pos} {td ty tv : TE}
theorem ps_dput (hu : X.A.units + 1 < cLine) (ho : PE X o td) (hi : PE X i ty) (hv : PE X value tv) (hs : swapsWith value (some (.Subscript o i pos')) pos.line X.env = pure false) :
    PS X (.Assign [.Subscript o i pos'] value pos) (sDPut td ty tv) := by
  intro pins s σ H D I h
  refine wpAny_Assign_Subscript (thn (hv pins s σ H _ I h) fun r s1 ⟨v, H1, I1, rv, q1⟩ => thn (ho pins s1 σ H1 _ I1 q1) fun u s2 ⟨x, H2, I2, rx, q2⟩ => thn (hi pins s2 σ H2 _ I2 q2) fun iv s3 ⟨y, H3, I3, ry, a, H4, ex, g, q3⟩ => ?_) hs
  subst ex
  obtain rfl : u = Value.ref a := rx
  exact d_setItem hu I3 g ry rv fun s4 I4 => ⟨σ, H4, I4, q3⟩
end


/-! ### displays -/
theorem dk_empty {P : Program} {w : World} {H : Hp} (h : Heap) (hb : sysModules < h.objs.size) : ObjOk P w H (h.push { cls := .type "dict", data := .dict #[] }) h.objs.size (.dK []) :=
  ⟨Nat.zero_le _, beq_eq_false_iff_ne.mpr (Ne.symm (Nat.ne_of_lt hb)), [], .nil, Heap.DictOf.new h⟩
/-- {}, to be a dict of the kind that is wanted -/
def tDNewK : TE := fun _ H Q => ∀ p, H p = none → Q (.ref p) (upd H p (.dK []))
def tDNewT : TE := fun _ H Q => ∀ p, H p = none → Q (.ref p) (upd H p (.dT []))
section
variable {X : Cx} {pos : Pos}
theorem pe_dnewK : PE X (.Dict [] [] pos) tDNewK := fun pins s σ H Q I h =>
  wpAny_Dict_empty ⟨.ref s.heap.objs.size, _, I.laid (a := s.heap.objs.size) (o := .dK []) (t' := s.toks) (fun _ _ q => Heap.get?_push_of_some _ q) (Nat.le_refl _) (dk_empty s.heap I.big), rfl, h _ (I.hok.fresh (Nat.le_refl _))⟩
end

/-- the pairs of a display, from the left -/
def tPairs : List (TE × TE) → St → Hp → (List (V × V) → Hp → Prop) → Prop
  | [], _, H, Q => Q [] H
  | (tk, tv) :: r, σ, H, Q => tk σ H fun x H1 => tv σ H1 fun y H2 => tPairs r σ H2 fun ps H3 => Q ((x, y) :: ps) H3
abbrev VV : List (V × V) → List (Value × Value) → Prop := Paired fun p q => RelV p.1 q.1 ∧ RelV p.2 q.2
def PPs (X : Cx) (pos : Pos) (keys : List (Option Expr)) (values : List Expr) (trs : List (TE × TE)) : Prop :=
  ∀ (pins : List (Addr × Obj)) (s : Shared) (σ : St) (H : Hp) (Q : List (V × V) → Hp → Prop), Inv X pins σ H s → tPairs trs σ H Q →
    wpAny (model X.prog X.w) X.A (evalPairs (pairTrees keys values X.env pos)) (fun vs s' => ∃ ps H', Inv X pins σ H' s' ∧ VV ps vs ∧ Q ps H') X.xe s
def mergeK (kvs more : List (Key × V)) : List (Key × V) := more.foldl (fun acc kv => putK acc kv.1 kv.2) kvs
/-- {k: v, ..} with keys ints and texts; the new dict stands empty while the pairs are made -/
def tDisp (trs : List (TE × TE)) : TE := fun σ H Q => ∀ p, H p = none → tPairs trs σ (upd H p (.dK [])) fun ps H2 => H2 p = some (.dK []) ∧ ∃ kvs : List (Key × V), ps = kvs.map (fun kv => (kV kv.1, kv.2)) ∧ kvs.length ≤ 15 ∧ Q (.ref p) (upd H2 p (.dK (mergeK [] kvs)))
/-! ### methods -/
/-- a method call o.m(e) of a built-in, with one argument: what must be seen of the text -/
structure M1 (X : Cx) (o : Expr) (m : Str) (apos : Pos) (e : Expr) (cpos : Pos) : Prop where
  base : attributeBase o m X.env (eval o X.env) = eval o X.env
  few : ((backTo cpos (starEach [e] X.env)).all (fun x => !x.1) && (backToKw cpos (keywordEach [] X.env)).all (fun x => x.1.isSome)
    && decide (([e] : List Expr).length + ([] : List Keyword).length + (if ([] : List Keyword).isEmpty then 0 else 1) < 30)) = true
  line : (apos.endLine == cpos.line) = true
  trees : backTo cpos (starEach [e] X.env) = [(false, eval e X.env)]
structure M2 (X : Cx) (o : Expr) (m : Str) (apos : Pos) (e f : Expr) (cpos : Pos) : Prop where
  base : attributeBase o m X.env (eval o X.env) = eval o X.env
  few : ((backTo cpos (starEach [e, f] X.env)).all (fun x => !x.1) && (backToKw cpos (keywordEach [] X.env)).all (fun x => x.1.isSome)
    && decide (([e, f] : List Expr).length + ([] : List Keyword).length + (if ([] : List Keyword).isEmpty then 0 else 1) < 30)) = true
  line : (apos.endLine == cpos.line) = true
  trees : backTo cpos (starEach [e, f] X.env) = [(false, eval e X.env), (false, eval f X.env)]

/-- a is a dict, whatever its keys -/
def IsD (H : Hp) (a : Addr) : Prop := (∃ kvs, Rd H a (.dK kvs)) ∨ ∃ kvs, Rd H a (.dT kvs)
theorem isD_at {X : Cx} {pins : List (Addr × Obj)} {σ : St} {H : Hp} {s : Shared} {a : Addr} (I : Inv X pins σ H s) (d : IsD H a) :
    s.TypeIs (.ref a) "dict" ∧ (∀ b, Value.ref a = .ref b → ∃ ob, s.heap.get? b = some ob ∧ ob.dict = none) ∧ (a == sysModules) = false := by
  rcases d with ⟨kvs, e⟩ | ⟨kvs, e⟩
  · obtain ⟨_, hd, vs, _, dd⟩ := dk_rd I.hok e
    refine ⟨dd.typeIs, fun b q => ?_, hd⟩
    cases q
    obtain ⟨ob, _, _, h1, h2, _⟩ := dd
    exact ⟨ob, h1, h2.2.1⟩
  · obtain ⟨_, hd, xs, _, dd⟩ := dt_rd I.hok e
    refine ⟨dd.typeIs, fun b q => ?_, hd⟩
    cases q
    obtain ⟨ob, _, _, h1, h2, _⟩ := dd
    exact ⟨ob, h1, h2.2.1⟩

section
variable {X : Cx} {pins : List (Addr × Obj)} {σ : St} {H : Hp} {s : Shared} {a : Addr} {y d : V} {u r : Value} {o : Option V} {A : Around} {E : Value → Shared → Prop}
/-- d.get(y, x) -/
theorem d_get2 {Q : Value → Shared → Prop} (hu : A.units + 1 < cLine) (I : Inv X pins σ H s) (g : DGet H a y o) (ry : RelV y u) (rd : RelV d r) (h : ∀ w' s', Inv X pins σ H s' → RelV (o.getD d) w' → Q w' s') :
    wpAny (model X.prog X.w) A (call (.builtin "dict.get") [.ref a, u, r]) Q E s := by
  rcases g with ⟨kvs, k, e, ey, l⟩ | ⟨kvs, k, b, e, ey, eb, l⟩
  · subst ey
    obtain ⟨z, hd, vs, rel, dd⟩ := dk_rd I.hok e
    refine call_meetsIn PySem.F.slot_dict_get dd.typeIs PySem.F.entry_dict_get (PySem.F.args_dict_get_3 _ _ _) (meets_dict_get_default (mixKind X.prog X.w) a (kV_is ry) hd r) ⟨_, dd.mapOf, h _ _ (I.tok _) ?_⟩
    rw [l]
    exact (rel.val k).getD rd
  · subst ey
    cases (show u = Value.ref b from ry)
    obtain ⟨z, hd, xs, rel, dd⟩ := dt_rd I.hok e
    refine call_meetsIn PySem.F.slot_dict_get dd.typeIs PySem.F.entry_dict_get (PySem.F.args_dict_get_3 _ _ _) (meetsH_dict_get_default (tupleKind (mixKind X.prog X.w)) a b hd r) ⟨tupleKind_room_in1 hu, k, xs, key_of I.hok eb, dd, h _ _ (I.tok _) ?_⟩
    rw [l]
    exact (rel.val k).getD rd
end

def tDGet1 (td ty : TE) : TE := fun σ H Q => td σ H fun x H1 => ∃ a, x = .ref a ∧ IsD H1 a ∧ ty σ H1 fun y H2 => ∃ o, DGet H2 a y o ∧ Q (o.getD .non) H2
def tDGet2 (td ty tx : TE) : TE := fun σ H Q => td σ H fun x H1 => ∃ a, x = .ref a ∧ IsD H1 a ∧ ty σ H1 fun y H2 => tx σ H2 fun z H3 => ∃ o, DGet H3 a y o ∧ Q (o.getD z) H3
/-- d.pop(k): there; d.pop(k, x): there or not -/
def tDPop1 (td ty : TE) : TE := fun σ H Q => td σ H fun x H1 => ∃ a, x = .ref a ∧ IsD H1 a ∧ ty σ H1 fun y H2 => ∃ kvs k v, H2 a = some (.dK kvs) ∧ y = kV k ∧ valV kvs k = some v ∧ Q v (upd H2 a (.dK (dropK kvs k)))
def tDPop2 (td ty tx : TE) : TE := fun σ H Q => td σ H fun x H1 => ∃ a, x = .ref a ∧ IsD H1 a ∧ ty σ H1 fun y H2 => tx σ H2 fun z H3 => ∃ kvs k, H3 a = some (.dK kvs) ∧ y = kV k ∧
  (∀ v, valV kvs k = some v → Q v (upd H3 a (.dK (dropK kvs k)))) ∧ (valV kvs k = none → Q z H3)
section
variable {X : Cx} {o e f : Expr} {apos cpos : Pos} {td ty tx : TE}
theorem pe_dget2 (hu : X.A.units + 1 < cLine) (ho : PE X o td) (he : PE X e ty) (hf : PE X f tx) (m : M2 X o "get" apos e f cpos) : PE X (.Call (.Attribute o "get" apos) [e, f] [] cpos) (tDGet2 td ty tx) := by
  intro pins s σ H Q I h
  refine wpAny_Call_method m.base m.few m.line PySem.F.plainAttrs_dict PySem.F.slot_dict_get PySem.F.type_dict_get (thn (ho pins s σ H _ I h) fun u s1 ⟨x, H1, I1, rx, a, ex, d, q1⟩ => ?_)
  subst ex
  obtain rfl : u = Value.ref a := rx
  obtain ⟨t1, t2, _⟩ := isD_at I1 d
  refine ⟨t1, t2, ?_⟩
  rw [m.trees]
  refine Calls.callWith_builtin rfl (Calls.evalArgs_plain (Calls.spliced_cons (thn (he pins s1 σ H1 _ I1 q1) fun iv s2 ⟨y, H2, I2, ry, q2⟩ =>
    Calls.spliced_cons (thn (hf pins s2 σ H2 _ I2 q2) fun fv s3 ⟨z, H3, I3, rz, ov, g, q3⟩ => Calls.spliced_nil ?_))))
  exact d_get2 hu I3 g ry rz fun w' s4 I4 rw' => ⟨_, H3, I4, rw', q3⟩
end
end L2

end
section
set_option maxHeartbeats 3998000
/-! ### sum of a list of ints; sorted(d.values(), reverse=True) -/
namespace L2
open PySem PySem.Spec PyProof.Rows
theorem pairs_of : ∀ {ns : List Int} {us : List Value}, Vals (ns.map V.int) us → ∃ ps : List (Int × Tok), us = ps.map (fun p => Value.int p.1 p.2) ∧ ps.map (·.1) = ns
  | [], _, r => by cases r; exact ⟨[], rfl, rfl⟩
  | n :: ns, _, r => by
    cases r with
    | cons r1 r2 =>
      obtain ⟨ps, e1, e2⟩ := pairs_of r2
      obtain ⟨t, rfl⟩ := r1
      exact ⟨(n, t) :: ps, by rw [e1]; rfl, by rw [← e2]; rfl⟩
theorem call_sumI {X : Cx} (hc : X.calm = true) : CallR X (.builtin "sum") (fun xs H Q => ∃ (p : Addr) (ns : List Int), xs = [.ref p] ∧ SqL X.K H p (ns.map V.int) ∧ Q (.int ns.sum) H) := by
  intro pins s σ H xs us Q I r h
  obtain ⟨p, ns, rfl, hq, q⟩ := h
  obtain ⟨u, rfl, rx⟩ := vals1 r
  cases rx
  obtain ⟨its, rv, pl, hz⟩ := I.list hq
  obtain ⟨ps, e1, e2⟩ := pairs_of rv
  subst e1 e2
  have hl : s.heap.IsList p (intItems ps.toArray) := by
    have := pl.isList
    simpa [intItems] using this
  refine sum_intListG (xs := ps.toArray) (by simp [I.ok.hd hc]) hl fun h' tk t' kk => ⟨.int (ps.map (·.1)).sum, H, I.kept kk, ⟨t', ?_⟩, q⟩
  rw [preSum_eq, List.take_of_length_le (by simp)]
end L2
namespace PySem
open PyProof.Rows
section
variable {prog : Program} {w : World} {A : Around} {E : Value → Shared → Prop} {s : Shared}
theorem sorted_view {T : String} {r d : Addr} {n : Nat} {P : Nat → Value → Prop} {OK : Heap → Prop} {b : Bool} {ns : List Int} {Q : Value → Shared → Prop} (K : PySem.W.KdlSrc prog w T r d n P OK) (hh : A.handled = none) (hok : OK s.heap) (hn : n < 64)
    (hP : ∀ vs : List Value, vs.length = n → (∀ (j : Nat) v, vs[j]? = some v → P j v) → IntsAre vs ns)
    (h : ∀ (h' : Heap) (tk : Nat) (out : Array Value) (ns' : List Int) (e : Nat) (D : Addr), (∀ c o, s.heap.get? c = some o → h'.get? c = some o) → (∀ c o, s.heap.get? c = some o → c < D) → h'.get? D = some (seqObj "list" out e) → IntsAre out.toList ns' → ns'.Perm ns → Q (.ref D) { s with heap := h', toks := tk }) :
    wpAny (model prog w) A (call (.builtin "sorted") [.ref r] [(Str.ofString "reverse", .bool b)]) Q E s := by
  refine call_function_entry_kw kind_sorted plain_sorted entry_sorted (args_sorted_rev _ _) ?_; unfold Builtin.«sorted»; refine wpAny_bind (m := checkCount "sorted" 1 1 _) (wpAny_pure ?_)
  refine wpAny_bind (PySem.W.kdu_collect K (by simp [hh]) hok (by rw [sizeLine_eq]; omega) fun h1 tk acc kk hacc => ?_)
  have hl : acc.toList.length = n := (Array.length_toList ..).trans hacc.1
  have hI : IntsAre acc.toList ns := hP acc.toList hl fun j v e => hacc.2 j v (by rw [← Array.getElem?_toList]; exact e)
  refine wpAny_bind (wpAny_newList ?_ (hsz := by rw [hl, sizeLine_eq]; omega))
  have hoL : (h1.push (seqObj "list" acc.toList.toArray 0)).get? h1.objs.size = some (seqObj "list" acc.toList.toArray 0) := Heap.get?_push_size _ rfl
  refine wpAny_bind (wpAny_holding (wpAny_call_entry_kw slot_list_sort ⟨_, hoL, rfl⟩ entry_list_sort (list_sort_tree_rev hoL hI (by omega) fun out ns' a1 a2 a3 => ⟨_, rfl, ?_⟩) (args_list_sort_rev _ _)))
  obtain ⟨e, he⟩ := sortedHeap_at (out := out) hoL
  refine wpAny_pure ⟨_, rfl, h _ tk out ns' e h1.objs.size (fun c o x => ?_) (fun c o x => Heap.lt_size (kk _ _ x)) he a1 a2⟩
  have hlt : c < h1.objs.size := Heap.lt_size (kk _ _ x)
  rw [sortedHeap_old (Nat.ne_of_lt hlt) (by rw [Heap.size_push]; exact Nat.lt_succ_of_lt hlt)]
  exact Heap.get?_push_of_some _ (kk _ _ x)
end
end PySem
namespace L2
open PySem PySem.Spec PyProof.Rows
theorem kv_ints : ∀ {kvs : List (Key × V)} {vs : List (Key × Value)} {ns : List Int}, KV kvs vs → kvs.map (·.2) = ns.map V.int → IntsAre (vs.map (·.2)) ns := by
  intro kvs vs ns r e
  refine intsAre_of ?_
  rw [← e]
  clear e
  induction r with
  | nil => exact .nil
  | cons h1 h2 ih => exact .cons h1.2 ih
theorem vals_of_ints {ns : List Int} {us : List Value} (h : IntsAre us ns) : Vals (ns.map V.int) us := by
  induction h with
  | nil => exact .nil
  | cons ih => exact .cons ⟨_, rfl⟩ (by assumption)
/-- sorted(d.values(), reverse=True): a list of the values in some order -/
def tSortV (td : TE) : TE := fun σ H Q => td σ H fun x H1 => ∃ (a : Addr) (kvs : List (Key × V)) (ns : List Int), x = .ref a ∧ H1 a = some (.dK kvs) ∧ kvs.map (·.2) = ns.map V.int ∧ ns.length < 64 ∧
  ∀ (l : Addr) (ns' : List Int), H1 l = none → ns'.Perm ns → Q (.ref l) (upd H1 l (.lst (ns'.map V.int)))
theorem pe_sortV {X : Cx} {o : Expr} {td : TE} {p pos apos cpos kp vp : Pos} {b : Bool} (hc : X.calm = true) (hg : Gl X "sorted") (hm : X.mg "sorted" = none) (ho : PE X o td)
    (hbase : attributeBase o "values" X.env (eval o X.env) = eval o X.env := by rfl) (hline : (apos.endLine == cpos.line) = true := by rfl) :
    PE X (.Call (.Name "sorted" p) [.Call (.Attribute o "values" apos) [] [] cpos] [⟨some "reverse", .Constant (.bool b) 0 vp, kp⟩] pos) (tSortV td) := by
  intro pins s σ H Q I h
  refine wpAny_Call_Name_kw (ld_blt I hg hm boot_sorted ?_)
  refine callWith_kw ?_
  show wpAny _ _ (spliced ((false, eval (.Call (.Attribute o "values" apos) [] [] cpos) X.env) :: [])) _ _ s
  refine Calls.spliced_cons ?_
  refine wpAny_Call_method0_late hbase hline (thn (ho pins s σ H _ I h) fun v s1 ⟨x, H1, I1, r1, a, kvs, ns, ex, hH, hns, h64, q1⟩ => ?_)
  subst ex
  obtain rfl : v = Value.ref a := r1
  obtain ⟨t1, t2, _⟩ := isD_at I1 (.inl ⟨kvs, .inl hH⟩)
  obtain ⟨z, hd, vs, rel, dd⟩ := dk_of I1.hok hH
  refine ⟨"dict", "dict.values", PySem.F.plainAttrs_dict, PySem.F.slot_dict_values, PySem.F.type_dict_values, t1, t2, Calls.callWith_builtin rfl (PySem.evalArgs_none ?_)⟩
  refine call_meetsIn PySem.F.slot_dict_values dd.typeIs PySem.F.entry_dict_values (PySem.F.args_dict_values_1 _) (meets_dict_values (mixKind X.prog X.w) a hd) ⟨⟨vs, dd⟩, ?_⟩
  refine Calls.spliced_nil (kws_cons (Constant_bool (kws_nil ?_)))
  obtain ⟨ep, hat⟩ := dd.dictAt
  have hlen : vs.length = ns.length := by
    have e1 := rel.length
    have e2 := congrArg List.length hns
    rw [List.length_map, List.length_map] at e2
    omega
  obtain ⟨s2, e2⟩ : ∃ s2, s2 = ({ s1 with heap := s1.heap.push { cls := .type "dict_values", data := .fields #[.ref a] } } : Shared) := ⟨_, rfl⟩
  have hv : s2.heap.get? s1.heap.objs.size = some { cls := .type "dict_values", data := .fields #[.ref a] } := by rw [e2]; exact Heap.get?_push_size _ rfl
  have k2 : ∀ c o, s1.heap.get? c = some o → s2.heap.get? c = some o := fun c o x => by rw [e2]; exact Heap.get?_push_of_some _ x
  have hu : s2 = { s1 with heap := s2.heap } := by rw [e2]
  show wpAny _ _ (call (.builtin "sorted") [.ref s1.heap.objs.size] [(Str.ofString "reverse", .bool b)]) _ _ _
  rw [← e2]
  refine sorted_view (ns := ns) (PySem.W.kdl_values (knd := mixKind X.prog X.w) (d := a) (r := s1.heap.objs.size) (kvs := vs) (ep := ep)) (I1.ok.hd hc) ⟨⟨_, hv, rfl, rfl⟩, hat.keep k2⟩ (by omega) (fun us hl hj => ?_) fun h' tk out ns' e D kk hD hlst hI hp => ?_
  · rw [PySem.W.kdl_vals_eq us hl hj]
    exact kv_ints rel hns
  · have hle : s1.heap.objs.size ≤ D := Nat.le_of_lt (hD _ _ hv)
    have hr := vals_of_ints hI
    have hlen' : ns'.length = ns.length := hp.length_eq
    have I2 : Inv X pins σ (upd H1 D (.lst (ns'.map V.int))) { s1 with heap := h', toks := tk } :=
      I1.laid (fun c o x => kk c o (k2 c o x)) hle ⟨by rw [List.length_map, sizeLine_eq]; omega, out.toList, e, hr, by rw [Array.toArray_toList]; exact hlst⟩
    have e3 : ({ s2 with heap := h', toks := tk } : Shared) = { s1 with heap := h', toks := tk } := by rw [e2]
    rw [e3]
    exact ⟨.ref D, _, I2, rfl, q1 D ns' (I1.hok.fresh hle) hp⟩
end L2

end
section
set_option maxHeartbeats 3997000
namespace L2
open PySem PySem.Spec PyProof.Rows
end L2
namespace My
open PySem L2 PyProof.Rows
section
variable {K : PySem.W.Frag}
/-- the heard entries -/
def nh (rw : List (Option Int)) : Nat := (rw.filter Option.isSome).length
theorem nh_take (rw : List (Option Int)) (i : Nat) : nh (rw.take i) ≤ nh rw := by
  unfold nh
  exact ((List.take_sublist i rw).filter _).length_le
theorem nh_len (rw : List (Option Int)) : nh rw ≤ rw.length := List.length_filter_le _ _
theorem nh_snoc {rw : List (Option Int)} {i : Nat} {o : Option Int} (h : rw[i]? = some o) : nh (rw.take (i + 1)) = nh (rw.take i) + if o.isSome then 1 else 0 := by
  unfold nh
  rw [take_snoc h, List.filter_append, List.length_append]
  cases o <;> rfl
theorem nh_start (a b : Nat) : nh (List.replicate a (some 0) ++ List.replicate b none) = a := by
  unfold nh
  rw [List.filter_append, List.length_append]
  simp
structure RowAt (K : PySem.W.Frag) (H : Hp) (r : Addr) (n : Nat) (rw : List (Option Int)) : Prop where
  at' : SqL K H r (rw.map enc)
  len : rw.length = n
theorem RowAt.same {H H' : Hp} {r : Addr} {n : Nat} {rw : List (Option Int)} (s : Same H H') (h : RowAt K H r n rw) : RowAt K H' r n rw := ⟨s.seq h.at', h.len⟩
/-- a list of triples -/
def TrAt (H : Hp) (a : Addr) (ts : List (Int × Int × Int)) : Prop := ∃ bs : List Addr, H a = some (.lst (bs.map V.ref)) ∧ bs.length = ts.length ∧ ∀ (i : Nat) (b : Addr) (q : Int × Int × Int), bs[i]? = some b → ts[i]? = some q → H b = some (.tup [.int q.1, .int q.2.1, .int q.2.2])
def sp_heard_points (K : PySem.W.Frag) : Sp := fun vs H Q _ => ∃ (c tt r : Addr) (p k : Int) (pl : List Int) (rw : List (Option Int)), vs = [.ref c, .ref r] ∧ CodeAt H c tt p k pl ∧ RowAt K H r pl.length rw ∧ pl.length ≤ 1000 ∧
  ∀ (l : Addr) (ys : List V) (H' : Hp), H l = none → Same H H' → ys.length ≤ nh rw → H' l = some (.lst ys) → Q (.ref l) H'
def sp_heard_at (K : PySem.W.Frag) : Sp := fun vs H Q _ => ∃ (r a : Addr) (n : Nat) (rw : List (Option Int)) (ms : List Int), vs = [.ref r, .ref a] ∧ RowAt K H r n rw ∧ SqL K H a (ms.map V.int) ∧ n ≤ 1000 ∧
  ∀ (l : Addr) (rw' : List (Option Int)) (H' : Hp), H l = none → Same H H' → RowAt K H' l n rw' → Q (.ref l) H'
def sp_weighted_points (K : PySem.W.Frag) : Sp := fun vs H Q _ => ∃ (c tt g : Addr) (p k : Int) (pl : List Int) (ts : List (Int × Int × Int)), vs = [.ref c, .ref g] ∧ CodeAt H c tt p k pl ∧ TrAt H g ts ∧ ts.length ≤ 60 ∧
  ∀ (l : Addr) (ts' : List (Int × Int × Int)) (H' : Hp), H l = none → Same H H' → ts'.length ≤ ts.length → TrAt H' l ts' → Q (.ref l) H'
def sp_most_weight (K : PySem.W.Frag) : Sp := fun vs H Q _ => ∃ (a : Addr) (m : Int) (ts : List (Int × Int × Int)), vs = [.ref a, .int m] ∧ TrAt H a ts ∧ ts.length ≤ 60 ∧ ∀ (v : Int) (H' : Hp), 0 ≤ v → Same H H' → Q (.int v) H'
theorem sum_nn : ∀ {ns : List Int}, (∀ n ∈ ns, 0 ≤ n) → 0 ≤ ns.sum
  | [], _ => by simp
  | n :: ns, h => by
    rw [List.sum_cons]
    have := sum_nn (ns := ns) fun m hm => h m (List.mem_cons_of_mem _ hm)
    have := h n (by simp)
    omega
/-- a dict of numbers that are not below 0 -/
def NnD (kvs : List (Key × V)) (n : Nat) : Prop := ∃ ns : List Int, kvs.map (·.2) = ns.map V.int ∧ (∀ m ∈ ns, 0 ≤ m) ∧ ns.length ≤ n
theorem nnD_nil : NnD [] 0 := ⟨[], rfl, by simp, Nat.le_refl _⟩
theorem nnD_val {kvs : List (Key × V)} {n : Nat} {k : Key} {v : V} (h : NnD kvs n) (e : valV kvs k = some v) : ∃ i : Int, v = .int i ∧ 0 ≤ i := by
  obtain ⟨ns, h1, h2, _⟩ := h
  unfold valV at e
  rw [Option.map_eq_some_iff] at e
  obtain ⟨q, hq, rfl⟩ := e
  have hm : q.2 ∈ kvs.map (·.2) := List.mem_map_of_mem (List.mem_of_find?_eq_some hq)
  rw [h1] at hm
  obtain ⟨i, hi, ei⟩ := List.mem_map.mp hm
  exact ⟨i, ei.symm, h2 i hi⟩
theorem nnD_any : ∀ {kvs : List (Key × V)} {ns : List Int}, kvs.map (·.2) = ns.map V.int → (∀ m ∈ ns, 0 ≤ m) → ∀ (k : Key) (i : Int), 0 ≤ i → ∃ ms : List Int, (kvs.map fun kv => if kv.1 = k then (kv.1, V.int i) else kv).map (·.2) = ms.map V.int ∧ (∀ m ∈ ms, 0 ≤ m) ∧ ms.length = ns.length
  | [], ns, e, h, k, i, hi => by
    have : ns = [] := by simpa using e.symm
    subst this
    exact ⟨[], rfl, by simp, rfl⟩
  | kv :: kvs, [], e, h, k, i, hi => by cases e
  | kv :: kvs, n :: ns, e, h, k, i, hi => by
    rw [List.map_cons, List.map_cons] at e
    injection e with e1 e2
    obtain ⟨ms, q1, q2, q3⟩ := nnD_any e2 (fun m hm => h m (List.mem_cons_of_mem _ hm)) k i hi
    by_cases hk : kv.1 = k
    · refine ⟨i :: ms, ?_, ?_, by rw [List.length_cons, List.length_cons, q3]⟩
      · rw [List.map_cons, List.map_cons, List.map_cons, q1, if_pos hk]
      · intro m hm
        rcases List.mem_cons.mp hm with z | z
        · rw [z]; exact hi
        · exact q2 m z
    · refine ⟨n :: ms, ?_, ?_, by rw [List.length_cons, List.length_cons, q3]⟩
      · rw [List.map_cons, List.map_cons, List.map_cons, q1, if_neg hk, e1]
      · intro m hm
        rcases List.mem_cons.mp hm with z | z
        · rw [z]; exact h n (by simp)
        · exact q2 m z
theorem nnD_put {kvs : List (Key × V)} {n : Nat} {k : Key} {i : Int} (h : NnD kvs n) (hi : 0 ≤ i) : NnD (putK kvs k (.int i)) (n + 1) := by
  obtain ⟨ns, h1, h2, h3⟩ := h
  unfold putK
  split
  · obtain ⟨ms, q1, q2, q3⟩ := nnD_any h1 h2 k i hi
    exact ⟨ms, q1, q2, by omega⟩
  · refine ⟨ns ++ [i], by rw [List.map_append, List.map_append, h1]; rfl, ?_, by rw [List.length_append]; simp; omega⟩
    intro m hm
    rcases List.mem_append.mp hm with z | z
    · exact h2 m z
    · rw [List.mem_singleton.mp z]; exact hi
theorem nnD_len {kvs : List (Key × V)} {n : Nat} (h : NnD kvs n) : kvs.length ≤ n := by
  obtain ⟨ns, h1, _, h3⟩ := h
  have := congrArg List.length h1
  rw [List.length_map, List.length_map] at this
  omega
/-- the slice of a list of such numbers -/
theorem cut_nn {ns : List Int} (h : ∀ n ∈ ns, 0 ≤ n) (hi : Option Int) : ∃ ms : List Int, cutV (ns.map V.int) none hi = ms.map V.int ∧ ∀ m ∈ ms, 0 ≤ m := by
  refine ⟨(ns.drop (HT.sIx (ns.map V.int).length 0 none)).take (HT.sIx (ns.map V.int).length (ns.map V.int).length hi - HT.sIx (ns.map V.int).length 0 none), ?_, fun m hm => h m (List.mem_of_mem_drop (List.mem_of_mem_take hm))⟩
  unfold cutV; rw [List.map_take, List.map_drop]
end
end My

end
section
set_option maxHeartbeats 3999000
namespace My
open PySem L2 PyProof.Rows
def top (i : Nat) : Stmt := PySem.Challenge.pw_slipcurve_k06_too_few_by_all_doors.main.body.getD i (.Pass ⟨0, 0, 0, 0⟩)
abbrev s_heard_points : Stmt := top 19
abbrev s_all_near : Stmt := top 24
abbrev s_nearest : Stmt := top 25
abbrev s_check_curves : Stmt := top 44
abbrev s_curve_for : Stmt := top 45
abbrev s_weighted_points : Stmt := top 47
abbrev s_most_weight : Stmt := top 49
abbrev s_heavy : Stmt := top 52
abbrev s_curve_by : Stmt := top 53
abbrev s_heard_at : Stmt := top 55
abbrev s_joint_near : Stmt := top 56
abbrev s_check_many : Stmt := top 58
abbrev s_due_of : Stmt := top 59
abbrev s_many_near : Stmt := top 61
abbrev s_paper_of : Stmt := top 69
abbrev s_paper_holds : Stmt := top 70
abbrev s_near_by : Stmt := top 71
abbrev s_l_cell : Stmt := top 73
abbrev s_l_draws : Stmt := top 74
abbrev s_l_code : Stmt := top 75
abbrev s_l_value : Stmt := top 76
abbrev s_l_polynomial : Stmt := top 77
abbrev s_l_row : Stmt := top 78
abbrev s_l_word : Stmt := top 79
abbrev s_l_asked : Stmt := top 80
abbrev s_l_told : Stmt := top 81
abbrev s_law : Stmt := top 82
structure Adr where
  SlipError : Addr
  TooFew : Addr
  NoCurve : Addr
  NoPaper : Addr
  NoPlace : Addr
  NoNumber : Addr
  Heard : Addr
  NotHeard : Addr
  NothingLeft : Addr
  NoText : Addr
  NoRow : Addr
  heard_points : Addr
  all_near : Addr
  nearest : Addr
  check_curves : Addr
  curve_for : Addr
  weighted_points : Addr
  most_weight : Addr
  heavy : Addr
  curve_by : Addr
  heard_at : Addr
  joint_near : Addr
  check_many : Addr
  due_of : Addr
  many_near : Addr
  paper_of : Addr
  paper_holds : Addr
  near_by : Addr
  l_cell : Addr
  l_draws : Addr
  l_code : Addr
  l_value : Addr
  l_polynomial : Addr
  l_row : Addr
  l_word : Addr
  l_asked : Addr
  l_told : Addr
  law : Addr
/-- what isinstance tells of an exception of the class at C -/
structure KW (K : PySem.W.Frag) (t : Adr) (C : Addr) (b0 b1 b2 b3 b4 b5 b6 b7 b8 b9 : Bool) : Prop where
  i0 : PySem.W.kitOne K (.ref C) (.ref t.TooFew) = some b0
  i1 : PySem.W.kitOne K (.ref C) (.ref t.NoCurve) = some b1
  i2 : PySem.W.kitOne K (.ref C) (.ref t.NoPaper) = some b2
  i3 : PySem.W.kitOne K (.ref C) (.ref t.NoPlace) = some b3
  i4 : PySem.W.kitOne K (.ref C) (.ref t.NoNumber) = some b4
  i5 : PySem.W.kitOne K (.ref C) (.ref t.Heard) = some b5
  i6 : PySem.W.kitOne K (.ref C) (.ref t.NotHeard) = some b6
  i7 : PySem.W.kitOne K (.ref C) (.ref t.NothingLeft) = some b7
  i8 : PySem.W.kitOne K (.ref C) (.ref t.NoText) = some b8
  i9 : PySem.W.kitOne K (.ref C) (.ref t.NoRow) = some b9
  iv : PySem.W.kitOne K (.ref C) (.type "ValueError") = some true
  xc : Xc K C
  sl : PySem.W.kitCls K (.ref C) (.ref t.SlipError) = some true
structure Txt (K : PySem.W.Frag) (mg : Str → Option Value) (t : Adr) : Prop where
  len_ : mg "len" = none
  range_ : mg "range" = none
  list_ : mg "list" = none
  tuple_ : mg "tuple" = none
  min_ : mg "min" = none
  max_ : mg "max" = none
  isinstance_ : mg "isinstance" = none
  zip_ : mg "zip" = none
  enumerate_ : mg "enumerate" = none
  sum_ : mg "sum" = none
  sorted_ : mg "sorted" = none
  ValueError_ : mg "ValueError" = none
  g_MOST_PAPER_WEIGHT : ∃ q, mg "MOST_PAPER_WEIGHT" = some (.int 4 q)
  x_SlipError : mg "SlipError" = some (.ref t.SlipError)
  x_TooFew : mg "TooFew" = some (.ref t.TooFew)
  x_NoCurve : mg "NoCurve" = some (.ref t.NoCurve)
  x_NoPaper : mg "NoPaper" = some (.ref t.NoPaper)
  x_NoPlace : mg "NoPlace" = some (.ref t.NoPlace)
  x_NoNumber : mg "NoNumber" = some (.ref t.NoNumber)
  x_Heard : mg "Heard" = some (.ref t.Heard)
  x_NotHeard : mg "NotHeard" = some (.ref t.NotHeard)
  x_NothingLeft : mg "NothingLeft" = some (.ref t.NothingLeft)
  x_NoText : mg "NoText" = some (.ref t.NoText)
  x_NoRow : mg "NoRow" = some (.ref t.NoRow)
  xi_TooFew : PySem.W.excIn K t.TooFew vErr "ValueError.__new__" = true
  xi_NoCurve : PySem.W.excIn K t.NoCurve vErr "ValueError.__new__" = true
  kw_TooFew : KW K t t.TooFew true false false false false false false false false false
  kw_NoCurve : KW K t t.NoCurve false true false false false false false false false false
  sb : PySem.W.mroIn K t.SlipError (.type "BaseException") = some true
  m_heard_points : mg "heard_points" = some (.ref t.heard_points)
  m_all_near : mg "all_near" = some (.ref t.all_near)
  m_nearest : mg "nearest" = some (.ref t.nearest)
  m_check_curves : mg "check_curves" = some (.ref t.check_curves)
  m_curve_for : mg "curve_for" = some (.ref t.curve_for)
  m_weighted_points : mg "weighted_points" = some (.ref t.weighted_points)
  m_most_weight : mg "most_weight" = some (.ref t.most_weight)
  m_heavy : mg "heavy" = some (.ref t.heavy)
  m_curve_by : mg "curve_by" = some (.ref t.curve_by)
  m_heard_at : mg "heard_at" = some (.ref t.heard_at)
  m_joint_near : mg "joint_near" = some (.ref t.joint_near)
  m_check_many : mg "check_many" = some (.ref t.check_many)
  m_due_of : mg "due_of" = some (.ref t.due_of)
  m_many_near : mg "many_near" = some (.ref t.many_near)
  m_paper_of : mg "paper_of" = some (.ref t.paper_of)
  m_paper_holds : mg "paper_holds" = some (.ref t.paper_holds)
  m_near_by : mg "near_by" = some (.ref t.near_by)
  m_l_cell : mg "_law_cell" = some (.ref t.l_cell)
  m_l_draws : mg "_law_draws" = some (.ref t.l_draws)
  m_l_code : mg "_law_code" = some (.ref t.l_code)
  m_l_value : mg "_law_value" = some (.ref t.l_value)
  m_l_polynomial : mg "_law_polynomial" = some (.ref t.l_polynomial)
  m_l_row : mg "_law_row" = some (.ref t.l_row)
  m_l_word : mg "_law_word" = some (.ref t.l_word)
  m_l_asked : mg "_law_asked" = some (.ref t.l_asked)
  m_l_told : mg "_law_told" = some (.ref t.l_told)
  f_heard_points : ∃ fd, Fun K "heard_points" "heard_points" s_heard_points t.heard_points fd ∧ Binds K fd ["code", "row"] []
  f_all_near : ∃ fd, Fun K "all_near" "all_near" s_all_near t.all_near fd ∧ Binds K fd ["code", "row", "t"] []
  f_nearest : ∃ fd, Fun K "nearest" "nearest" s_nearest t.nearest fd ∧ Binds K fd ["code", "row"] []
  f_check_curves : ∃ fd, Fun K "check_curves" "check_curves" s_check_curves t.check_curves fd ∧ Binds K fd ["k"] []
  f_curve_for : ∃ fd, Fun K "curve_for" "curve_for" s_curve_for t.curve_for fd ∧ Binds K fd ["code", "row", "m"] []
  f_weighted_points : ∃ fd, Fun K "weighted_points" "weighted_points" s_weighted_points t.weighted_points fd ∧ Binds K fd ["code", "guesses"] []
  f_most_weight : ∃ fd, Fun K "most_weight" "most_weight" s_most_weight t.most_weight fd ∧ Binds K fd ["points", "many"] []
  f_heavy : ∃ fd, Fun K "heavy" "heavy" s_heavy t.heavy fd ∧ Binds K fd ["code", "guesses", "least"] []
  f_curve_by : ∃ fd, Fun K "curve_by" "curve_by" s_curve_by t.curve_by fd ∧ Binds K fd ["code", "guesses"] []
  f_heard_at : ∃ fd, Fun K "heard_at" "heard_at" s_heard_at t.heard_at fd ∧ Binds K fd ["row", "numbers"] []
  f_joint_near : ∃ fd, Fun K "joint_near" "joint_near" s_joint_near t.joint_near fd ∧ Binds K fd ["code", "rows", "t"] []
  f_check_many : ∃ fd, Fun K "check_many" "check_many" s_check_many t.check_many fd ∧ Binds K fd ["code", "t"] []
  f_due_of : ∃ fd, Fun K "due_of" "due_of" s_due_of t.due_of fd ∧ Binds K fd ["code", "t"] []
  f_many_near : ∃ fd, Fun K "many_near" "many_near" s_many_near t.many_near fd ∧ Binds K fd ["code", "t"] []
  f_paper_of : ∃ fd, Fun K "paper_of" "paper_of" s_paper_of t.paper_of fd ∧ Binds K fd ["code", "row", "t"] []
  f_paper_holds : ∃ fd, Fun K "paper_holds" "paper_holds" s_paper_holds t.paper_holds fd ∧ Binds K fd ["code", "row", "t", "paper"] []
  f_near_by : ∃ fd, Fun K "near_by" "near_by" s_near_by t.near_by fd ∧ Binds K fd ["code", "row", "t", "paper"] []
  f_l_cell : ∃ fd, Fun K "_law_cell" "_law_cell" s_l_cell t.l_cell fd ∧ Binds K fd ["script", "k"] []
  f_l_draws : ∃ fd, Fun K "_law_draws" "_law_draws" s_l_draws t.l_draws fd ∧ Binds K fd ["script", "k", "many", "base"] []
  f_l_code : ∃ fd, Fun K "_law_code" "_law_code" s_l_code t.l_code fd ∧ Binds K fd ["script", "at", "most_k", "most_n"] []
  f_l_value : ∃ fd, Fun K "_law_value" "_law_value" s_l_value t.l_value fd ∧ Binds K fd ["p", "polynomial", "x"] []
  f_l_polynomial : ∃ fd, Fun K "_law_polynomial" "_law_polynomial" s_l_polynomial t.l_polynomial fd ∧ Binds K fd ["draws", "p", "k"] []
  f_l_row : ∃ fd, Fun K "_law_row" "_law_row" s_l_row t.l_row fd ∧ Binds K fd ["script", "at", "code"] []
  f_l_word : ∃ fd, Fun K "_law_word" "_law_word" s_l_word t.l_word fd ∧ Binds K fd ["e"] []
  f_l_asked : ∃ fd, Fun K "_law_asked" "_law_asked" s_l_asked t.l_asked fd ∧ Binds K fd ["which", "code", "row", "t"] []
  f_l_told : ∃ fd, Fun K "_law_told" "_law_told" s_l_told t.l_told fd ∧ Binds K fd ["which", "code", "row", "t"] []
section
variable {P : Program} {w : World} {K : PySem.W.Frag} {mg : Str → Option Value} {base : Heap} {t : Adr}
theorem sc_l_cell : FnScope ["script", "k"] ["script", "k"] (defScope s_l_cell) := ⟨rfl, rfl, rfl, by decide +kernel, rfl, by decide +kernel, by decide +kernel⟩
theorem ok_l_cell {fd : FuncData} (T : Txt K mg t) (F : Fun K "_law_cell" "_law_cell" s_l_cell t.l_cell fd) : FnOk P w K mg base CX0 1 t.l_cell fd ["script", "k"] (sp_l_cell K) := by
  refine F.ok sc_l_cell (fun vs H Q E h => ?_) (fun cdv A outer s H vs Q E hr h => ?_)
  · obtain ⟨a, ns, k, rfl, _⟩ := h; rfl
  · obtain ⟨a, ns, k, rfl, hS, hlen, k0, k1, q⟩ := h
    refine ⟨_, (pss_cons (ps_if (pt_cmpR op_lt (L2.pv 1) (pe_callB call_len_seq (by rfl) T.len_ boot_len (pa_cons (L2.pv 0) pa_nil)) (nomark _)) (pss_one (ps_ret (pe_ix ix_list (L2.pv 0) (L2.pv 1) (fun _ _ => rfl)))) pss_nil)
      (by exact (pss_cons (ps_if (pt_cmpR op_eq (pe_callB call_len_seq (by rfl) T.len_ boot_len (pa_cons (L2.pv 0) pa_nil)) pe_int (nomark _)) (pss_one (ps_ret (pe_op op_add (pe_op op_mul pe_int (L2.pv 1)) pe_int))) pss_nil)
      (by exact (pss_one (ps_ret (pe_op op_add (pe_op op_mod (pe_ix ix_list (L2.pv 0) (pe_op op_mod (L2.pv 1) (pe_callB call_len_seq (by rfl) T.len_ boot_len (pa_cons (L2.pv 0) pa_nil))) (fun _ _ => rfl)) pe_int) (pe_op op_mul pe_int (L2.pv 1))))))))), ?_⟩
    refine ⟨_, rfl, _, rfl, a, _, rfl, .inl hS, _, _, rfl, rfl, _, rfl, ?_⟩; rw [List.length_map]
    refine ite2 (fun h => ?_) (fun h => ?_)
    · have h : k < (ns.length : Int) := by simpa using h
      obtain ⟨c, hc⟩ := at_ints k0 h
      exact ⟨_, rfl, _, rfl, a, _, k, _, rfl, rfl, hS, hc, q c⟩
    · have h : ¬ k < (ns.length : Int) := by simpa using h
      refine ⟨_, rfl, a, _, rfl, .inl hS, rfl, _, rfl, ?_⟩
      rw [List.length_map]
      refine ite2 (fun h2 => ?_) (fun h2 => ?_)
      · exact ⟨_, rfl, _, _, rfl, rfl, .inl ⟨by decide, by decide⟩, _, _, rfl, rfl, q _⟩
      · have h2 : ¬ V.int (ns.length : Int) = V.int 0 := by simpa using h2
        have hpos : 0 < (ns.length : Int) := by
          have : (ns.length : Int) ≠ 0 := fun z => h2 (by rw [z])
          omega
        have m0 := Int.emod_nonneg k (show (ns.length : Int) ≠ 0 by omega)
        have m1 := Int.emod_lt_of_pos k hpos
        obtain ⟨c, hc⟩ := at_ints m0 m1
        refine ⟨_, rfl, _, rfl, _, rfl, a, _, rfl, .inl hS, _, _, rfl, rfl, by rw [List.length_map]; exact hpos, a, _, _, _, rfl, rfl, hS, by rw [List.length_map]; exact hc, _, _, rfl, rfl, (by show (0 : Int) < 1000003; decide), ?_⟩
        exact ⟨_, rfl, _, _, rfl, rfl, .inl ⟨by decide, by decide⟩, _, _, rfl, rfl, q _⟩

theorem sc_l_draws : FnScope ["script", "k", "many", "base", "primes", "cell", "rest", "row", "j", "mash"] ["script", "k", "many", "base"] (defScope s_l_draws) := ⟨rfl, rfl, rfl, by decide +kernel, rfl, by decide +kernel, by decide +kernel⟩
theorem ok_l_draws {fd : FuncData} (T : Txt K mg t) (F : Fun K "_law_draws" "_law_draws" s_l_draws t.l_draws fd) : FnOk P w K mg base CX0 2 t.l_draws fd ["script", "k", "many", "base"] (sp_l_draws K) := by
  obtain ⟨fd_l_cell, F_l_cell, b_l_cell⟩ := T.f_l_cell
  have G_l_cell := ok_l_cell (P := P) (w := w) (base := base) T F_l_cell
  refine F.ok sc_l_draws (fun vs H Q E h => ?_) (fun cdv A outer s H vs Q E hr h => ?_)
  · obtain ⟨a, ns, k, many, base, rfl, _⟩ := h
    rfl
  · obtain ⟨a, ns, k, many, bs, rfl, hS, hlen, k0, k1, m0, m1, b0, b1, q⟩ := h
    refine ⟨_, (pss_cons (ps_set (i := 4) sc_l_draws.nd rfl (Or.inl rfl) (pe_tup (pa_cI (by exact (pa_cI (by exact (pa_cI (by exact (pa_cI (by exact (pa_cI (by exact (pa_cons pe_int (pa_cons pe_int (pa_cons pe_int pa_nil)))))))))))))))
      (by exact (pss_cons (ps_set (i := 5) sc_l_draws.nd rfl (Or.inl rfl) (pe_call G_l_cell (hr.mono (by decide)) rfl T.m_l_cell F_l_cell.kp b_l_cell .nil pass0 (pa_cons (L2.pv 0) (pa_cons (L2.pv 1) pa_nil))))
      (by exact (pss_cons (ps_set (i := 6) sc_l_draws.nd rfl (Or.inl rfl) pe_int)
      (by exact (pss_cons (ps_if (pt_cmpR op_ge (L2.pv 5) (pe_op op_pow pe_int pe_int) (nomark _)) (pss_one (ps_set (i := 6) sc_l_draws.nd rfl (Or.inl rfl) (L2.pv 5))) pss_nil)
      (by exact (pss_cons (ps_set (i := 7) sc_l_draws.nd rfl (Or.inl rfl) (pe_lst pa_nil))
      (by exact (pss_cons (ps_for PassesOwn.never rfl (pi_range1 rfl T.range_ (pa_cons (L2.pv 2) pa_nil)) (pg_name (i := 8) sc_l_draws.nd rfl (Or.inl rfl)) (pss_cons (ps_set (i := 9) sc_l_draws.nd rfl (Or.inl rfl) (pe_op op_mul (pe_op op_mod (L2.pv 5) (pe_ix ix_tup (L2.pv 4) (pe_op op_mod (L2.pv 8) pe_int) (fun _ _ => rfl))) (pe_op op_add pe_int (pe_op op_mul (pe_op op_mul pe_int (L2.pv 8)) (L2.pv 8)))))
      (by exact (pss_cons (ps_set (i := 9) sc_l_draws.nd rfl (Or.inl rfl) (pe_op op_add (pe_op op_add (L2.pv 9) (pe_op op_mul (pe_op op_mul pe_int (pe_op op_add (L2.pv 8) pe_int)) (pe_op op_add (L2.pv 8) pe_int))) (pe_op op_mul pe_int (L2.pv 1))))
      (by exact (pss_cons (ps_set (i := 9) sc_l_draws.nd rfl (Or.inl rfl) (pe_op op_mod (L2.pv 9) (pe_ix ix_tup (L2.pv 4) (pe_op op_mod (pe_op op_add (pe_op op_mul pe_int (L2.pv 8)) (L2.pv 1)) pe_int) (fun _ _ => rfl))))
      (by exact (pss_cons (ps_set (i := 9) sc_l_draws.nd rfl (Or.inl rfl) (pe_op op_mod (pe_op op_mul (pe_op op_mul (L2.pv 9) (L2.pv 9)) (L2.pv 9)) (pe_ix ix_tup (L2.pv 4) (pe_op op_mod (pe_op op_add (L2.pv 8) pe_int) pe_int) (fun _ _ => rfl))))
      (by exact (pss_cons (ps_if (pt_cmpR op_gt (L2.pv 6) pe_int (nomark _)) (pss_one (ps_set (i := 9) sc_l_draws.nd rfl (Or.inl rfl) (L2.pv 6))) pss_nil)
      (by exact (pss_cons (ps_expr (pe_bm PySem.F.plainAttrs_list PySem.F.slot_list_append PySem.F.type_list_append mt_append (L2.pv 7) (pa_cons (pe_op op_mod (L2.pv 9) (L2.pv 3)) pa_nil)))
      (by exact (pss_one (ps_set (i := 6) sc_l_draws.nd rfl (Or.inl rfl) (pe_op op_fdiv (L2.pv 6) (L2.pv 3)))))))))))))))))
      (by exact (pss_one (ps_ret (L2.pv 7))))))))))))))), ?_⟩
    refine ⟨by show 8 ≤ sizeLine; rw [sizeLine_eq]; decide, fun tp ht => ?_⟩
    have s1 : Same H (upd H tp (.tup prs8)) := same_upd ht
    refine ⟨_, rfl, _, rfl, a, ns, k, rfl, s1.seq hS, hlen, k0, k1, fun c => ?_⟩
    refine ⟨_, rfl, _, _, rfl, rfl, ⟨by decide, by decide, by decide⟩, _, _, rfl, rfl, _, rfl, ?_⟩
    refine ite2 (fun _ => ⟨_, rfl, ?_⟩) (fun _ => ?_)
    all_goals
      refine ⟨Nat.zero_le _, fun l hl => ?_⟩
      have hln : H l = none := Same.free s1 hl
      have htl : tp ≠ l := ne_of_none upd_same hl
      refine ⟨_, rfl, many, rfl, by omega, by omega, for_range (lo := 0) (n := many.toNat) (fun i σ H' => ∃ (r : Int) (v8 v9 : Option V) (ds : List Int), σ = [some (.ref a), some (.int k), some (.int many), some (.int bs), some (.ref tp), some (.int c), some (.int r), some (.ref l), v8, v9] ∧ DrawsOk i bs ds ∧ Same H H' ∧ H' tp = some (.tup prs8) ∧ H' l = some (.lst (ds.map V.int)))
        ⟨_, none, none, [], rfl, ⟨rfl, by simp⟩, same_upd' s1 hln, by rw [upd_ne htl]; exact upd_same, upd_same⟩ ?_ ?_⟩
      · rintro i σ H2 hi ⟨r, v8, v9, ds, rfl, hd, s2, htp, hrow⟩
        obtain ⟨q1, e1, q1p, q1l⟩ := at_prs8m (0 + (i : Int))
        obtain ⟨q2, e2, q2p, q2l⟩ := at_prs8m (3 * (0 + (i : Int)) + k)
        obtain ⟨q3, e3, q3p, q3l⟩ := at_prs8m (0 + (i : Int) + 5)
        have c1 := Int.emod_nonneg c (show q1 ≠ 0 by omega)
        have c2 := Int.emod_lt_of_pos c q1p
        have hi' : (i : Int) < 1000 := by omega
        refine ⟨_, rfl, _, rfl, _, rfl, _, _, rfl, rfl, (by show (0 : Int) < 8; decide), tp, _, _, _, rfl, rfl, SqT.of htp, e1, _, _, rfl, rfl, q1p, _, rfl, _, _, rfl, rfl, .inl ⟨by decide, by decide⟩, _, rfl, _, _, rfl, rfl, .inl ⟨by omega, by omega⟩, _, _, rfl, rfl, _, _, rfl, rfl, .inl ⟨by omega, by omega⟩, ?_⟩
        refine ⟨_, rfl, _, rfl, _, _, rfl, rfl, _, _, rfl, rfl, .inl ⟨by decide, by decide⟩, _, rfl, _, _, rfl, rfl, _, _, rfl, rfl, .inl ⟨by omega, by omega⟩, _, _, rfl, rfl, _, rfl, _, _, rfl, rfl, .inl ⟨by decide, by decide⟩, _, _, rfl, rfl, ?_⟩
        refine ⟨_, rfl, _, rfl, _, rfl, _, _, rfl, rfl, .inl ⟨by decide, by decide⟩, _, rfl, _, _, rfl, rfl, _, _, rfl, rfl, (by show (0 : Int) < 8; decide), tp, _, _, _, rfl, rfl, SqT.of htp, e2, _, _, rfl, rfl, q2p, ?_⟩
        generalize c % q1 * (48271 + 2 * (0 + (i : Int)) * (0 + (i : Int))) + 7919 * (0 + (i : Int) + 1) * (0 + (i : Int) + 1) + 104729 * k = ms
        have d1 := Int.emod_nonneg ms (show q2 ≠ 0 by omega)
        have d2 := Int.emod_lt_of_pos ms q2p
        refine ⟨_, rfl, _, rfl, _, _, rfl, rfl, .inl ⟨by omega, by omega⟩, _, rfl, _, _, rfl, rfl, .inr ⟨by omega, by omega⟩, _, rfl, _, rfl, _, _, rfl, rfl, _, _, rfl, rfl, (by show (0 : Int) < 8; decide), tp, _, _, _, rfl, rfl, SqT.of htp, e3, _, _, rfl, rfl, q3p, ?_⟩
        refine ⟨_, rfl, _, _, rfl, rfl, _, rfl, ?_⟩
        have hdl := hd.1
        refine ite2 (fun _ => ⟨_, rfl, ?_⟩) (fun _ => ?_)
        all_goals
          refine ⟨_, rfl, .inl ⟨rfl, _, SqL.of hrow⟩, _, rfl, _, rfl, _, _, rfl, rfl, b0, l, _, _, rfl, rfl, hrow, small_line (by rw [List.length_map]; omega), ?_⟩
          refine ⟨_, rfl, _, rfl, _, _, rfl, rfl, ⟨b0, b1⟩, ?_⟩
          refine ⟨_, _, _, ds ++ [_], rfl, ⟨by rw [List.length_append, hdl]; rfl, fun d hm => ?_⟩, same_upd' s2 hln, by rw [upd_ne htl]; exact htp, by rw [upd_same, List.map_append]; rfl⟩; rcases List.mem_append.mp hm with hm | hm
          · exact hd.2 d hm
          · have e := List.mem_singleton.mp hm
            rw [e]
            exact ⟨Int.emod_nonneg _ (by omega), Int.emod_lt_of_pos _ b0⟩
      · rintro σ H2 ⟨r, v8, v9, ds, rfl, hd, s2, htp, hrow⟩
        exact ⟨_, rfl, q l ds H2 hln s2 hd hrow⟩
theorem sc_l_code : FnScope ["script", "at", "most_k", "most_n", "plan", "primes", "p", "k", "many", "left"] ["script", "at", "most_k", "most_n"] (defScope s_l_code) := ⟨rfl, rfl, rfl, by decide +kernel, rfl, by decide +kernel, by decide +kernel⟩
theorem ok_l_code {fd : FuncData} (T : Txt K mg t) (F : Fun K "_law_code" "_law_code" s_l_code t.l_code fd) : FnOk P w K mg base CX0 3 t.l_code fd ["script", "at", "most_k", "most_n"] (sp_l_code K) := by
  obtain ⟨fd_l_draws, F_l_draws, b_l_draws⟩ := T.f_l_draws
  have G_l_draws := ok_l_draws (P := P) (w := w) (base := base) T F_l_draws
  refine F.ok sc_l_code (fun vs H Q E h => ?_) (fun cdv A outer s H vs Q E hr h => ?_)
  · obtain ⟨a, ns, at', mk, mn, rfl, _⟩ := h
    rfl
  · obtain ⟨a, ns, at', mk, mn, rfl, hS, hlen, a0, a1, k1, k5, kn, n16, q⟩ := h
    refine ⟨_, (pss_cons (ps_set (i := 4) sc_l_code.nd rfl (Or.inr rfl) (pe_call G_l_draws (hr.mono (by decide)) rfl T.m_l_draws F_l_draws.kp b_l_draws .nil pass0 (pa_cons (L2.pv 0) (by exact (pa_cons (L2.pv 1) (pa_cons pe_int (pa_cons pe_int pa_nil)))))))
      (by exact (by exact (@pss_ints _ 5 _ _ _ _ _ _ _ [5, 7, 11, 13, 17, 19, 23, 29, 31, 37, 41, 43, 47, 53, 59, 61, 67, 71, 73, 79, 83, 89, 97] (by decide +kernel) sc_l_code.nd rfl (Or.inl rfl) (by first | exact .inl rfl | exact .inr rfl) (by exact (pss_cons (ps_set (i := 6) sc_l_code.nd rfl (Or.inl rfl) (pe_ix ix_list (pe_lst (pa_cons (pe_ix ix_list (L2.pv 5) (pe_op op_mod (pe_ix ix_list (L2.pv 4) pe_int (fun _ _ => rfl)) pe_int) (fun _ _ => rfl)) (pa_cons (pe_ix ix_list (L2.pv 5) (pe_op op_mod (pe_ix ix_list (L2.pv 4) pe_int (fun _ _ => rfl)) pe_int) (fun _ _ => rfl)) pa_nil))) (pe_op op_mod (pe_ix ix_list (L2.pv 4) pe_int (fun _ _ => rfl)) pe_int) (fun _ _ => rfl)))
      (by exact (pss_cons (ps_set (i := 7) sc_l_code.nd rfl (Or.inl rfl) (pe_op op_add pe_int (pe_op op_mod (pe_ix ix_list (L2.pv 4) pe_int (fun _ _ => rfl)) (pe_callB (call_min2 rfl) (by rfl) T.min_ boot_min (pa_cons (L2.pv 2) (pa_cons (L2.pv 6) pa_nil))))))
      (by exact (pss_cons (ps_set (i := 8) sc_l_code.nd rfl (Or.inl rfl) (pe_op op_add (L2.pv 7) (pe_op op_mod (pe_ix ix_list (L2.pv 4) pe_int (fun _ _ => rfl)) (pe_op op_add (pe_op op_sub (pe_callB (call_min2 rfl) (by rfl) T.min_ boot_min (pa_cons (L2.pv 3) (pa_cons (L2.pv 6) pa_nil))) (L2.pv 7)) pe_int))))
      (by exact (pss_cons (ps_set (i := 9) sc_l_code.nd rfl (Or.inr rfl) (pe_callTy (call_list_rng rfl) (by rfl) T.list_ boot_list (pa_cons (pe_callTy call_range1 (by rfl) T.range_ boot_range (pa_cons (L2.pv 6) pa_nil)) pa_nil)))
      (by exact (pss_one (ps_ret (pe_tup (pa_cons (L2.pv 6) (pa_cons (L2.pv 7) (pa_cons (pe_callTy call_tuple_of (by rfl) T.tuple_ boot_tuple (pa_cons (pe_comp (CompSc.of (N' := ["j", "left", "plan"]) (ix := [none, some 9, some 4]) (defScope s_l_code) ["script", "at", "most_k", "most_n", "plan", "primes", "p", "k", "many", "left"] rfl rfl (by decide +kernel)) rfl (gk_name rfl) (pi_range1 rfl T.range_ (pa_cons (L2.pv 8) pa_nil)) (fun _ _ _ _ => (pg_name (i := 0) (show (["j", "left", "plan"] : List Str).Nodup by decide +kernel) rfl (Or.inl rfl))) (fun _ _ _ _ => pifs_nil) (fun _ _ _ _ => (pe_bmK (K := K) rfl PySem.F.plainAttrs_list PySem.F.slot_list_pop PySem.F.type_list_pop mt_popAt (L2.pv 1) (pa_cons (pe_op op_mod (pe_ix (ix_listK (K := K) rfl) (L2.pv 2) (pe_op op_add pe_int (L2.pv 0)) (fun _ _ => rfl)) (pe_callB (call_len_seqK (K := K) rfl) (by rfl) T.len_ boot_len (pa_cons (L2.pv 1) pa_nil))) pa_nil)))) pa_nil)) pa_nil))))))))))))))))))), ?_⟩
    refine ⟨_, rfl, _, rfl, a, ns, at', 20, 27720, rfl, hS, hlen, a0, a1, by decide, by decide, by decide, by decide, fun l ds H1 hl s1 hd hpl => ?_⟩
    have hdl : ds.length = 20 := hd.1
    have dat : ∀ m : Int, 0 ≤ m → m < 20 → ∃ c : Int, atI (ds.map V.int) m = some (.int c) := fun m h0 h1 => at_ints h0 (by omega)
    refine ⟨by show 23 ≤ sizeLine; rw [sizeLine_eq]; decide, fun pr hpr => ?_⟩
    have hlpr : l ≠ pr := ne_of_none hpl hpr
    obtain ⟨d0, ed0⟩ := dat 0 (by decide) (by decide)
    obtain ⟨d1, ed1⟩ := dat 1 (by decide) (by decide)
    obtain ⟨d2, ed2⟩ := dat 2 (by decide) (by decide)
    obtain ⟨d3, ed3⟩ := dat 3 (by decide) (by decide)
    have hp2 : (upd H1 pr (.lst (primesL.map V.int))) l = some (.lst (ds.map V.int)) := by rw [upd_ne hlpr]; exact hpl
    obtain ⟨p1, mp1, ep1⟩ := at_mem (ns := primesL) (k := d0 % 23) (Int.emod_nonneg _ (by decide)) (Int.emod_lt_of_pos _ (by decide))
    obtain ⟨p2, mp2, ep2⟩ := at_mem (ns := primesL) (k := d0 % 3) (Int.emod_nonneg _ (by decide)) (by have := Int.emod_lt_of_pos d0 (show (0 : Int) < 3 by decide); have e : (primesL.length : Int) = 23 := rfl; omega)
    obtain ⟨p, ep, hpp⟩ := at_two (x := p1) (y := p2) (m := d1 % 2) (Int.emod_nonneg _ (by decide)) (Int.emod_lt_of_pos _ (by decide))
    have mp : p ∈ primesL := by rcases hpp with e | e <;> rw [e] <;> assumption
    have rp := prime_rng mp
    refine ⟨_, rfl, _, rfl, l, _, _, _, rfl, rfl, SqL.of hp2, ed0, _, _, rfl, rfl, (by show (0 : Int) < 23; decide), pr, _, _, _, rfl, rfl, SqL.of upd_same, ep1,
      _, rfl, _, rfl, l, _, _, _, rfl, rfl, SqL.of hp2, ed0, _, _, rfl, rfl, (by show (0 : Int) < 3; decide), pr, _, _, _, rfl, rfl, SqL.of upd_same, ep2, two_le_line, fun l2 hl2 => ?_⟩
    have hll2 : l ≠ l2 := ne_of_none hp2 hl2
    have hp3 : (upd (upd H1 pr (.lst (primesL.map V.int))) l2 (.lst [.int p1, .int p2])) l = some (.lst (ds.map V.int)) := by rw [upd_ne hll2]; exact hp2
    refine ⟨_, rfl, l, _, _, _, rfl, rfl, SqL.of hp3, ed1, _, _, rfl, rfl, (by show (0 : Int) < 2; decide), l2, _, _, _, rfl, rfl, SqL.of upd_same, ep, ?_⟩
    -- k
    have hm1 : (0 : Int) < (if p < mk then p else mk) := by split <;> omega
    have hm2 : (if p < mk then p else mk) ≤ mk := by split <;> omega
    have hm3 : (if p < mk then p else mk) ≤ p := by split <;> omega
    refine ⟨_, rfl, l, _, _, _, rfl, rfl, SqL.of hp3, ed2, _, rfl, _, rfl, _, _, rfl, _, _, rfl, rfl, hm1, _, _, rfl, rfl, ?_⟩
    generalize (if p < mk then p else mk) = mm at hm1 hm2 hm3 ⊢
    have hk0 := Int.emod_nonneg d2 (show mm ≠ 0 by omega)
    have hk1 := Int.emod_lt_of_pos d2 hm1
    -- many
    have hn1 : (if p < mn then p else mn) ≤ mn := by split <;> omega
    have hn2 : (if p < mn then p else mn) ≤ p := by split <;> omega
    have hn3 : mm ≤ (if p < mn then p else mn) := by split <;> omega
    refine ⟨_, rfl, _, rfl, l, _, _, _, rfl, rfl, SqL.of hp3, ed3, _, rfl, _, rfl, _, _, rfl, _, rfl, _, _, rfl, rfl, _, _, rfl, rfl, _, _, rfl, rfl, (by omega), _, _, rfl, rfl, ?_⟩
    generalize (if p < mn then p else mn) = nn at hn1 hn2 hn3 ⊢
    have hq0 := Int.emod_nonneg d3 (show nn - (1 + d2 % mm) + 1 ≠ 0 by omega)
    have hq1 := Int.emod_lt_of_pos d3 (show 0 < nn - (1 + d2 % mm) + 1 by omega)
    -- left
    refine ⟨_, rfl, p, rfl, fun r hr2 => ⟨r, p, rfl, upd_same, by omega, by omega, fun lf hlf => ?_⟩⟩
    have hlr : l ≠ r := ne_of_none hp3 hr2
    have hlf1 : l ≠ lf := by
      refine ne_of_none (H := upd (upd (upd H1 pr (.lst (primesL.map V.int))) l2 (.lst [.int p1, .int p2])) r (.rng 0 p)) (o := .lst (ds.map V.int)) ?_ hlf
      rw [upd_ne hlr]; exact hp3
    have sA : Same H (upd (upd H1 pr (.lst (primesL.map V.int))) l2 (.lst [.int p1, .int p2])) := (s1.trans (same_upd hpr)).trans (same_upd hl2)
    have sB := (sA.trans (same_upd (o := .rng 0 p) hr2)).trans (same_upd (o := .lst ((intsTo 0 p.toNat).map V.int)) hlf)
    have hlfH : H lf = none := (sA.trans (same_upd (o := .rng 0 p) hr2)).free hlf
    obtain ⟨nd0, rg0⟩ := intsTo_ok p
    refine ⟨_, rfl, _, rfl, _, rfl, _, rfl, by omega, by omega, comp_by (n := (1 + d2 % mm + d3 % (nn - (1 + d2 % mm) + 1)).toNat) (fun i ys H' => ∃ xs ls : List Int, ys = xs.map V.int ∧ xs.length = i ∧ Same H H' ∧ H' l = some (.lst (ds.map V.int)) ∧ H' lf = some (.lst (ls.map V.int)) ∧ ls.length + i = p.toNat ∧ (xs ++ ls).Nodup ∧ ∀ y ∈ xs ++ ls, 0 ≤ y ∧ y < p)
      ⟨[], intsTo 0 p.toNat, rfl, rfl, sB, by rw [upd_ne hlf1, upd_ne hlr]; exact hp3, upd_same, by rw [intsTo_length]; rfl, by simpa using nd0, by simpa using rg0⟩ (fun i ys H' hi _ => hi) (fun ys H' _ => Nat.le_refl _) ?_ ?_⟩
    · rintro i x ys H4 H5 hi ⟨xs, ls, rfl, hxl, s4, hpl4, hlf4, hll, nd, rg⟩ ⟨rfl, rfl⟩
      refine gY ?_
      obtain ⟨c, ec⟩ := dat (4 + (0 + (i : Int))) (by omega) (by omega)
      have lpos : 0 < ls.length := by omega
      have lm : ((ls.map V.int).length : Int) = (ls.length : Int) := by rw [List.length_map]
      have c0 := Int.emod_nonneg c (show (ls.length : Int) ≠ 0 by omega)
      have c1 := Int.emod_lt_of_pos c (show (0 : Int) < ls.length by omega)
      have hsl := sizeLine_eq
      obtain ⟨y, ey⟩ : ∃ y, ls[(c % (ls.length : Int)).toNat]? = some y := ⟨ls[(c % (ls.length : Int)).toNat]'(by omega), by simp⟩
      refine ⟨_, rfl, .inl ⟨rfl, _, SqL.of hlf4⟩, _, rfl, _, rfl, _, _, rfl, rfl, l, _, _, _, rfl, rfl, SqL.of hpl4, ec, _, rfl, lf, _, rfl, .inl (SqL.of hlf4), _, _, rfl, rfl, (by rw [lm]; omega), lf, _, _, (c % (ls.length : Int)).toNat, .int y, rfl, rfl, hlf4, ?_⟩
      rw [lm]
      refine ⟨by omega, by omega, by rw [List.length_map]; exact seqIndex_of c0 c1, by rw [List.getElem?_map, ey]; rfl, small_line (by rw [List.length_map]; omega), xs ++ [y], ls.eraseIdx (c % (ls.length : Int)).toNat, by rw [List.map_append]; rfl, by rw [List.length_append, hxl]; rfl, same_upd' s4 hlfH, by rw [upd_ne hlf1]; exact hpl4, by rw [upd_same, erase_map], ?_, move_ok ey nd rg⟩
      rw [List.length_eraseIdx]
      split <;> omega
    · rintro ys H4 D ⟨xs, ls, rfl, hxl, s4, hpl4, hlf4, hll, nd, rg⟩ hD
      refine ⟨D, _, rfl, .inl ⟨SqL.of upd_same, fun tt htt => ⟨by show 3 ≤ sizeLine; rw [sizeLine_eq]; decide, fun c hc => ?_⟩⟩⟩
      have s5 := (s4.trans (same_upd (o := .lst (xs.map V.int)) hD)).trans (same_upd (o := .tup (xs.map V.int)) htt)
      refine q c tt p _ xs _ (s5.free hc) (s5.trans (same_upd hc)) ⟨mp, by omega, by omega, by omega, by omega, (List.nodup_append.mp nd).1, fun y hy => rg y (List.mem_append_left _ hy)⟩ upd_same ?_
      rw [upd_ne (ne_of_none upd_same hc)]
      exact upd_same
theorem sc_l_value : FnScope ["p", "polynomial", "x", "total", "power", "number"] ["p", "polynomial", "x"] (defScope s_l_value) := ⟨rfl, rfl, rfl, by decide +kernel, rfl, by decide +kernel, by decide +kernel⟩
theorem ok_l_value {fd : FuncData} (T : Txt K mg t) (F : Fun K "_law_value" "_law_value" s_l_value t.l_value fd) : FnOk P w K mg base CX0 1 t.l_value fd ["p", "polynomial", "x"] (sp_l_value K) := by
  refine F.ok sc_l_value (fun vs H Q E h => ?_) (fun cdv A outer s H vs Q E hr h => ?_)
  · obtain ⟨p, x, a, cs, rfl, _⟩ := h
    rfl
  · obtain ⟨p, x, a, cs, rfl, hS, p0, p1, x0, x1, q⟩ := h
    refine ⟨_, (pss_cons (ps_set (i := 3) sc_l_value.nd rfl (Or.inl rfl) pe_int)
      (by exact (pss_cons (ps_set (i := 4) sc_l_value.nd rfl (Or.inl rfl) pe_int)
      (by exact (pss_cons (ps_for PassesOwn.never rfl (pi_seq (L2.pv 1)) (pg_name (i := 5) sc_l_value.nd rfl (Or.inl rfl)) (pss_cons (ps_set (i := 3) sc_l_value.nd rfl (Or.inl rfl) (pe_op op_mod (pe_op op_add (L2.pv 3) (pe_op op_mul (L2.pv 5) (L2.pv 4))) (L2.pv 0)))
      (by exact (pss_one (ps_set (i := 4) sc_l_value.nd rfl (Or.inl rfl) (pe_op op_mod (pe_op op_mul (L2.pv 4) (L2.pv 2)) (L2.pv 0)))))))
      (by exact (pss_one (ps_ret (L2.pv 3))))))))), ?_⟩
    refine ⟨_, rfl, a, rfl, ?_⟩
    rcases hS with hS | hS
    · refine .inl ⟨⟨_, hS⟩, for_list (K := K) (a := a) (xs := cs.map V.int) (fun i σ H' => H' = H ∧ ∃ (total power : Int) (nb : Option V), σ = [some (.int p), some (.ref a), some (.int x), some (.int total), some (.int power), nb] ∧ 0 ≤ power ∧ power ≤ 97 ∧ lv p x total power (cs.drop i) = lv p x 0 1 cs)
        ⟨rfl, 0, 1, none, rfl, by decide, by decide, rfl⟩ (fun i σ H' _ ⟨e, _⟩ => by rw [e]; exact hS) ?_ ?_⟩
      · rintro i y σ H1 hy ⟨rfl, total, power, nb, rfl, w0, w1, hl⟩
        obtain ⟨c, rfl, hc⟩ := map_get hy
        have m0 := Int.emod_nonneg (power * x) (show p ≠ 0 by omega)
        have m1 := Int.emod_lt_of_pos (power * x) p0
        refine ⟨_, rfl, _, rfl, _, rfl, _, _, rfl, rfl, .inr ⟨by omega, by omega⟩, _, _, rfl, rfl, _, rfl, _, _, rfl, rfl, p0, ?_⟩
        refine ⟨_, rfl, _, rfl, _, _, rfl, rfl, .inl ⟨by omega, by omega⟩, _, rfl, _, _, rfl, rfl, p0, ?_⟩
        exact ⟨rfl, _, _, _, rfl, m0, by omega, (lv_step hc).symm.trans hl⟩
      · rintro σ H1 ⟨rfl, total, power, nb, rfl, w0, w1, hl⟩
        rw [List.length_map, List.drop_length] at hl
        have hl : total = lv p x 0 1 cs := hl
        rw [lv_pval p0] at hl
        rw [← hl] at q
        exact ⟨_, rfl, q⟩
    · refine .inr ⟨⟨_, hS⟩, for_tup (K := K) (a := a) (xs := cs.map V.int) (fun i σ H' => H' = H ∧ ∃ (total power : Int) (nb : Option V), σ = [some (.int p), some (.ref a), some (.int x), some (.int total), some (.int power), nb] ∧ 0 ≤ power ∧ power ≤ 97 ∧ lv p x total power (cs.drop i) = lv p x 0 1 cs)
        ⟨rfl, 0, 1, none, rfl, by decide, by decide, rfl⟩ (fun i σ H' _ ⟨e, _⟩ => by rw [e]; exact hS) ?_ ?_⟩
      · rintro i y σ H1 hy ⟨rfl, total, power, nb, rfl, w0, w1, hl⟩
        obtain ⟨c, rfl, hc⟩ := map_get hy
        have m0 := Int.emod_nonneg (power * x) (show p ≠ 0 by omega)
        have m1 := Int.emod_lt_of_pos (power * x) p0
        refine ⟨_, rfl, _, rfl, _, rfl, _, _, rfl, rfl, .inr ⟨by omega, by omega⟩, _, _, rfl, rfl, _, rfl, _, _, rfl, rfl, p0, ?_⟩
        refine ⟨_, rfl, _, rfl, _, _, rfl, rfl, .inl ⟨by omega, by omega⟩, _, rfl, _, _, rfl, rfl, p0, ?_⟩
        exact ⟨rfl, _, _, _, rfl, m0, by omega, (lv_step hc).symm.trans hl⟩
      · rintro σ H1 ⟨rfl, total, power, nb, rfl, w0, w1, hl⟩
        rw [List.length_map, List.drop_length] at hl
        have hl : total = lv p x 0 1 cs := hl
        rw [lv_pval p0] at hl
        rw [← hl] at q
        exact ⟨_, rfl, q⟩
theorem sc_l_polynomial : FnScope ["draws", "p", "k"] ["draws", "p", "k"] (defScope s_l_polynomial) := ⟨rfl, rfl, rfl, by decide +kernel, rfl, by decide +kernel, by decide +kernel⟩
theorem ok_l_polynomial {fd : FuncData} (T : Txt K mg t) (F : Fun K "_law_polynomial" "_law_polynomial" s_l_polynomial t.l_polynomial fd) : FnOk P w K mg base CX0 1 t.l_polynomial fd ["draws", "p", "k"] (sp_l_polynomial K) := by
  refine F.ok sc_l_polynomial (fun vs H Q E h => ?_) (fun cdv A outer s H vs Q E hr h => ?_)
  · obtain ⟨a, ds, p, k, rfl, _⟩ := h
    rfl
  · obtain ⟨a, ds, p, k, rfl, ha, hn, p0, q⟩ := h
    refine ⟨_, (pss_one (ps_ret (pe_callTy call_tuple_of (by rfl) T.tuple_ boot_tuple (pa_cons (pe_comp (CompSc.of (N' := ["draw", "p"]) (ix := [none, some 1]) (defScope s_l_polynomial) ["draws", "p", "k"] rfl rfl (by decide +kernel)) rfl (gk_name rfl) (pi_list (pe_slice sl_list (L2.pv 0) po_none (po_some (L2.pv 2)))) (fun _ _ _ _ => (pg_name (i := 0) (show (["draw", "p"] : List Str).Nodup by decide +kernel) rfl (Or.inl rfl))) (fun _ _ _ _ => pifs_nil) (fun _ _ _ _ => (pe_op op_mod (L2.pv 0) (L2.pv 1)))) pa_nil)))), ?_⟩
    obtain ⟨ms, ems, lms⟩ := cut_ints ds none (some k)
    refine ⟨_, rfl, _, rfl, _, rfl, a, _, rfl, ha, fun z hz => ?_⟩
    rw [ems]
    have s4 := same_upd (o := .lst (ms.map V.int)) hz
    refine ⟨z, rfl, ⟨_, SqL.of upd_same⟩, comp_mapL (K := K) (xs := ms.map V.int) (fs := ms.map fun d => V.int (d % p)) (SqL.of upd_same) (by rw [List.length_map, List.length_map]) (by rw [List.length_map]; omega) ?_ ?_⟩
    · intro j x y R B hx hy hR
      obtain ⟨c, _, rfl, rfl⟩ := map_map_get hx hy
      refine gY ?_
      exact ⟨_, rfl, _, rfl, _, _, rfl, rfl, p0, hR⟩
    intro D hD
    have epol : (ms.map fun d => V.int (d % p)) = (ms.map (· % p)).map V.int := by rw [List.map_map]; rfl
    rw [epol]
    refine ⟨D, _, rfl, .inl ⟨SqL.of upd_same, fun po hpo => ?_⟩⟩
    have s5 := s4.trans (same_upd (o := .lst ((ms.map (· % p)).map V.int)) hD)
    exact q po _ _ (s5.free hpo) (s5.trans (same_upd hpo)) upd_same
def sp_l_row (K : PySem.W.Frag) : Sp := fun vs H Q _ => ∃ (a c tt : Addr) (ns : List Int) (at' p k : Int) (pl : List Int), vs = [.ref a, .int at', .ref c] ∧ SqL K H a (ns.map V.int) ∧ ns.length ≤ 63 ∧ 0 ≤ at' ∧ at' ≤ 900 ∧ CodeAt H c tt p k pl ∧ 0 < p ∧ p ≤ 97 ∧ (∀ x ∈ pl, 0 ≤ x ∧ x < p) ∧ pl.length ≤ 16 ∧
  ∀ (l : Addr) (rw : List (Option Int)) (H' : Hp), H l = none → Same H H' → rw.length = pl.length → H' l = some (.lst (rw.map enc)) → Q (.ref l) H'
theorem at_six {a b m : Int} (h0 : 0 ≤ m) (h1 : m < 6) (a0 : 0 ≤ a) (a1 : a < 3) (b0 : 0 ≤ b) (b1 : b < 3) : ∃ z : Int, atI [V.int 0, .int 0, .int a, .int b, .int 0, .int 0] m = some (.int z) ∧ 0 ≤ z ∧ z < 3 := by
  have : m = 0 ∨ m = 1 ∨ m = 2 ∨ m = 3 ∨ m = 4 ∨ m = 5 := by omega
  rcases this with e | e | e | e | e | e <;> subst e
  · exact ⟨0, rfl, by decide, by decide⟩
  · exact ⟨0, rfl, by decide, by decide⟩
  · exact ⟨a, rfl, a0, a1⟩
  · exact ⟨b, rfl, b0, b1⟩
  · exact ⟨0, rfl, by decide, by decide⟩
  · exact ⟨0, rfl, by decide, by decide⟩
theorem at_six' {m : Int} (h0 : 0 ≤ m) (h1 : m < 6) : ∃ z : Int, atI [V.int 4, .int 9, .int 9, .int 9, .int 2, .int 1] m = some (.int z) ∧ 0 < z := by
  have : m = 0 ∨ m = 1 ∨ m = 2 ∨ m = 3 ∨ m = 4 ∨ m = 5 := by omega
  rcases this with e | e | e | e | e | e <;> subst e <;> exact ⟨_, rfl, by decide⟩
theorem at_two' {m : Int} (h0 : 0 ≤ m) (h1 : m < 2) : ∃ z : Int, atI [V.int 9, .int 3] m = some (.int z) ∧ 0 < z := by
  have : m = 0 ∨ m = 1 := by omega
  rcases this with e | e <;> subst e <;> exact ⟨_, rfl, by decide⟩
theorem nones (n : Nat) : (List.replicate n [V.non]).flatten = (List.replicate n (none : Option Int)).map enc := by
  induction n with
  | zero => rfl
  | succ n ih => rw [List.replicate_succ, List.flatten_cons, ih, List.replicate_succ]; rfl
/-- three polynomials -/
def OnesAt (H : Hp) (on : Addr) : Prop := ∃ os : List Addr, os.length = 3 ∧ H on = some (.lst (os.map V.ref)) ∧ ∀ o ∈ os, ∃ ms : List Int, H o = some (.tup (ms.map V.int))
theorem OnesAt.same {H H' : Hp} {on : Addr} (s : Same H H') (h : OnesAt H on) : OnesAt H' on := by
  obtain ⟨os, h1, h2, h3⟩ := h
  exact ⟨os, h1, s _ _ h2, fun o ho => let ⟨ms, e⟩ := h3 o ho; ⟨ms, s _ _ e⟩⟩
theorem sc_l_row : FnScope ["script", "at", "code", "p", "k", "places", "plan", "ones", "slips", "way", "row", "number", "which", "entry"] ["script", "at", "code"] (defScope s_l_row) := ⟨rfl, rfl, rfl, by decide +kernel, rfl, by decide +kernel, by decide +kernel⟩
theorem ok_l_row {fd : FuncData} (T : Txt K mg t) (F : Fun K "_law_row" "_law_row" s_l_row t.l_row fd) : FnOk P w K mg base CX0 3 t.l_row fd ["script", "at", "code"] (sp_l_row K) := by
  obtain ⟨fd_l_draws, F_l_draws, b_l_draws⟩ := T.f_l_draws
  have G_l_draws := ok_l_draws (P := P) (w := w) (base := base) T F_l_draws
  obtain ⟨fd_l_polynomial, F_l_polynomial, b_l_polynomial⟩ := T.f_l_polynomial
  have G_l_polynomial := ok_l_polynomial (P := P) (w := w) (base := base) T F_l_polynomial
  obtain ⟨fd_l_value, F_l_value, b_l_value⟩ := T.f_l_value
  have G_l_value := ok_l_value (P := P) (w := w) (base := base) T F_l_value
  refine F.ok sc_l_row (fun vs H Q E h => ?_) (fun cdv A outer s H vs Q E hr h => ?_)
  · obtain ⟨a, c, tt, ns, at', p, k, pl, rfl, _⟩ := h
    rfl
  · obtain ⟨a, c, tt, ns, at', p, k, pl, rfl, hS, hlen, a0, a1, hc, p0, p1, hpl, hn, q⟩ := h
    refine ⟨_, (pss_cons (ps_asg (L2.pv 2) (pg_tup rfl (pgs_cons (pg_name (i := 3) sc_l_row.nd rfl (Or.inr rfl)) (pgs_cons (pg_name (i := 4) sc_l_row.nd rfl (Or.inr rfl)) (pgs_cons (pg_name (i := 5) sc_l_row.nd rfl (Or.inl rfl)) pgs_nil)))))
      (by exact (pss_cons (ps_set (i := 6) sc_l_row.nd rfl (Or.inr rfl) (pe_call G_l_draws (hr.mono (by decide)) rfl T.m_l_draws F_l_draws.kp b_l_draws .nil pass0 (pa_cons (L2.pv 0) (by exact (pa_cons (L2.pv 1) (pa_cons pe_int (pa_cons pe_int pa_nil)))))))
      (by exact (pss_cons (ps_setComp (i := 7) sc_l_row.nd rfl (Or.inl rfl) (CompSc.of (N' := ["j", "plan", "p", "k"]) (ix := [none, some 6, some 3, some 4]) (defScope s_l_row) ["script", "at", "code", "p", "k", "places", "plan", "ones", "slips", "way", "row", "number", "which", "entry"] rfl rfl (by decide +kernel)) rfl (gk_name rfl) (pi_range1 rfl T.range_ (pa_cons pe_int pa_nil)) (fun _ _ _ _ => (pg_name (i := 0) (show (["j", "plan", "p", "k"] : List Str).Nodup by decide +kernel) rfl (Or.inl rfl))) (fun _ _ _ _ => pifs_nil) (fun _ _ _ _ => (pe_call G_l_polynomial (hr.mono (by decide)) rfl T.m_l_polynomial F_l_polynomial.kp b_l_polynomial .nil pass0 (pa_cons (pe_slice (sl_listK (K := K) rfl) (L2.pv 1) (po_some (pe_op op_mul pe_int (L2.pv 0))) po_none) (pa_cons (L2.pv 2) (pa_cons (L2.pv 3) pa_nil))))))
      (by exact (pss_cons (ps_set (i := 8) sc_l_row.nd rfl (Or.inl rfl) (pe_call G_l_draws (hr.mono (by decide)) rfl T.m_l_draws F_l_draws.kp b_l_draws .nil pass0 (pa_cons (L2.pv 0) (by exact (pa_cons (pe_op op_add (L2.pv 1) pe_int) (pa_cons pe_int (pa_cons pe_int pa_nil)))))))
      (by exact (pss_cons (ps_set (i := 9) sc_l_row.nd rfl (Or.inl rfl) (pe_op op_mod (pe_ix ix_list (L2.pv 8) pe_int (fun _ _ => rfl)) pe_int))
      (by exact (pss_cons (ps_set (i := 10) sc_l_row.nd rfl (Or.inl rfl) (pe_lst pa_nil))
      (by exact (pss_cons (ps_for PassesOwn.never rfl (pi_range1 rfl T.range_ (pa_cons (pe_callB call_len_seq (by rfl) T.len_ boot_len (pa_cons (L2.pv 5) pa_nil)) pa_nil)) (pg_name (i := 11) sc_l_row.nd rfl (Or.inl rfl)) (pss_cons (ps_set (i := 12) sc_l_row.nd rfl (Or.inl rfl) (pe_ix ix_list (pe_lst (pa_cI (by exact (pa_cI (by exact (pa_cons (pe_op op_mod (pe_ix ix_list (L2.pv 8) (L2.pv 11) (fun _ _ => rfl)) pe_int) (by exact (pa_cons (pe_op op_mod (pe_ix ix_list (L2.pv 8) (L2.pv 11) (fun _ _ => rfl)) pe_int) (pa_cons pe_int (pa_cons pe_int pa_nil)))))))))) (L2.pv 9) (fun _ _ => rfl)))
      (by exact (pss_cons (ps_set (i := 13) sc_l_row.nd rfl (Or.inl rfl) (pe_call G_l_value (hr.mono (by decide)) rfl T.m_l_value F_l_value.kp b_l_value .nil pass0 (pa_cons (L2.pv 3) (pa_cons (pe_ix ix_list (L2.pv 7) (L2.pv 12) (fun _ _ => rfl)) (pa_cons (pe_ix ix_tup (L2.pv 5) (L2.pv 11) (fun _ _ => rfl)) pa_nil)))))
      (by exact (pss_cons (ps_if (pt_cmpR op_eq (pe_op op_mod (pe_op op_fdiv (pe_ix ix_list (L2.pv 8) (L2.pv 11) (fun _ _ => rfl)) pe_int) (pe_ix ix_list (pe_lst (pa_cI (by exact (pa_cI (by exact (pa_cI (by exact (pa_cons pe_int (pa_cons pe_int (pa_cons pe_int pa_nil)))))))))) (L2.pv 9) (fun _ _ => rfl))) pe_int (nomark _)) (pss_one (ps_set (i := 13) sc_l_row.nd rfl (Or.inl rfl) (pe_op op_mod (pe_op op_fdiv (pe_ix ix_list (L2.pv 8) (L2.pv 11) (fun _ _ => rfl)) pe_int) (L2.pv 3)))) pss_nil)
      (by exact (pss_cons (ps_if (PW.pt (pw_and (pt_cmpR op_eq (pe_op op_mod (pe_op op_fdiv (pe_ix ix_list (L2.pv 8) (L2.pv 11) (fun _ _ => rfl)) pe_int) (pe_ix ix_list (pe_lst (pa_cons pe_int (pa_cons pe_int pa_nil))) (pe_op op_mod (pe_ix ix_list (L2.pv 8) pe_int (fun _ _ => rfl)) pe_int) (fun _ _ => rfl))) pe_int (nomark _)) (pw_and1 (pt_cmpR op_gt (pe_op op_mod (pe_ix ix_list (L2.pv 8) pe_int (fun _ _ => rfl)) pe_int) pe_int (nomark _))))) (pss_one (ps_set (i := 13) sc_l_row.nd rfl (Or.inl rfl) pe_non)) pss_nil)
      (by exact (pss_one (ps_expr (pe_bm PySem.F.plainAttrs_list PySem.F.slot_list_append PySem.F.type_list_append mt_append (L2.pv 10) (pa_cons (L2.pv 13) pa_nil)))))))))))))
      (by exact (pss_one (ps_ret (pe_ifExp (pt_cmpR op_eq (pe_op op_mod (pe_ix ix_list (L2.pv 8) pe_int (fun _ _ => rfl)) pe_int) pe_int (nomark _)) (pe_op op_rep (pe_lst (pa_cons pe_non pa_nil)) (pe_callB call_len_seq (by rfl) T.len_ boot_len (pa_cons (L2.pv 10) pa_nil))) (L2.pv 10)))))))))))))))))), ?_⟩
    have hsl := sizeLine_eq
    refine ⟨_, rfl, c, _, rfl, SqT.of hc.1, rfl, _, _, rfl, _, _, rfl, _, _, rfl, rfl, ?_⟩
    refine ⟨_, rfl, _, rfl, a, ns, at', 16, 27720, rfl, hS, hlen, a0, by omega, by decide, by decide, by decide, by decide, fun l ds H1 hl s1 hd h1l => ?_⟩
    have hdl : ds.length = 16 := hd.1
    refine ⟨3, rfl, by decide, by decide, comp_by (n := 3) (fun i ys H' => Same H1 H' ∧ ∃ os : List Addr, os.length = i ∧ ys = os.map V.ref ∧ ∀ o ∈ os, ∃ ms : List Int, H' o = some (.tup (ms.map V.int))) ⟨fun _ _ e => e, [], rfl, rfl, by simp⟩ (fun i ys H' hi _ => hi) (fun ys H' _ => Nat.le_refl _) ?_ ?_⟩
    · rintro i xx ys H4 H5 hi ⟨s4, os, ho, rfl, hos⟩ ⟨rfl, rfl⟩
      refine gY ?_
      refine ⟨_, rfl, _, rfl, _, _, rfl, rfl, .inl ⟨by decide, by decide⟩, _, rfl, l, _, rfl, SqL.of (s4 _ _ h1l), fun z hz => ?_⟩
      obtain ⟨ms, ems, lms⟩ := cut_ints ds (some (3 * (0 + (i : Int)))) none
      rw [ems]
      refine ⟨_, rfl, _, rfl, z, ms, p, k, rfl, SqL.of upd_same, by omega, p0, fun po poly H6 hpo s6 h6 => ?_⟩
      have s5 := (same_upd (o := .lst (ms.map V.int)) hz).trans s6
      refine ⟨small_line (by rw [List.length_map]; omega), s4.trans s5, os ++ [po], by rw [List.length_append, ho]; rfl, by rw [List.map_append]; rfl, fun o hm => ?_⟩
      rcases (List.mem_append.mp hm) with hm | hm
      · obtain ⟨m2, e⟩ := hos o hm
        exact ⟨m2, s5 _ _ e⟩
      · rw [List.mem_singleton.mp hm]; exact ⟨poly, h6⟩
    · rintro ys H4 on ⟨s4, os, ho, rfl, hos⟩ hon
      have s5 := s1.trans (s4.trans (same_upd (o := .lst (os.map V.ref)) hon))
      have hones : OnesAt (upd H4 on (.lst (os.map V.ref))) on := ⟨os, ho, upd_same, fun o hm => let ⟨ms, e⟩ := hos o hm; ⟨ms, (same_upd hon) _ _ e⟩⟩
      generalize upd H4 on (.lst (os.map V.ref)) = H5 at s5 hones ⊢
      refine ⟨_, rfl, _, rfl, _, _, rfl, rfl, a, ns, at' + 1, 20, 27720, rfl, s5.seq hS, hlen, by omega, by omega, by decide, by decide, by decide, by decide, fun sl es H6 hsl6 s6 he h6s => ?_⟩
      have hel : es.length = 20 := he.1
      have her := he.2
      have eat : ∀ m : Int, 0 ≤ m → m < 20 → ∃ c : Int, atI (es.map V.int) m = some (.int c) := fun m h0 h1 => at_ints h0 (by omega)
      obtain ⟨d16, e16⟩ := eat 16 (by decide) (by decide)
      obtain ⟨d17, e17⟩ := eat 17 (by decide) (by decide)
      obtain ⟨d18, e18⟩ := eat 18 (by decide) (by decide)
      obtain ⟨d19, e19⟩ := eat 19 (by decide) (by decide)
      have w0 := Int.emod_nonneg d16 (show (6 : Int) ≠ 0 by decide)
      have w1 := Int.emod_lt_of_pos d16 (show (0 : Int) < 6 by decide)
      refine ⟨_, rfl, sl, _, _, _, rfl, rfl, SqL.of h6s, e16, _, _, rfl, rfl, (by show (0 : Int) < 6; decide), ?_⟩
      obtain ⟨way, hway⟩ : ∃ way, d16 % 6 = way := ⟨_, rfl⟩
      rw [hway] at w0 w1
      refine ⟨Nat.zero_le _, fun ro hro => ?_⟩
      have hslro : sl ≠ ro := ne_of_none h6s hro
      have hroH : H ro = none := (s5.trans s6).free hro
      have hro5 : H5 ro = none := s6.free hro
      refine ⟨_, rfl, tt, _, rfl, .inr (SqT.of ((((s5.trans s6).trans (same_upd hro))) _ _ hc.2)), _, rfl, by rw [List.length_map]; omega, by rw [List.length_map]; omega, ?_⟩
      rw [List.length_map, Int.toNat_natCast]
      refine for_range (lo := 0) (n := pl.length) (fun i σ H' => ∃ (rw : List (Option Int)) (v11 v12 v13 : Option V), σ = [some (.ref a), some (.int at'), some (.ref c), some (.int p), some (.int k), some (.ref tt), some (.ref l), some (.ref on), some (.ref sl), some (.int way), some (.ref ro), v11, v12, v13] ∧
        rw.length = i ∧ Same H5 H' ∧ H' ro = some (.lst (rw.map enc)) ∧ H' sl = some (.lst (es.map V.int)))
        ⟨[], none, none, none, by subst hway; rfl, rfl, s6.trans (same_upd hro), upd_same, by rw [upd_ne hslro]; exact h6s⟩ ?_ ?_
      · rintro i σ H7 hi ⟨rw, v11, v12, v13, rfl, hrl, s7, h7r, h7s⟩
        obtain ⟨di, ei⟩ := eat (0 + (i : Int)) (by omega) (by omega)
        obtain ⟨x, hx⟩ : ∃ x, pl[i]? = some x := ⟨pl[i]'hi, by simp⟩
        obtain ⟨x0, x1⟩ := hpl x (List.mem_of_getElem? hx)
        have hxat : atI (pl.map V.int) (0 + (i : Int)) = some (.int x) := by rw [Int.zero_add]; exact atI_nat (by rw [List.getElem?_map, hx]; rfl)
        have m20 := Int.emod_nonneg di (show (2 : Int) ≠ 0 by decide)
        have m21 := Int.emod_lt_of_pos di (show (0 : Int) < 2 by decide)
        have m30 := Int.emod_nonneg di (show (3 : Int) ≠ 0 by decide)
        have m31 := Int.emod_lt_of_pos di (show (0 : Int) < 3 by decide)
        obtain ⟨wh, ewh, wh0, wh1⟩ := at_six w0 w1 m20 (by omega) m30 m31
        refine ⟨_, rfl, _, rfl, sl, _, _, _, rfl, rfl, SqL.of h7s, ei, _, _, rfl, rfl, (by show (0 : Int) < 2; decide), _, rfl, _, rfl, sl, _, _, _, rfl, rfl, SqL.of h7s, ei, _, _, rfl, rfl, (by show (0 : Int) < 3; decide), by show 6 ≤ sizeLine; omega, fun l6 hl6 => ?_⟩
        refine ⟨_, rfl, l6, _, _, _, rfl, rfl, SqL.of upd_same, ewh, ?_⟩
        have s8 := s7.trans (same_upd (o := .lst [.int 0, .int 0, .int (di % 2), .int (di % 3), .int 0, .int 0]) hl6)
        have h8r := (same_upd (o := .lst [.int 0, .int 0, .int (di % 2), .int (di % 3), .int 0, .int 0]) hl6) _ _ h7r
        have h8s := (same_upd (o := .lst [.int 0, .int 0, .int (di % 2), .int (di % 3), .int 0, .int 0]) hl6) _ _ h7s
        obtain ⟨H8, hH8⟩ : ∃ H8, H8 = upd H7 l6 (.lst [.int 0, .int 0, .int (di % 2), .int (di % 3), .int 0, .int 0]) := ⟨_, rfl⟩
        rw [← hH8] at s8 h8r h8s ⊢
        have hc8 := hc.same (s5.trans s8)
        obtain ⟨os8, o1, o2, o3⟩ := hones.same s8
        obtain ⟨ow, how⟩ : ∃ ow, os8[wh.toNat]? = some ow := ⟨os8[wh.toNat]'(by omega), by simp⟩
        obtain ⟨mw, hmw⟩ := o3 ow (List.mem_of_getElem? how)
        have hoat : atI (os8.map V.ref) wh = some (.ref ow) := by
          have e : ((wh.toNat : Nat) : Int) = wh := by omega
          rw [← e]
          exact atI_nat (by rw [List.getElem?_map, how]; rfl)
        refine ⟨_, rfl, _, rfl, _, rfl, on, _, _, _, rfl, rfl, SqL.of o2, hoat, _, rfl, _, rfl, tt, _, _, _, rfl, rfl, SqT.of hc8.2, hxat, p, x, ow, mw, rfl, .inr (SqT.of hmw), p0, p1, x0, x1, ?_⟩
        obtain ⟨z6, ez6, z60⟩ := at_six' w0 w1
        refine ⟨_, rfl, _, rfl, sl, _, _, _, rfl, rfl, SqL.of h8s, ei, _, _, rfl, rfl, ⟨by decide, by decide⟩, by show 6 ≤ sizeLine; omega, fun l7 hl7 => ?_⟩
        have u7 := same_upd (o := .lst [.int 4, .int 9, .int 9, .int 9, .int 2, .int 1]) hl7
        refine ⟨_, rfl, l7, _, _, _, rfl, rfl, SqL.of upd_same, ez6, _, _, rfl, rfl, z60, rfl, _, rfl, ?_⟩
        have s9 := s8.trans u7
        have h9r := u7 _ _ h8r
        have h9s := u7 _ _ h8s
        generalize upd H8 l7 (.lst [.int 4, .int 9, .int 9, .int 9, .int 2, .int 1]) = H9 at s9 h9r h9s ⊢
        have t0 := Int.emod_nonneg d17 (show (2 : Int) ≠ 0 by decide)
        have t1 := Int.emod_lt_of_pos d17 (show (0 : Int) < 2 by decide)
        obtain ⟨z2, ez2, z20⟩ := at_two' t0 t1
        refine ite2 (fun _ => ⟨_, rfl, _, rfl, sl, _, _, _, rfl, rfl, SqL.of h9s, ei, _, _, rfl, rfl, ⟨by decide, by decide⟩, _, rfl, _, _, rfl, rfl, p0, ?_⟩) (fun _ => ?_)
        all_goals
          refine ⟨_, rfl, _, rfl, sl, _, _, _, rfl, rfl, SqL.of h9s, ei, _, _, rfl, rfl, ⟨by decide, by decide⟩, two_le_line, fun l8 hl8 => ?_⟩
          have u8 := same_upd (o := .lst [.int 9, .int 3]) hl8
          have sX := s9.trans u8
          have hXr := u8 _ _ h9r
          have hXs := u8 _ _ h9s
          refine ⟨_, rfl, sl, _, _, _, rfl, rfl, SqL.of hXs, e17, _, _, rfl, rfl, (by show (0 : Int) < 2; decide), l8, _, _, _, rfl, rfl, SqL.of upd_same, ez2, _, _, rfl, rfl, z20, rfl, _, rfl, ?_⟩; refine ite2 (fun _ => ?_) (fun _ => ?_)
          · refine ⟨_, rfl, sl, _, _, _, rfl, rfl, SqL.of hXs, e18, _, _, rfl, rfl, (by show (0 : Int) < 3; decide), _, _, rfl, rfl, _, rfl, ?_⟩; refine ite2 (fun _ => ?_) (fun _ => ?_)
            · exact ⟨_, rfl, .inl ⟨rfl, _, SqL.of hXr⟩, _, rfl, ro, _, _, rfl, rfl, hXr, small_line (by rw [List.length_map]; omega), rw ++ [none], _, _, _, rfl, by rw [List.length_append, hrl]; rfl, same_upd' sX hro5, by rw [upd_same, List.map_append]; rfl, by rw [upd_ne hslro]; exact hXs⟩
            · exact ⟨_, rfl, .inl ⟨rfl, _, SqL.of hXr⟩, _, rfl, ro, _, _, rfl, rfl, hXr, small_line (by rw [List.length_map]; omega), rw ++ [some _], _, _, _, rfl, by rw [List.length_append, hrl]; rfl, same_upd' sX hro5, by rw [upd_same, List.map_append]; rfl, by rw [upd_ne hslro]; exact hXs⟩
          · refine iteF ?_
            exact ⟨_, rfl, .inl ⟨rfl, _, SqL.of hXr⟩, _, rfl, ro, _, _, rfl, rfl, hXr, small_line (by rw [List.length_map]; omega), rw ++ [some _], _, _, _, rfl, by rw [List.length_append, hrl]; rfl, same_upd' sX hro5, by rw [upd_same, List.map_append]; rfl, by rw [upd_ne hslro]; exact hXs⟩
      · rintro σ H7 ⟨rw, v11, v12, v13, rfl, hrl, s7, h7r, h7s⟩
        refine ⟨_, rfl, sl, _, _, _, rfl, rfl, SqL.of h7s, e19, _, _, rfl, rfl, (by show (0 : Int) < 30; decide), rfl, _, rfl, ?_⟩
        refine ite2 (fun _ => ?_) (fun _ => ⟨_, rfl, q ro rw H7 hroH (s5.trans s7) hrl h7r⟩)
        refine ⟨by show 1 ≤ sizeLine; omega, fun z hz => ⟨_, rfl, ro, _, rfl, .inl (SqL.of ((same_upd hz) _ _ h7r)), z, _, [.non], rfl, rfl, upd_same, by rw [List.length_map]; omega, by rw [List.length_map]; omega, by rw [List.length_map]; show 1 * _ ≤ sizeLine; omega, fun y hy => ?_⟩⟩
        have s8 := (s5.trans s7).trans (same_upd (o := .lst [.non]) hz)
        refine q y (List.replicate pl.length none) _ (s8.free hy) (s8.trans (same_upd hy)) (by rw [List.length_replicate]) ?_
        rw [upd_same, List.length_map, nones, hrl, Int.toNat_natCast]
/-! ### _law_word -/
def wordsL : List Str := ["few", "curve", "paper", "place", "number", "heard", "not heard", "nothing", "text", "row"]
def sp_l_word (t : Adr) (K : PySem.W.Frag) : Sp := fun vs H Q _ => ∃ (e C : Addr) (b0 b1 b2 b3 b4 b5 b6 b7 b8 b9 : Bool) (j : Nat) (x : Str), vs = [.ref e] ∧ H e = some (ExcO e C) ∧ KW K t C b0 b1 b2 b3 b4 b5 b6 b7 b8 b9 ∧ [b0, b1, b2, b3, b4, b5, b6, b7, b8, b9].count true = 1 ∧ [b0, b1, b2, b3, b4, b5, b6, b7, b8, b9][j]? = some true ∧ (∀ m, m < j → [b0, b1, b2, b3, b4, b5, b6, b7, b8, b9][m]? = some false) ∧ j < 10 ∧ wordsL[j]? = some x ∧ ∀ H', Same H H' → Q (.str x) H'
theorem sc_l_word : FnScope ["e", "kinds", "words"] ["e"] (defScope s_l_word) := ⟨rfl, rfl, rfl, by decide +kernel, rfl, by decide +kernel, by decide +kernel⟩
theorem ok_l_word {fd : FuncData} (T : Txt K mg t) (F : Fun K "_law_word" "_law_word" s_l_word t.l_word fd) : FnOkH P w K mg base 1 t.l_word fd ["e"] (sp_l_word t K) := by
  refine F.okH sc_l_word (fun vs H Q E h => ?_) (fun cdv A outer s H vs Q E hr h => ?_)
  · obtain ⟨e, C, b0, b1, b2, b3, b4, b5, b6, b7, b8, b9, j, x, rfl, _⟩ := h
    rfl
  · obtain ⟨e, C, b0, b1, b2, b3, b4, b5, b6, b7, b8, b9, j, x, rfl, he, kw, hc, hj, hm, hj10, hx, q⟩ := h
    refine ⟨_, (pss_cons (ps_set (i := 1) sc_l_word.nd rfl (Or.inl rfl) (pe_lst (pa_cons (pe_callB call_isinstX (by rfl) T.isinstance_ boot_isinstance (pa_cons (L2.pv 0) (pa_cons (pe_glob (v := .ref t.TooFew) rfl T.x_TooFew rfl) pa_nil))) (by exact (pa_cons (pe_callB call_isinstX (by rfl) T.isinstance_ boot_isinstance (pa_cons (L2.pv 0) (pa_cons (pe_glob (v := .ref t.NoCurve) rfl T.x_NoCurve rfl) pa_nil))) (pa_cons (pe_callB call_isinstX (by rfl) T.isinstance_ boot_isinstance (pa_cons (L2.pv 0) (pa_cons (pe_glob (v := .ref t.NoPaper) rfl T.x_NoPaper rfl) pa_nil))) (pa_cons (pe_callB call_isinstX (by rfl) T.isinstance_ boot_isinstance (pa_cons (L2.pv 0) (pa_cons (pe_glob (v := .ref t.NoPlace) rfl T.x_NoPlace rfl) pa_nil))) pa_nil)))))))
      (by exact (pss_cons (ps_set (i := 1) sc_l_word.nd rfl (Or.inl rfl) (pe_op op_cat (L2.pv 1) (pe_lst (pa_cons (pe_callB call_isinstX (by rfl) T.isinstance_ boot_isinstance (pa_cons (L2.pv 0) (pa_cons (pe_glob (v := .ref t.NoNumber) rfl T.x_NoNumber rfl) pa_nil))) (pa_cons (pe_callB call_isinstX (by rfl) T.isinstance_ boot_isinstance (pa_cons (L2.pv 0) (pa_cons (pe_glob (v := .ref t.Heard) rfl T.x_Heard rfl) pa_nil))) (pa_cons (pe_callB call_isinstX (by rfl) T.isinstance_ boot_isinstance (pa_cons (L2.pv 0) (pa_cons (pe_glob (v := .ref t.NotHeard) rfl T.x_NotHeard rfl) pa_nil))) pa_nil))))))
      (by exact (pss_cons (ps_set (i := 1) sc_l_word.nd rfl (Or.inl rfl) (pe_op op_cat (L2.pv 1) (pe_lst (pa_cons (pe_callB call_isinstX (by rfl) T.isinstance_ boot_isinstance (pa_cons (L2.pv 0) (pa_cons (pe_glob (v := .ref t.NothingLeft) rfl T.x_NothingLeft rfl) pa_nil))) (pa_cons (pe_callB call_isinstX (by rfl) T.isinstance_ boot_isinstance (pa_cons (L2.pv 0) (pa_cons (pe_glob (v := .ref t.NoText) rfl T.x_NoText rfl) pa_nil))) (pa_cons (pe_callB call_isinstX (by rfl) T.isinstance_ boot_isinstance (pa_cons (L2.pv 0) (pa_cons (pe_glob (v := .ref t.NoRow) rfl T.x_NoRow rfl) pa_nil))) pa_nil))))))
      (by exact (pss_cons (ps_if (PW.pt (pw_or (pt_cmpR op_ne (pe_bm PySem.F.plainAttrs_list PySem.F.slot_list_count PySem.F.type_list_count mt_countB (L2.pv 1) (pa_cons pe_bl pa_nil)) pe_int (nomark _)) (pw_or1 (pt_not (pt_val (pe_callB call_isinstX (by rfl) T.isinstance_ boot_isinstance (pa_cons (L2.pv 0) (pa_cons (pe_bltn (v := .ty "ValueError") rfl T.ValueError_ PyProof.Rows.Boot.ValueError rfl) pa_nil)))))))) (pss_one (ps_ret pe_str)) pss_nil)
      (by exact (by exact (@pss_strs _ 2 _ _ _ _ _ _ _ ["few", "curve", "paper", "place", "number", "heard", "not heard", "nothing", "text", "row"] (by decide +kernel) sc_l_word.nd rfl (Or.inl rfl) (by first | exact .inl rfl | exact .inr rfl) (by exact (pss_one (ps_ret (pe_ix ix_list (L2.pv 2) (pe_bm PySem.F.plainAttrs_list PySem.F.slot_list_index PySem.F.type_list_index mt_indexB (L2.pv 1) (pa_cons pe_bl pa_nil)) (fun _ _ => rfl))))))))))))))), ?_⟩
    have hsl := sizeLine_eq
    have xc := kw.xc
    refine ⟨_, rfl, e, C, _, _, rfl, he, xc, .inl ⟨_, rfl, kw.i0⟩, _, rfl, e, C, _, _, rfl, he, xc, .inl ⟨_, rfl, kw.i1⟩, _, rfl, e, C, _, _, rfl, he, xc, .inl ⟨_, rfl, kw.i2⟩, _, rfl, e, C, _, _, rfl, he, xc, .inl ⟨_, rfl, kw.i3⟩, by show 4 ≤ sizeLine; omega, fun l1 hl1 => ?_⟩
    have s1 := same_upd (o := .lst [.bl b0, .bl b1, .bl b2, .bl b3]) hl1
    have he1 := s1 _ _ he
    refine ⟨_, rfl, _, rfl, e, C, _, _, rfl, he1, xc, .inl ⟨_, rfl, kw.i4⟩, _, rfl, e, C, _, _, rfl, he1, xc, .inl ⟨_, rfl, kw.i5⟩, _, rfl, e, C, _, _, rfl, he1, xc, .inl ⟨_, rfl, kw.i6⟩, by show 3 ≤ sizeLine; omega, fun l2 hl2 => ?_⟩
    have s2 := same_upd (o := .lst [.bl b4, .bl b5, .bl b6]) hl2
    refine ⟨l1, l2, _, _, rfl, rfl, s2 _ _ upd_same, upd_same, by show 7 ≤ sizeLine; omega, fun l3 hl3 => ?_⟩
    have s3 := same_upd (o := .lst ([V.bl b0, .bl b1, .bl b2, .bl b3] ++ [.bl b4, .bl b5, .bl b6])) hl3
    have he3 := s3 _ _ (s2 _ _ he1)
    refine ⟨_, rfl, _, rfl, e, C, _, _, rfl, he3, xc, .inl ⟨_, rfl, kw.i7⟩, _, rfl, e, C, _, _, rfl, he3, xc, .inl ⟨_, rfl, kw.i8⟩, _, rfl, e, C, _, _, rfl, he3, xc, .inl ⟨_, rfl, kw.i9⟩, by show 3 ≤ sizeLine; omega, fun l4 hl4 => ?_⟩
    have s4 := same_upd (o := .lst [.bl b7, .bl b8, .bl b9]) hl4
    refine ⟨l3, l4, _, _, rfl, rfl, s4 _ _ upd_same, upd_same, by show 10 ≤ sizeLine; omega, fun l5 hl5 => ?_⟩
    have s5 := same_upd (o := .lst ([V.bl b0, .bl b1, .bl b2, .bl b3] ++ [.bl b4, .bl b5, .bl b6] ++ [.bl b7, .bl b8, .bl b9])) hl5
    have he5 := s5 _ _ (s4 _ _ he3)
    have sA := s1.trans (s2.trans (s3.trans (s4.trans s5)))
    have h5 : upd (upd (upd (upd (upd H l1 (.lst [.bl b0, .bl b1, .bl b2, .bl b3])) l2 (.lst [.bl b4, .bl b5, .bl b6])) l3 (.lst ([V.bl b0, .bl b1, .bl b2, .bl b3] ++ [.bl b4, .bl b5, .bl b6]))) l4 (.lst [.bl b7, .bl b8, .bl b9])) l5 (.lst ([V.bl b0, .bl b1, .bl b2, .bl b3] ++ [.bl b4, .bl b5, .bl b6] ++ [.bl b7, .bl b8, .bl b9])) l5 = some (.lst ([b0, b1, b2, b3, b4, b5, b6, b7, b8, b9].map V.bl)) := upd_same
    generalize upd (upd (upd (upd (upd H l1 (.lst [.bl b0, .bl b1, .bl b2, .bl b3])) l2 (.lst [.bl b4, .bl b5, .bl b6])) l3 (.lst ([V.bl b0, .bl b1, .bl b2, .bl b3] ++ [.bl b4, .bl b5, .bl b6]))) l4 (.lst [.bl b7, .bl b8, .bl b9])) l5 (.lst ([V.bl b0, .bl b1, .bl b2, .bl b3] ++ [.bl b4, .bl b5, .bl b6] ++ [.bl b7, .bl b8, .bl b9])) = H5 at he5 sA h5 ⊢
    refine ⟨_, rfl, .inl ⟨rfl, _, SqL.of h5⟩, l5, _, true, rfl, rfl, h5, ?_⟩
    rw [hc]
    refine ⟨rfl, _, rfl, ?_⟩
    refine iteF ?_
    refine ⟨_, rfl, e, C, _, _, rfl, he5, xc, .inr ⟨_, rfl, kw.iv⟩, _, rfl, ?_⟩
    refine iteF ?_
    refine ⟨by show 10 ≤ sizeLine; omega, fun lw hlw => ?_⟩
    have s6 := same_upd (o := .lst (wordsL.map V.str)) hlw
    refine ⟨_, rfl, _, rfl, .inl ⟨rfl, _, SqL.of (s6 _ _ h5)⟩, l5, _, true, j, rfl, rfl, s6 _ _ h5, hj, hm, by omega, ?_⟩
    refine ⟨lw, _, _, .str x, rfl, rfl, SqL.of upd_same, ?_, q _ (sA.trans s6)⟩
    exact atI_nat (xs := wordsL.map V.str) (by rw [List.getElem?_map, hx]; rfl)
end
end My

end
section
set_option maxHeartbeats 3999000
namespace My
open PySem L2 PyProof.Rows
section
variable {P : Program} {w : World} {K : PySem.W.Frag} {mg : Str → Option Value} {base : Heap} {t : Adr}
/-! ### heard_points -/
theorem sc_heard_points : FnScope ["code", "row", "p", "k", "places"] ["code", "row"] (defScope s_heard_points) := ⟨rfl, rfl, rfl, by decide +kernel, rfl, by decide +kernel, by decide +kernel⟩
theorem ok_heard_points {fd : FuncData} (T : Txt K mg t) (F : Fun K "heard_points" "heard_points" s_heard_points t.heard_points fd) : FnOk P w K mg base CX0 1 t.heard_points fd ["code", "row"] (sp_heard_points K) := by
  refine F.ok sc_heard_points (fun vs H Q E h => ?_) (fun cdv A outer s H vs Q E hr h => ?_)
  · obtain ⟨c, tt, r, p, k, pl, rw, rfl, _⟩ := h
    rfl
  · obtain ⟨c, tt, r, p, k, pl, rw, rfl, hc, hr', hn, q⟩ := h
    refine ⟨_, (pss_cons (ps_asg (L2.pv 0) (pg_tup rfl (pgs_cons (pg_name (i := 2) sc_heard_points.nd rfl (Or.inl rfl)) (pgs_cons (pg_name (i := 3) sc_heard_points.nd rfl (Or.inl rfl)) (pgs_cons (pg_name (i := 4) sc_heard_points.nd rfl (Or.inl rfl)) pgs_nil)))))
      (by exact (pss_one (ps_ret (pe_comp (CompSc.of (N' := ["place", "entry"]) (ix := [none, none]) (defScope s_heard_points) ["code", "row", "p", "k", "places"] rfl rfl (by decide +kernel)) rfl (gk_tup (gks_cons rfl (gks_cons rfl gks_nil))) (pi_zipTL rfl T.zip_ (pa_cons (L2.pv 4) (pa_cons (L2.pv 1) pa_nil))) (fun _ _ _ _ => (pg_tupK (K := K) (n := 2) rfl rfl (pgs_cons (pg_name (i := 0) (show (["place", "entry"] : List Str).Nodup by decide +kernel) rfl (Or.inl rfl)) (pgs_cons (pg_name (i := 1) (show (["place", "entry"] : List Str).Nodup by decide +kernel) rfl (Or.inl rfl)) pgs_nil)))) (fun _ _ _ _ => (pifs_one (pt_cmpR op_notN (L2.pv 1) pe_non (nomark _)))) (fun _ _ _ _ => (pe_tup (pa_cons (L2.pv 0) (pa_cons (L2.pv 1) pa_nil))))))))), ?_⟩
    have hsl := sizeLine_eq
    have hl := hr'.len
    refine ⟨_, rfl, c, _, rfl, SqT.of hc.1, rfl, _, _, rfl, _, _, rfl, _, _, rfl, rfl, ?_⟩
    refine ⟨_, rfl, _, rfl, tt, r, _, _, rfl, SqT.of hc.2, hr'.at', comp_by (n := pl.length) (fun i ys H' => ys.length ≤ nh (rw.take i) ∧ Same H H') ⟨Nat.zero_le _, fun _ _ e => e⟩ ?_ ?_ ?_ ?_⟩
    · rintro i ys H3 hi ⟨_, s3⟩
      obtain ⟨o, ho⟩ : ∃ o, rw[i]? = some o := ⟨rw[i]'(by omega), by simp⟩
      exact ⟨_, _, .int pl[i], enc o, SqT.of (s3 _ _ hc.2), s3.seq hr'.at', by rw [List.getElem?_map, List.getElem?_eq_getElem hi]; rfl, by rw [List.getElem?_map, ho]; rfl⟩
    · rintro ys H3 ⟨_, s3⟩
      exact ⟨_, _, SqT.of (s3 _ _ hc.2), s3.seq hr'.at', .inl (by rw [List.length_map])⟩
    · rintro i xx ys H3 H4 hi ⟨hy, s3⟩ ⟨T, u, v, hT, rfl, rfl, hu, hv⟩
      obtain ⟨x, rfl, hx⟩ := map_get (hu _ (SqT.of (s3 _ _ hc.2)))
      obtain ⟨o, rfl, ho⟩ := enc_get (hv _ (s3.seq hr'.at'))
      have s4 := s3.trans (same_upd (o := .tup [.int x, enc o]) hT)
      have hs := nh_snoc ho
      have hb := nh_take rw i
      have hb' := nh_len rw
      refine ⟨T, _, rfl, SqT.of upd_same, rfl, _, _, rfl, _, _, rfl, rfl, ?_⟩
      refine ⟨_, rfl, rfl, _, rfl, ?_⟩
      cases o with
      | none =>
        refine iteF ⟨?_, s4⟩
        omega
      | some z =>
        refine iteT ⟨_, rfl, _, rfl, by show 2 ≤ sizeLine; omega, fun T2 hT2 => ⟨by omega, ?_, s4.trans (same_upd hT2)⟩⟩
        rw [List.length_append, hs]
        show ys.length + 1 ≤ nh (rw.take i) + 1
        omega
    · rintro ys H3 D ⟨hy, s3⟩ hD
      exact q D ys _ (s3.free hD) (s3.trans (same_upd hD)) (Nat.le_trans hy (nh_take rw _)) upd_same
/-! ### heard_at -/
theorem sc_heard_at : FnScope ["row", "numbers"] ["row", "numbers"] (defScope s_heard_at) := ⟨rfl, rfl, rfl, by decide +kernel, rfl, by decide +kernel, by decide +kernel⟩
theorem ok_heard_at {fd : FuncData} (T : Txt K mg t) (F : Fun K "heard_at" "heard_at" s_heard_at t.heard_at fd) : FnOk P w K mg base CX0 1 t.heard_at fd ["row", "numbers"] (sp_heard_at K) := by
  refine F.ok sc_heard_at (fun vs H Q E h => ?_) (fun cdv A outer s H vs Q E hr h => ?_)
  · obtain ⟨r, a, n, rw, ms, rfl, _⟩ := h
    rfl
  · obtain ⟨r, a, n, rw, ms, rfl, hr', ha, hn, q⟩ := h
    refine ⟨_, (pss_one (ps_ret (pe_comp (CompSc.of (N' := ["at", "entry", "numbers"]) (ix := [none, none, some 1]) (defScope s_heard_at) ["row", "numbers"] rfl rfl (by decide +kernel)) rfl (gk_tup (gks_cons rfl (gks_cons rfl gks_nil))) (pi_enumL rfl T.enumerate_ (pa_cons (L2.pv 0) pa_nil)) (fun _ _ _ _ => (pg_tupK (K := K) (n := 2) rfl rfl (pgs_cons (pg_name (i := 0) (show (["at", "entry", "numbers"] : List Str).Nodup by decide +kernel) rfl (Or.inl rfl)) (pgs_cons (pg_name (i := 1) (show (["at", "entry", "numbers"] : List Str).Nodup by decide +kernel) rfl (Or.inl rfl)) pgs_nil)))) (fun _ _ _ _ => pifs_nil) (fun _ _ _ _ => (pe_ifExp (pt_cmpR (op_in_seqK (K := K) rfl) (L2.pv 0) (L2.pv 2) (by with_unfolding_all rfl)) (L2.pv 1) pe_non))))), ?_⟩
    have hsl := sizeLine_eq
    have hl := hr'.len
    refine ⟨_, rfl, r, _, rfl, hr'.at', comp_by (n := rw.length) (fun i ys H' => (∃ rs : List (Option Int), rs.length = i ∧ ys = rs.map enc) ∧ Same H H') ⟨⟨[], rfl, rfl⟩, fun _ _ e => e⟩ ?_ ?_ ?_ ?_⟩
    · rintro i ys H3 hi ⟨_, s3⟩
      exact ⟨_, enc rw[i], s3.seq hr'.at', by rw [List.getElem?_map, List.getElem?_eq_getElem hi]; rfl⟩
    · rintro ys H3 ⟨_, s3⟩
      exact ⟨_, s3.seq hr'.at', by rw [List.length_map]; exact Nat.le_refl _⟩
    · rintro i xx ys H3 H4 hi ⟨⟨rs, hrs, rfl⟩, s3⟩ ⟨T, u, hT, rfl, rfl, hu⟩
      obtain ⟨o, rfl, ho⟩ := enc_get (hu _ (s3.seq hr'.at'))
      have s4 := s3.trans (same_upd (o := .tup [.int i, enc o]) hT)
      refine gY2 (SqT.of upd_same) ?_
      refine ⟨_, rfl, _, rfl, a, _, rfl, .inl (s4.seq ha), rfl, ?_, _, rfl, ?_⟩
      · rw [List.all_eq_true]
        intro y hy
        obtain ⟨m, _, rfl⟩ := List.mem_map.mp hy
        rfl
      refine ite2 (fun _ => ⟨_, rfl, by rw [List.length_map]; omega, ⟨rs ++ [o], by rw [List.length_append, hrs]; rfl, by rw [List.map_append]; rfl⟩, s4⟩) (fun _ => ⟨by rw [List.length_map]; omega, ⟨rs ++ [none], by rw [List.length_append, hrs]; rfl, by rw [List.map_append]; rfl⟩, s4⟩)
    · rintro ys H3 D ⟨⟨rs, hrs, rfl⟩, s3⟩ hD
      exact q D rs _ (s3.free hD) (s3.trans (same_upd hD)) ⟨SqL.of upd_same, by omega⟩
/-! ### weighted_points -/
theorem sc_weighted_points : FnScope ["code", "guesses", "p", "k", "places"] ["code", "guesses"] (defScope s_weighted_points) := ⟨rfl, rfl, rfl, by decide +kernel, rfl, by decide +kernel, by decide +kernel⟩
theorem ok_weighted_points {fd : FuncData} (T : Txt K mg t) (F : Fun K "weighted_points" "weighted_points" s_weighted_points t.weighted_points fd) : FnOk P w K mg base CX0 1 t.weighted_points fd ["code", "guesses"] (sp_weighted_points K) := by
  refine F.ok sc_weighted_points (fun vs H Q E h => ?_) (fun cdv A outer s H vs Q E hr h => ?_)
  · obtain ⟨c, tt, g, p, k, pl, ts, rfl, _⟩ := h
    rfl
  · obtain ⟨c, tt, g, p, k, pl, ts, rfl, hc, hg, hn, q⟩ := h
    refine ⟨_, (pss_cons (ps_asg (L2.pv 0) (pg_tup rfl (pgs_cons (pg_name (i := 2) sc_weighted_points.nd rfl (Or.inl rfl)) (pgs_cons (pg_name (i := 3) sc_weighted_points.nd rfl (Or.inl rfl)) (pgs_cons (pg_name (i := 4) sc_weighted_points.nd rfl (Or.inr rfl)) pgs_nil)))))
      (by exact (pss_one (ps_ret (pe_comp (CompSc.of (N' := ["number", "entry", "weight", "places"]) (ix := [none, none, none, some 4]) (defScope s_weighted_points) ["code", "guesses", "p", "k", "places"] rfl rfl (by decide +kernel)) rfl (gk_tup (gks_cons rfl (gks_cons rfl (gks_cons rfl gks_nil)))) (pi_list (L2.pv 1)) (fun _ _ _ _ => (pg_tupK (K := K) (n := 3) rfl rfl (pgs_cons (pg_name (i := 0) (show (["number", "entry", "weight", "places"] : List Str).Nodup by decide +kernel) rfl (Or.inl rfl)) (pgs_cons (pg_name (i := 1) (show (["number", "entry", "weight", "places"] : List Str).Nodup by decide +kernel) rfl (Or.inl rfl)) (pgs_cons (pg_name (i := 2) (show (["number", "entry", "weight", "places"] : List Str).Nodup by decide +kernel) rfl (Or.inl rfl)) pgs_nil))))) (fun _ _ _ _ => (pifs_one (pt_chain op_le op_lt pe_int (L2.pv 0) (pe_callB (call_len_seqK (K := K) rfl) (by rfl) T.len_ boot_len (pa_cons (L2.pv 3) pa_nil))))) (fun _ _ _ _ => (pe_tup (pa_cons (pe_ix (ix_tupK (K := K) rfl) (L2.pv 3) (L2.pv 0) (fun _ _ => rfl)) (pa_cons (L2.pv 1) (pa_cons (L2.pv 2) pa_nil)))))))))), ?_⟩
    have hsl := sizeLine_eq
    obtain ⟨bs, hb1, hb2, hb3⟩ := id hg
    refine ⟨_, rfl, c, _, rfl, SqT.of hc.1, rfl, _, _, rfl, _, _, rfl, _, _, rfl, rfl, ?_⟩
    refine ⟨_, rfl, g, rfl, ⟨_, SqL.of hb1⟩, comp_by (n := ts.length) (fun i ys H' => (∃ (ds : List Addr) (us : List (Int × Int × Int)), ys = ds.map V.ref ∧ ds.length = us.length ∧ us.length ≤ i ∧ ∀ (j : Nat) (b : Addr) (q : Int × Int × Int), ds[j]? = some b → us[j]? = some q → H' b = some (.tup [.int q.1, .int q.2.1, .int q.2.2])) ∧ Same H H') ⟨⟨[], [], rfl, rfl, Nat.le_refl _, fun j b q e => by simp at e⟩, fun _ _ e => e⟩ ?_ ?_ ?_ ?_⟩
    · rintro i ys H3 hi ⟨_, s3⟩
      exact ⟨_, .ref (bs[i]'(by omega)), SqL.of (s3 _ _ hb1), by rw [List.getElem?_map, List.getElem?_eq_getElem (by omega)]; rfl⟩
    · rintro ys H3 ⟨_, s3⟩
      exact ⟨_, SqL.of (s3 _ _ hb1), by rw [List.length_map]; omega⟩
    · rintro i xx ys H3 H4 hi ⟨⟨ds, us, rfl, hdl, hul, hds⟩, s3⟩ ⟨rfl, hxx⟩
      obtain ⟨b, rfl, hbi⟩ := ref_get (hxx _ (SqL.of (s3 _ _ hb1)))
      obtain ⟨⟨x, y, z⟩, hq⟩ : ∃ q, ts[i]? = some q := ⟨ts[i]'(by omega), by simp⟩
      have hT := s3 _ _ (hb3 i b _ hbi hq)
      refine ⟨b, _, rfl, SqT.of hT, rfl, _, _, rfl, _, _, rfl, _, _, rfl, rfl, ?_⟩
      have no : (∃ (ds_1 : List Addr) (us_1 : List (Int × Int × Int)), ds.map V.ref = ds_1.map V.ref ∧ ds_1.length = us_1.length ∧ us_1.length ≤ i + 1 ∧ ∀ (j : Nat) (b : Addr) (q : Int × Int × Int), ds_1[j]? = some b → us_1[j]? = some q → H4 b = some (.tup [.int q.1, .int q.2.1, .int q.2.2])) ∧ Same H H4 := ⟨⟨ds, us, rfl, hdl, by omega, hds⟩, s3⟩
      refine ⟨_, rfl, _, _, rfl, rfl, _, rfl, ?_⟩
      refine ite2 (fun h1 => ?_) (fun h1 => ⟨_, rfl, iteF no⟩)
      have x0 : 0 ≤ x := of_decide_eq_true h1
      refine ⟨_, rfl, tt, _, rfl, .inr (SqT.of (s3 _ _ hc.2)), _, _, rfl, rfl, _, rfl, ?_⟩
      refine ite2 (fun h2 => ?_) (fun h2 => no)
      have x1 : x < pl.length := by
        have := of_decide_eq_true h2
        rw [List.length_map] at this
        exact this
      obtain ⟨w', hw⟩ := at_ints (ns := pl) x0 x1
      refine ⟨_, rfl, _, rfl, tt, _, _, _, rfl, rfl, SqT.of (s3 _ _ hc.2), hw, _, rfl, _, rfl, by show 3 ≤ sizeLine; omega, fun T2 hT2 => ⟨by rw [List.length_map]; omega, ⟨ds ++ [T2], us ++ [(w', y, z)], by rw [List.map_append]; rfl, by rw [List.length_append, List.length_append, hdl]; rfl, by rw [List.length_append]; show us.length + 1 ≤ i + 1; omega, fun j b q e1 e2 => ?_⟩, s3.trans (same_upd hT2)⟩⟩
      by_cases hj : j < ds.length
      · rw [List.getElem?_append_left hj] at e1
        rw [List.getElem?_append_left (by omega)] at e2
        exact (same_upd hT2) _ _ (hds j b q e1 e2)
      · have hj2 : j = ds.length := by
          have := (List.getElem?_eq_some_iff.mp e1).1
          rw [List.length_append] at this
          simp at this
          omega
        rw [hj2, List.getElem?_append_right (Nat.le_refl _), Nat.sub_self] at e1
        rw [hj2, hdl, List.getElem?_append_right (Nat.le_refl _), Nat.sub_self] at e2
        have e1 : T2 = b := by simpa using e1
        have e2 : (w', y, z) = q := by simpa using e2
        subst e1 e2
        exact upd_same
    · rintro ys H3 D ⟨⟨ds, us, rfl, hdl, hul, hds⟩, s3⟩ hD
      exact q D us _ (s3.free hD) (s3.trans (same_upd hD)) hul ⟨ds, upd_same, hdl, fun j b q e1 e2 => (same_upd hD) _ _ (hds j b q e1 e2)⟩
/-! ### most_weight -/
theorem sc_most_weight : FnScope ["points", "many", "greatest", "x", "y", "weight"] ["points", "many"] (defScope s_most_weight) := ⟨rfl, rfl, rfl, by decide +kernel, rfl, by decide +kernel, by decide +kernel⟩
theorem ok_most_weight {fd : FuncData} (T : Txt K mg t) (F : Fun K "most_weight" "most_weight" s_most_weight t.most_weight fd) : FnOk P w K mg base CX0 1 t.most_weight fd ["points", "many"] (sp_most_weight K) := by
  refine F.ok sc_most_weight (fun vs H Q E h => ?_) (fun cdv A outer s H vs Q E hr h => ?_)
  · obtain ⟨a, m, ts, rfl, _⟩ := h
    rfl
  · obtain ⟨a, m, ts, rfl, ha, hn, q⟩ := h
    have hu : (A.deeper (envOfC (Str.ofString "most_weight") (defScope s_most_weight) s.heap.objs.size t.most_weight cdv)).units + 1 < cLine := by have := hr.units; omega
    refine ⟨_, (pss_cons (ps_set (i := 2) sc_most_weight.nd rfl (Or.inl rfl) pe_dnewK)
      (by exact (pss_cons (ps_for PassesOwn.never rfl (pi_list (L2.pv 0)) (pg_tup rfl (pgs_cons (pg_name (i := 3) sc_most_weight.nd rfl (Or.inl rfl)) (pgs_cons (pg_name (i := 4) sc_most_weight.nd rfl (Or.inl rfl)) (pgs_cons (pg_name (i := 5) sc_most_weight.nd rfl (Or.inl rfl)) pgs_nil)))) (pss_one (ps_dput hu (L2.pv 2) (L2.pv 3) (pe_callB (call_max2 rfl) (by rfl) T.max_ boot_max (pa_cons (L2.pv 5) (pa_cons (pe_dget2 hu (L2.pv 2) (L2.pv 3) pe_int ⟨rfl, rfl, rfl, rfl⟩) pa_nil))) rfl)))
      (by exact (pss_one (ps_ret (pe_callB (call_sumI rfl) (by rfl) T.sum_ boot_sum (pa_cons (pe_slice sl_list (pe_sortV rfl rfl T.sorted_ (L2.pv 2)) po_none (po_some (L2.pv 1))) pa_nil)))))))), ?_⟩
    have hsl := sizeLine_eq
    obtain ⟨bs, hb1, hb2, hb3⟩ := id ha
    intro D hD
    have s0 := same_upd (o := .dK []) hD
    refine ⟨_, rfl, a, rfl, ⟨_, SqL.of (s0 _ _ hb1)⟩, for_list (K := K) (a := a) (xs := bs.map V.ref) (fun i σ H' => ∃ (kvs : List (Key × V)) (e3 e4 e5 : Option V), σ = [some (.ref a), some (.int m), some (.ref D), e3, e4, e5] ∧ Same H H' ∧ H' D = some (.dK kvs) ∧ NnD kvs i)
      ⟨[], none, none, none, rfl, s0, upd_same, nnD_nil⟩ (fun i σ H' _ ⟨_, _, _, _, _, s3, _⟩ => SqL.of (s3 _ _ hb1)) ?_ ?_⟩
    · rintro i xx σ H1 hxx ⟨kvs, e3, e4, e5, rfl, s1, h1D, hnn⟩
      obtain ⟨b, rfl, hbi⟩ := ref_get hxx
      obtain ⟨hi, _⟩ := List.getElem?_eq_some_iff.mp hbi
      obtain ⟨⟨x, y, z⟩, hq⟩ : ∃ q, ts[i]? = some q := ⟨ts[i]'(by omega), by simp⟩
      have hT := s1 _ _ (hb3 i b _ hbi hq)
      refine ⟨b, _, rfl, SqT.of hT, rfl, _, _, rfl, _, _, rfl, _, _, rfl, rfl, ?_⟩
      obtain ⟨g, hg, hg0⟩ : ∃ g : Int, (valV kvs (Sum.inl x)).getD (.int 0) = .int g ∧ 0 ≤ g := by
        cases e : valV kvs (Sum.inl x) with
        | none => exact ⟨0, rfl, by decide⟩
        | some v =>
          obtain ⟨i', rfl, h0⟩ := nnD_val hnn e
          exact ⟨i', rfl, h0⟩
      have hm : 0 ≤ (if g > z then g else z) := by split <;> omega
      have hkl := nnD_len hnn
      refine ⟨_, rfl, _, rfl, D, rfl, .inl ⟨kvs, .inl h1D⟩, _, rfl, _, .inl ⟨kvs, Sum.inl x, .inl h1D, rfl, rfl⟩, ?_⟩
      rw [hg]
      refine ⟨_, _, rfl, _, rfl, _, rfl, D, _, rfl, .inl ⟨kvs, Sum.inl x, h1D, rfl, by omega, rfl⟩, ?_⟩
      exact ⟨_, _, _, _, rfl, fun c o e => by rw [upd_ne (ne_of_none e hD)]; exact s1 _ _ e, upd_same, nnD_put hnn hm⟩
    · rintro σ H1 ⟨kvs, e3, e4, e5, rfl, s1, h1D, hnn⟩
      obtain ⟨ns, n1, n2, n3⟩ := hnn
      rw [List.length_map] at n3
      refine ⟨_, rfl, D, kvs, ns, rfl, h1D, n1, by omega, fun l ns' hl hp => ?_⟩
      obtain ⟨ms, e1, e2⟩ := cut_nn (ns := ns') (fun n hn => n2 n (hp.mem_iff.mp hn)) (some m)
      have s2 := s1.trans (same_upd (o := .lst (ns'.map V.int)) hl)
      refine ⟨_, rfl, _, rfl, l, _, rfl, SqL.of upd_same, fun l2 hl2 => ?_⟩
      rw [e1]
      exact ⟨l2, ms, rfl, SqL.of upd_same, q _ _ (sum_nn e2) (s2.trans (same_upd hl2))⟩
end
end My

end
section
set_option maxHeartbeats 3999000
namespace My
open PySem L2 PyProof.Rows
section
variable {P : Program} {w : World} {K : PySem.W.Frag} {mg : Str → Option Value} {base : Heap} {t : Adr}
/-! ### the doors -/
def sp_all_near (t : Adr) (K : PySem.W.Frag) : Sp := fun vs H Q E => ∃ (c tt r : Addr) (p k T : Int) (pl : List Int) (rw : List (Option Int)), vs = [.ref c, .ref r, .int T] ∧ CodeAt H c tt p k pl ∧ RowAt K H r pl.length rw ∧ pl.length ≤ 1000 ∧
  ((T < k ∧ ∀ H', Same H H' → E (.ref t.TooFew) none H') ∨ (k ≤ T ∧ rw.length < T ∧ ∀ (l : Addr) (H' : Hp), H l = none → Same H H' → H' l = some (.lst []) → Q (.ref l) H'))
theorem sc_all_near : FnScope ["code", "row", "t", "k", "points", "first"] ["code", "row", "t"] (defScope s_all_near) := ⟨rfl, rfl, rfl, by decide +kernel, rfl, by decide +kernel, by decide +kernel⟩
theorem ok_all_near {fd : FuncData} (T : Txt K mg t) (F : Fun K "all_near" "all_near" s_all_near t.all_near fd) : FnOk P w K mg base (CX1 P w) 2 t.all_near fd ["code", "row", "t"] (sp_all_near t K) := by
  obtain ⟨fd_heard_points, F_heard_points, b_heard_points⟩ := T.f_heard_points
  have G_heard_points := ok_heard_points (P := P) (w := w) (base := base) T F_heard_points
  refine F.okX sc_all_near (fun vs H Q E h => ?_) (fun cdv A outer s H vs Q E hr h => ?_)
  · obtain ⟨c, tt, r, p, k, T', pl, rw, rfl, _⟩ := h
    rfl
  · obtain ⟨c, tt, r, p, k, T', pl, rw, rfl, hc, hr', hn, q⟩ := h
    refine ⟨_, (pss_cons (ps_set (i := 3) sc_all_near.nd rfl (Or.inl rfl) (pe_ix ix_tup (L2.pv 0) pe_int (fun _ _ => rfl)))
      (by exact (pss_cons (ps_if (pt_cmpR op_lt (L2.pv 2) (L2.pv 3) (nomark _)) (pss_one (ps_raise (fun _ _ _ _ _ _ _ _ I m q => raises_out I m q) rfl rfl T.x_TooFew T.xi_TooFew pe_str)) pss_nil)
      (by exact (pss_cons (ps_set (i := 4) sc_all_near.nd rfl (Or.inl rfl) (pe_call G_heard_points (hr.mono (by decide)) rfl T.m_heard_points F_heard_points.kp b_heard_points .nil pass0 (pa_cons (L2.pv 0) (pa_cons (L2.pv 1) pa_nil))))
      (by exact (pss_cons (ps_if (pt_cmpR op_gt (L2.pv 2) (pe_callB call_len_seq (by rfl) T.len_ boot_len (pa_cons (L2.pv 4) pa_nil)) (nomark _)) (pss_one (ps_ret (pe_lst pa_nil))) pss_nil)
      (by exact pss_never)))))))), ?_⟩
    have hl := hr'.len
    have hh := nh_len rw
    refine ⟨_, rfl, c, _, _, _, rfl, rfl, SqT.of hc.1, rfl, ?_⟩
    refine ⟨_, rfl, _, rfl, _, _, rfl, rfl, _, rfl, ?_⟩
    rcases q with ⟨h1, q⟩ | ⟨h1, h2, q⟩
    · refine ite2 (fun _ => ?_) (fun h => absurd (decide_eq_true h1) h)
      exact ⟨rfl, q H (fun _ _ e => e)⟩
    · refine ite2 (fun h => absurd (of_decide_eq_true h) (by omega)) (fun _ => ?_)
      refine ⟨_, rfl, _, rfl, c, tt, r, p, k, pl, rw, rfl, hc, hr', hn, fun l ys H1 hl1 s1 hy h1l => ?_⟩
      refine ⟨_, rfl, _, rfl, l, _, rfl, .inl (SqL.of h1l), _, _, rfl, rfl, _, rfl, ?_⟩
      refine ite2 (fun _ => ?_) (fun h => absurd (decide_eq_true (by omega)) h)
      exact ⟨Nat.zero_le _, fun z hz => q z _ (s1.free hz) (s1.trans (same_upd hz)) upd_same⟩
def sp_nearest (t : Adr) (K : PySem.W.Frag) : Sp := fun vs H Q E => ∃ (c tt r : Addr) (p k : Int) (pl : List Int) (rw : List (Option Int)), vs = [.ref c, .ref r] ∧ CodeAt H c tt p k pl ∧ RowAt K H r pl.length rw ∧ pl.length ≤ 1000 ∧ (nh rw : Int) < k ∧ ∀ H', Same H H' → E (.ref t.TooFew) none H'
theorem sc_nearest : FnScope ["code", "row", "k", "points", "counted", "most"] ["code", "row"] (defScope s_nearest) := ⟨rfl, rfl, rfl, by decide +kernel, rfl, by decide +kernel, by decide +kernel⟩
theorem ok_nearest {fd : FuncData} (T : Txt K mg t) (F : Fun K "nearest" "nearest" s_nearest t.nearest fd) : FnOk P w K mg base (CX1 P w) 2 t.nearest fd ["code", "row"] (sp_nearest t K) := by
  obtain ⟨fd_heard_points, F_heard_points, b_heard_points⟩ := T.f_heard_points
  have G_heard_points := ok_heard_points (P := P) (w := w) (base := base) T F_heard_points
  refine F.okX sc_nearest (fun vs H Q E h => ?_) (fun cdv A outer s H vs Q E hr h => ?_)
  · obtain ⟨c, tt, r, p, k, pl, rw, rfl, _⟩ := h
    rfl
  · obtain ⟨c, tt, r, p, k, pl, rw, rfl, hc, hr', hn, hk, q⟩ := h
    refine ⟨_, (pss_cons (ps_set (i := 2) sc_nearest.nd rfl (Or.inl rfl) (pe_ix ix_tup (L2.pv 0) pe_int (fun _ _ => rfl)))
      (by exact (pss_cons (ps_set (i := 3) sc_nearest.nd rfl (Or.inl rfl) (pe_call G_heard_points (hr.mono (by decide)) rfl T.m_heard_points F_heard_points.kp b_heard_points .nil pass0 (pa_cons (L2.pv 0) (pa_cons (L2.pv 1) pa_nil))))
      (by exact (pss_cons (ps_if (pt_cmpR op_lt (pe_callB call_len_seq (by rfl) T.len_ boot_len (pa_cons (L2.pv 3) pa_nil)) (L2.pv 2) (nomark _)) (pss_one (ps_raise (fun _ _ _ _ _ _ _ _ I m q => raises_out I m q) rfl rfl T.x_TooFew T.xi_TooFew pe_str)) pss_nil)
      (by exact pss_never)))))), ?_⟩
    refine ⟨_, rfl, c, _, _, _, rfl, rfl, SqT.of hc.1, rfl, ?_⟩
    refine ⟨_, rfl, _, rfl, c, tt, r, p, k, pl, rw, rfl, hc, hr', hn, fun l ys H1 hl1 s1 hy h1l => ?_⟩
    refine ⟨_, rfl, l, _, rfl, .inl (SqL.of h1l), _, rfl, _, _, rfl, rfl, _, rfl, ?_⟩
    refine ite2 (fun _ => ?_) (fun h => absurd (decide_eq_true (by omega)) h)
    exact ⟨rfl, q H1 s1⟩
def sp_check_curves (t : Adr) (K : PySem.W.Frag) : Sp := fun vs H Q E => ∃ k : Int, vs = [.int k] ∧ k < 2 ∧ E (.ref t.NoCurve) none H
theorem sc_check_curves : FnScope ["k"] ["k"] (defScope s_check_curves) := ⟨rfl, rfl, rfl, by decide +kernel, rfl, by decide +kernel, by decide +kernel⟩
theorem ok_check_curves {fd : FuncData} (T : Txt K mg t) (F : Fun K "check_curves" "check_curves" s_check_curves t.check_curves fd) : FnOk P w K mg base (CX1 P w) 1 t.check_curves fd ["k"] (sp_check_curves t K) := by
  refine F.okX sc_check_curves (fun vs H Q E h => ?_) (fun cdv A outer s H vs Q E hr h => ?_)
  · obtain ⟨k, rfl, _⟩ := h
    rfl
  · obtain ⟨k, rfl, hk, q⟩ := h
    refine ⟨_, (pss_one (ps_if (pt_cmpR op_lt (L2.pv 0) pe_int (nomark _)) (pss_one (ps_raise (fun _ _ _ _ _ _ _ _ I m q => raises_out I m q) rfl rfl T.x_NoCurve T.xi_NoCurve pe_str)) pss_nil)), ?_⟩
    refine ⟨_, rfl, _, _, rfl, rfl, _, rfl, ?_⟩
    exact ite2 (fun _ => ⟨rfl, q⟩) (fun h => absurd (decide_eq_true hk) h)
def sp_curve_for (t : Adr) (K : PySem.W.Frag) : Sp := fun vs H Q E => ∃ (c tt : Addr) (p : Int) (pl : List Int) (v1 v2 : V), vs = [.ref c, v1, v2] ∧ CodeAt H c tt p 1 pl ∧ E (.ref t.NoCurve) none H
theorem sc_curve_for : FnScope ["code", "row", "m", "p", "k", "places"] ["code", "row", "m"] (defScope s_curve_for) := ⟨rfl, rfl, rfl, by decide +kernel, rfl, by decide +kernel, by decide +kernel⟩
theorem ok_curve_for {fd : FuncData} (T : Txt K mg t) (F : Fun K "curve_for" "curve_for" s_curve_for t.curve_for fd) : FnOk P w K mg base (CX1 P w) 2 t.curve_for fd ["code", "row", "m"] (sp_curve_for t K) := by
  obtain ⟨fd_check_curves, F_check_curves, b_check_curves⟩ := T.f_check_curves
  have G_check_curves := ok_check_curves (P := P) (w := w) (base := base) T F_check_curves
  refine F.okX sc_curve_for (fun vs H Q E h => ?_) (fun cdv A outer s H vs Q E hr h => ?_)
  · obtain ⟨c, tt, p, pl, v1, v2, rfl, _⟩ := h
    rfl
  · obtain ⟨c, tt, p, pl, v1, v2, rfl, hc, q⟩ := h
    refine ⟨_, (pss_cons (ps_asg (L2.pv 0) (pg_tup rfl (pgs_cons (pg_name (i := 3) sc_curve_for.nd rfl (Or.inl rfl)) (pgs_cons (pg_name (i := 4) sc_curve_for.nd rfl (Or.inl rfl)) (pgs_cons (pg_name (i := 5) sc_curve_for.nd rfl (Or.inl rfl)) pgs_nil)))))
      (by exact (pss_cons (ps_expr (pe_call G_check_curves (hr.mono (by decide)) rfl T.m_check_curves F_check_curves.kp b_check_curves .nil passes_out (pa_cons (L2.pv 4) pa_nil)))
      (by exact pss_never)))), ?_⟩
    refine ⟨_, rfl, c, _, rfl, SqT.of hc.1, rfl, _, _, rfl, _, _, rfl, _, _, rfl, rfl, ?_⟩
    exact ⟨_, rfl, 1, rfl, by decide, q⟩
theorem sc_paper_of : FnScope ["code", "row", "t", "m", "size", "curve"] ["code", "row", "t"] (defScope s_paper_of) := ⟨rfl, rfl, rfl, by decide +kernel, rfl, by decide +kernel, by decide +kernel⟩
theorem ok_paper_of {fd : FuncData} (T : Txt K mg t) (F : Fun K "paper_of" "paper_of" s_paper_of t.paper_of fd) : FnOk P w K mg base (CX1 P w) 3 t.paper_of fd ["code", "row", "t"] (sp_curve_for t K) := by
  obtain ⟨fd_curve_for, F_curve_for, b_curve_for⟩ := T.f_curve_for
  have G_curve_for := ok_curve_for (P := P) (w := w) (base := base) T F_curve_for
  refine F.okX sc_paper_of (fun vs H Q E h => ?_) (fun cdv A outer s H vs Q E hr h => ?_)
  · obtain ⟨c, tt, p, pl, v1, v2, rfl, _⟩ := h
    rfl
  · obtain ⟨c, tt, p, pl, v1, v2, rfl, hc, q⟩ := h
    refine ⟨_, (pss_cons (ps_for PassesOwn.leaving rfl (pi_range2 rfl T.range_ (pa_cons pe_int (pa_cons (pe_op op_add (pe_glob (v := .int 4) rfl T.g_MOST_PAPER_WEIGHT.choose_spec ⟨_, rfl⟩) pe_int) pa_nil))) (pg_name (i := 3) sc_paper_of.nd rfl (Or.inl rfl)) (pss_cons (ps_asg (pe_call G_curve_for (hr.mono (by decide)) rfl T.m_curve_for F_curve_for.kp b_curve_for .nil passes_out (pa_cons (L2.pv 0) (pa_cons (L2.pv 1) (pa_cons (L2.pv 3) pa_nil)))) (pg_tup rfl (pgs_cons (pg_name (i := 4) sc_paper_of.nd rfl (Or.inl rfl)) (pgs_cons (pg_name (i := 5) sc_paper_of.nd rfl (Or.inl rfl)) pgs_nil))))
      (by exact pss_never)))
      (by exact pss_never)), ?_⟩
    refine ⟨_, _, rfl, rfl, 1, 5, rfl, ⟨by decide, by decide, by decide, by decide⟩, ?_⟩
    refine for_range (lo := 1) (n := 4) (fun i σ H' => i = 0 ∧ σ = [some (.ref c), some v1, some v2, none, none, none] ∧ H' = H) ⟨rfl, rfl, rfl⟩ ?_ ?_
    · rintro i σ H' hi ⟨rfl, rfl, rfl⟩
      exact ⟨_, rfl, _, rfl, _, rfl, c, tt, p, pl, v1, _, rfl, hc, q⟩
    · rintro σ H' ⟨z, _⟩
      cases z
def sp_paper_holds (t : Adr) (K : PySem.W.Frag) : Sp := fun vs H Q E => ∃ (c tt : Addr) (p : Int) (pl : List Int) (v1 v2 v3 : V), vs = [.ref c, v1, v2, v3] ∧ CodeAt H c tt p 1 pl ∧ E (.ref t.NoCurve) none H
theorem sc_paper_holds : FnScope ["code", "row", "t", "paper", "p", "k", "places", "m", "curve"] ["code", "row", "t", "paper"] (defScope s_paper_holds) := ⟨rfl, rfl, rfl, by decide +kernel, rfl, by decide +kernel, by decide +kernel⟩
theorem ok_paper_holds {fd : FuncData} (T : Txt K mg t) (F : Fun K "paper_holds" "paper_holds" s_paper_holds t.paper_holds fd) : FnOk P w K mg base (CX1 P w) 2 t.paper_holds fd ["code", "row", "t", "paper"] (sp_paper_holds t K) := by
  obtain ⟨fd_check_curves, F_check_curves, b_check_curves⟩ := T.f_check_curves
  have G_check_curves := ok_check_curves (P := P) (w := w) (base := base) T F_check_curves
  refine F.okX sc_paper_holds (fun vs H Q E h => ?_) (fun cdv A outer s H vs Q E hr h => ?_)
  · obtain ⟨c, tt, p, pl, v1, v2, v3, rfl, _⟩ := h
    rfl
  · obtain ⟨c, tt, p, pl, v1, v2, v3, rfl, hc, q⟩ := h
    refine ⟨_, (pss_cons (ps_asg (L2.pv 0) (pg_tup rfl (pgs_cons (pg_name (i := 4) sc_paper_holds.nd rfl (Or.inr rfl)) (pgs_cons (pg_name (i := 5) sc_paper_holds.nd rfl (Or.inl rfl)) (pgs_cons (pg_name (i := 6) sc_paper_holds.nd rfl (Or.inl rfl)) pgs_nil)))))
      (by exact (pss_cons (ps_expr (pe_call G_check_curves (hr.mono (by decide)) rfl T.m_check_curves F_check_curves.kp b_check_curves .nil passes_out (pa_cons (L2.pv 5) pa_nil)))
      (by exact pss_never)))), ?_⟩
    refine ⟨_, rfl, c, _, rfl, SqT.of hc.1, rfl, _, _, rfl, _, _, rfl, _, _, rfl, rfl, ?_⟩
    exact ⟨_, rfl, 1, rfl, by decide, q⟩
theorem sc_near_by : FnScope ["code", "row", "t", "paper", "p", "k", "places", "m", "curve"] ["code", "row", "t", "paper"] (defScope s_near_by) := ⟨rfl, rfl, rfl, by decide +kernel, rfl, by decide +kernel, by decide +kernel⟩
theorem ok_near_by {fd : FuncData} (T : Txt K mg t) (F : Fun K "near_by" "near_by" s_near_by t.near_by fd) : FnOk P w K mg base (CX1 P w) 3 t.near_by fd ["code", "row", "t", "paper"] (sp_paper_holds t K) := by
  obtain ⟨fd_paper_holds, F_paper_holds, b_paper_holds⟩ := T.f_paper_holds
  have G_paper_holds := ok_paper_holds (P := P) (w := w) (base := base) T F_paper_holds
  refine F.okX sc_near_by (fun vs H Q E h => ?_) (fun cdv A outer s H vs Q E hr h => ?_)
  · obtain ⟨c, tt, p, pl, v1, v2, v3, rfl, _⟩ := h
    rfl
  · obtain ⟨c, tt, p, pl, v1, v2, v3, rfl, hc, q⟩ := h
    refine ⟨_, (pss_cons (ps_if (pt_not (pt_val (pe_call G_paper_holds (hr.mono (by decide)) rfl T.m_paper_holds F_paper_holds.kp b_paper_holds .nil passes_out (pa_cons (L2.pv 0) (by exact (pa_cons (L2.pv 1) (pa_cons (L2.pv 2) (pa_cons (L2.pv 3) pa_nil)))))))) pss_never pss_nil)
      (by exact pss_never)), ?_⟩
    exact ⟨_, rfl, _, rfl, _, rfl, _, rfl, c, tt, p, pl, v1, v2, v3, rfl, hc, q⟩
def sp_curve_by (t : Adr) (K : PySem.W.Frag) : Sp := fun vs H Q E => ∃ (c tt : Addr) (p : Int) (pl : List Int) (v1 : V), vs = [.ref c, v1] ∧ CodeAt H c tt p 1 pl ∧ E (.ref t.NoCurve) none H
theorem sc_curve_by : FnScope ["code", "guesses", "p", "k", "places"] ["code", "guesses"] (defScope s_curve_by) := ⟨rfl, rfl, rfl, by decide +kernel, rfl, by decide +kernel, by decide +kernel⟩
theorem ok_curve_by {fd : FuncData} (T : Txt K mg t) (F : Fun K "curve_by" "curve_by" s_curve_by t.curve_by fd) : FnOk P w K mg base (CX1 P w) 2 t.curve_by fd ["code", "guesses"] (sp_curve_by t K) := by
  obtain ⟨fd_check_curves, F_check_curves, b_check_curves⟩ := T.f_check_curves
  have G_check_curves := ok_check_curves (P := P) (w := w) (base := base) T F_check_curves
  refine F.okX sc_curve_by (fun vs H Q E h => ?_) (fun cdv A outer s H vs Q E hr h => ?_)
  · obtain ⟨c, tt, p, pl, v1, rfl, _⟩ := h
    rfl
  · obtain ⟨c, tt, p, pl, v1, rfl, hc, q⟩ := h
    refine ⟨_, (pss_cons (ps_asg (L2.pv 0) (pg_tup rfl (pgs_cons (pg_name (i := 2) sc_curve_by.nd rfl (Or.inl rfl)) (pgs_cons (pg_name (i := 3) sc_curve_by.nd rfl (Or.inl rfl)) (pgs_cons (pg_name (i := 4) sc_curve_by.nd rfl (Or.inl rfl)) pgs_nil)))))
      (by exact (pss_cons (ps_expr (pe_call G_check_curves (hr.mono (by decide)) rfl T.m_check_curves F_check_curves.kp b_check_curves .nil passes_out (pa_cons (L2.pv 3) pa_nil)))
      (by exact pss_never)))), ?_⟩
    refine ⟨_, rfl, c, _, rfl, SqT.of hc.1, rfl, _, _, rfl, _, _, rfl, _, _, rfl, rfl, ?_⟩
    exact ⟨_, rfl, 1, rfl, by decide, q⟩
def sp_check_many (t : Adr) (K : PySem.W.Frag) : Sp := fun vs H Q E => ∃ (c tt : Addr) (p k T : Int) (pl : List Int), vs = [.ref c, .int T] ∧ CodeAt H c tt p k pl ∧ (T < k ∨ (pl.length : Int) < T) ∧ E (.ref t.TooFew) none H
theorem sc_check_many : FnScope ["code", "t", "p", "k", "places"] ["code", "t"] (defScope s_check_many) := ⟨rfl, rfl, rfl, by decide +kernel, rfl, by decide +kernel, by decide +kernel⟩
theorem ok_check_many {fd : FuncData} (T : Txt K mg t) (F : Fun K "check_many" "check_many" s_check_many t.check_many fd) : FnOk P w K mg base (CX1 P w) 1 t.check_many fd ["code", "t"] (sp_check_many t K) := by
  refine F.okX sc_check_many (fun vs H Q E h => ?_) (fun cdv A outer s H vs Q E hr h => ?_)
  · obtain ⟨c, tt, p, k, T', pl, rfl, _⟩ := h
    rfl
  · obtain ⟨c, tt, p, k, T', pl, rfl, hc, hk, q⟩ := h
    refine ⟨_, (pss_cons (ps_asg (L2.pv 0) (pg_tup rfl (pgs_cons (pg_name (i := 2) sc_check_many.nd rfl (Or.inl rfl)) (pgs_cons (pg_name (i := 3) sc_check_many.nd rfl (Or.inl rfl)) (pgs_cons (pg_name (i := 4) sc_check_many.nd rfl (Or.inl rfl)) pgs_nil)))))
      (by exact (pss_one (ps_if (pt_not (pt_chain op_le op_le (L2.pv 3) (L2.pv 1) (pe_callB call_len_seq (by rfl) T.len_ boot_len (pa_cons (L2.pv 4) pa_nil)))) (pss_one (ps_raise (fun _ _ _ _ _ _ _ _ I m q => raises_out I m q) rfl rfl T.x_TooFew T.xi_TooFew pe_str)) pss_nil)))), ?_⟩
    refine ⟨_, rfl, c, _, rfl, SqT.of hc.1, rfl, _, _, rfl, _, _, rfl, _, _, rfl, rfl, ?_⟩
    refine ⟨_, rfl, _, rfl, _, _, rfl, rfl, _, rfl, ?_⟩
    refine ite2 (fun h1 => ?_) (fun h1 => ⟨_, rfl, iteT ⟨rfl, q⟩⟩)
    have h1 := of_decide_eq_true h1
    refine ⟨_, rfl, tt, _, rfl, .inr (SqT.of hc.2), _, _, rfl, rfl, _, rfl, ?_⟩
    rw [decide_eq_false (by rw [List.length_map]; omega)]
    exact iteT ⟨rfl, q⟩
theorem sc_due_of : FnScope ["code", "t", "p", "k", "places", "chosen", "at", "step"] ["code", "t"] (defScope s_due_of) := ⟨rfl, rfl, rfl, by decide +kernel, rfl, by decide +kernel, by decide +kernel⟩
theorem ok_due_of {fd : FuncData} (T : Txt K mg t) (F : Fun K "due_of" "due_of" s_due_of t.due_of fd) : FnOk P w K mg base (CX1 P w) 2 t.due_of fd ["code", "t"] (sp_check_many t K) := by
  obtain ⟨fd_check_many, F_check_many, b_check_many⟩ := T.f_check_many
  have G_check_many := ok_check_many (P := P) (w := w) (base := base) T F_check_many
  refine F.okX sc_due_of (fun vs H Q E h => ?_) (fun cdv A outer s H vs Q E hr h => ?_)
  · obtain ⟨c, tt, p, k, T', pl, rfl, _⟩ := h
    rfl
  · obtain ⟨c, tt, p, k, T', pl, rfl, hc, hk, q⟩ := h
    refine ⟨_, (pss_cons (ps_expr (pe_call G_check_many (hr.mono (by decide)) rfl T.m_check_many F_check_many.kp b_check_many .nil passes_out (pa_cons (L2.pv 0) (pa_cons (L2.pv 1) pa_nil))))
      (by exact pss_never)), ?_⟩
    exact ⟨_, rfl, _, rfl, c, tt, p, k, T', pl, rfl, hc, hk, q⟩
theorem sc_many_near : FnScope ["code", "t", "p", "k", "places", "lows", "roots", "vanishing", "high", "row", "polynomials"] ["code", "t"] (defScope s_many_near) := ⟨rfl, rfl, rfl, by decide +kernel, rfl, by decide +kernel, by decide +kernel⟩
theorem ok_many_near {fd : FuncData} (T : Txt K mg t) (F : Fun K "many_near" "many_near" s_many_near t.many_near fd) : FnOk P w K mg base (CX1 P w) 2 t.many_near fd ["code", "t"] (sp_check_many t K) := by
  obtain ⟨fd_check_many, F_check_many, b_check_many⟩ := T.f_check_many
  have G_check_many := ok_check_many (P := P) (w := w) (base := base) T F_check_many
  refine F.okX sc_many_near (fun vs H Q E h => ?_) (fun cdv A outer s H vs Q E hr h => ?_)
  · obtain ⟨c, tt, p, k, T', pl, rfl, _⟩ := h
    rfl
  · obtain ⟨c, tt, p, k, T', pl, rfl, hc, hk, q⟩ := h
    refine ⟨_, (pss_cons (ps_expr (pe_call G_check_many (hr.mono (by decide)) rfl T.m_check_many F_check_many.kp b_check_many .nil passes_out (pa_cons (L2.pv 0) (pa_cons (L2.pv 1) pa_nil))))
      (by exact pss_never)), ?_⟩
    exact ⟨_, rfl, _, rfl, c, tt, p, k, T', pl, rfl, hc, hk, q⟩
def sp_heavy (t : Adr) (K : PySem.W.Frag) : Sp := fun vs H Q E => ∃ (c tt g : Addr) (p k L : Int) (pl : List Int) (ts : List (Int × Int × Int)), vs = [.ref c, .ref g, .int L] ∧ CodeAt H c tt p k pl ∧ TrAt H g ts ∧ ts.length ≤ 60 ∧ L ≤ 0 ∧ ∀ H', Same H H' → E (.ref t.TooFew) none H'
theorem sc_heavy : FnScope ["code", "guesses", "least", "p", "k", "places", "points", "found"] ["code", "guesses", "least"] (defScope s_heavy) := ⟨rfl, rfl, rfl, by decide +kernel, rfl, by decide +kernel, by decide +kernel⟩
theorem ok_heavy {fd : FuncData} (T : Txt K mg t) (F : Fun K "heavy" "heavy" s_heavy t.heavy fd) : FnOk P w K mg base (CX1 P w) 2 t.heavy fd ["code", "guesses", "least"] (sp_heavy t K) := by
  obtain ⟨fd_weighted_points, F_weighted_points, b_weighted_points⟩ := T.f_weighted_points
  have G_weighted_points := ok_weighted_points (P := P) (w := w) (base := base) T F_weighted_points
  obtain ⟨fd_most_weight, F_most_weight, b_most_weight⟩ := T.f_most_weight
  have G_most_weight := ok_most_weight (P := P) (w := w) (base := base) T F_most_weight
  refine F.okX sc_heavy (fun vs H Q E h => ?_) (fun cdv A outer s H vs Q E hr h => ?_)
  · obtain ⟨c, tt, g, p, k, L, pl, ts, rfl, _⟩ := h
    rfl
  · obtain ⟨c, tt, g, p, k, L, pl, ts, rfl, hc, hg, hn, hL, q⟩ := h
    refine ⟨_, (pss_cons (ps_asg (L2.pv 0) (pg_tup rfl (pgs_cons (pg_name (i := 3) sc_heavy.nd rfl (Or.inr rfl)) (pgs_cons (pg_name (i := 4) sc_heavy.nd rfl (Or.inl rfl)) (pgs_cons (pg_name (i := 5) sc_heavy.nd rfl (Or.inl rfl)) pgs_nil)))))
      (by exact (pss_cons (ps_set (i := 6) sc_heavy.nd rfl (Or.inr rfl) (pe_call G_weighted_points (hr.mono (by decide)) rfl T.m_weighted_points F_weighted_points.kp b_weighted_points .nil pass0 (pa_cons (L2.pv 0) (pa_cons (L2.pv 1) pa_nil))))
      (by exact (pss_cons (ps_if (pt_cmpR op_le (L2.pv 2) (pe_call G_most_weight (hr.mono (by decide)) rfl T.m_most_weight F_most_weight.kp b_most_weight .nil pass0 (pa_cons (L2.pv 6) (pa_cons (pe_callB (call_max2 rfl) (by rfl) T.max_ boot_max (pa_cons (pe_op op_sub (L2.pv 4) pe_int) (pa_cons pe_int pa_nil))) pa_nil))) (nomark _)) (pss_one (ps_raise (fun _ _ _ _ _ _ _ _ I m q => raises_out I m q) rfl rfl T.x_TooFew T.xi_TooFew pe_str)) pss_nil)
      (by exact pss_never)))))), ?_⟩
    refine ⟨_, rfl, c, _, rfl, SqT.of hc.1, rfl, _, _, rfl, _, _, rfl, _, _, rfl, rfl, ?_⟩
    refine ⟨_, rfl, _, rfl, c, tt, g, p, k, pl, ts, rfl, hc, hg, hn, fun l ts' H1 hl s1 hts h1 => ?_⟩
    refine ⟨_, rfl, _, rfl, _, rfl, _, _, rfl, rfl, _, _, rfl, l, _, ts', rfl, h1, by omega, fun v H2 v0 s2 => ?_⟩
    refine ⟨_, _, rfl, rfl, _, rfl, ?_⟩
    exact ite2 (fun _ => ⟨rfl, q H2 (s1.trans s2)⟩) (fun h => absurd (decide_eq_true (by omega)) h)
def sp_joint_near (t : Adr) (K : PySem.W.Frag) : Sp := fun vs H Q E => ∃ (c tt rs r : Addr) (p k T : Int) (pl : List Int) (rw : List (Option Int)), vs = [.ref c, .ref rs, .int T] ∧ CodeAt H c tt p k pl ∧ H rs = some (.lst [.ref r, .ref r]) ∧ RowAt K H r pl.length rw ∧ pl.length ≤ 1000 ∧
  ((T < k ∧ ∀ H', Same H H' → E (.ref t.TooFew) none H') ∨ (k ≤ T ∧ rw.length < T ∧ ∀ (l : Addr) (H' : Hp), H l = none → Same H H' → H' l = some (.lst []) → Q (.ref l) H'))
theorem sc_joint_near : FnScope ["code", "rows", "t", "starts", "row", "longer", "known", "numbers", "heard", "polynomial"] ["code", "rows", "t"] (defScope s_joint_near) := ⟨rfl, rfl, rfl, by decide +kernel, rfl, by decide +kernel, by decide +kernel⟩
theorem ok_joint_near {fd : FuncData} (T : Txt K mg t) (F : Fun K "joint_near" "joint_near" s_joint_near t.joint_near fd) : FnOk P w K mg base (CX1 P w) 3 t.joint_near fd ["code", "rows", "t"] (sp_joint_near t K) := by
  obtain ⟨fd_heard_at, F_heard_at, b_heard_at⟩ := T.f_heard_at
  have G_heard_at := ok_heard_at (P := P) (w := w) (base := base) T F_heard_at
  obtain ⟨fd_all_near, F_all_near, b_all_near⟩ := T.f_all_near
  have G_all_near := ok_all_near (P := P) (w := w) (base := base) T F_all_near
  refine F.okX sc_joint_near (fun vs H Q E h => ?_) (fun cdv A outer s H vs Q E hr h => ?_)
  · obtain ⟨c, tt, rs, r, p, k, T', pl, rw, rfl, _⟩ := h
    rfl
  · obtain ⟨c, tt, rs, r, p, k, T', pl, rw, rfl, hc, hrs, hr', hn, q⟩ := h
    refine ⟨_, (pss_cons (ps_set (i := 3) sc_joint_near.nd rfl (Or.inl rfl) (pe_lst (pa_cons (pe_tup (pa_cons (pe_tup pa_nil) (pa_cons (pe_callTy (call_list_rng rfl) (by rfl) T.list_ boot_list (pa_cons (pe_callTy call_range1 (by rfl) T.range_ boot_range (pa_cons (pe_callB call_len_seq (by rfl) T.len_ boot_len (pa_cons (pe_ix ix_tup (L2.pv 0) pe_int (fun _ _ => rfl)) pa_nil)) pa_nil)) pa_nil)) pa_nil))) pa_nil)))
      (by exact (pss_cons (ps_for PassesOwn.leaving rfl (pi_list (L2.pv 1)) (pg_name (i := 4) sc_joint_near.nd rfl (Or.inl rfl)) (pss_cons (ps_set (i := 5) sc_joint_near.nd rfl (Or.inl rfl) (pe_lst pa_nil))
      (by exact (pss_cons (ps_for PassesOwn.leaving rfl (pi_list (L2.pv 3)) (pg_tup rfl (pgs_cons (pg_name (i := 6) sc_joint_near.nd rfl (Or.inl rfl)) (pgs_cons (pg_name (i := 7) sc_joint_near.nd rfl (Or.inl rfl)) pgs_nil))) (pss_cons (ps_set (i := 8) sc_joint_near.nd rfl (Or.inl rfl) (pe_call G_heard_at (hr.mono (by decide)) rfl T.m_heard_at F_heard_at.kp b_heard_at .nil pass0 (pa_cons (L2.pv 4) (pa_cons (L2.pv 7) pa_nil))))
      (by exact (pss_one (ps_for PassesOwn.leaving rfl (pi_list (pe_call G_all_near (hr.mono (by decide)) rfl T.m_all_near F_all_near.kp b_all_near .nil passes_out (pa_cons (L2.pv 0) (pa_cons (L2.pv 8) (pa_cons (L2.pv 2) pa_nil))))) (pg_name (i := 9) sc_joint_near.nd rfl (Or.inl rfl)) pss_never)))))
      (by exact (pss_one (ps_set (i := 3) sc_joint_near.nd rfl (Or.inl rfl) (L2.pv 5))))))))
      (by exact (pss_one (ps_ret (pe_comp (CompSc.of (N' := ["known", "numbers"]) (ix := [none, none]) (defScope s_joint_near) ["code", "rows", "t", "starts", "row", "longer", "known", "numbers", "heard", "polynomial"] rfl rfl (by decide +kernel)) rfl (gk_tup (gks_cons rfl (gks_cons rfl gks_nil))) (pi_list (L2.pv 3)) (fun _ _ _ _ => (pg_tupK (K := K) (n := 2) rfl rfl (pgs_cons (pg_name (i := 0) (show (["known", "numbers"] : List Str).Nodup by decide +kernel) rfl (Or.inl rfl)) (pgs_cons (pg_name (i := 1) (show (["known", "numbers"] : List Str).Nodup by decide +kernel) rfl (Or.inl rfl)) pgs_nil)))) (fun _ _ _ _ => pifs_nil) (fun _ _ _ _ => (L2.pv 0))))))))), ?_⟩
    have hsl := sizeLine_eq
    have hl := hr'.len
    refine ⟨Nat.zero_le _, fun e0 he0 => ?_⟩
    have s1 := same_upd (o := .tup []) he0
    refine ⟨_, rfl, c, _, _, _, rfl, rfl, SqT.of (s1 _ _ hc.1), rfl, tt, _, rfl, .inr (SqT.of (s1 _ _ hc.2)), _, rfl, fun g hg => ?_⟩
    rw [List.length_map]
    have s2 := s1.trans (same_upd (o := .rng 0 (pl.length : Int)) hg)
    refine ⟨g, _, rfl, upd_same, by omega, by omega, fun l hl1 => ?_⟩
    have s3 := s2.trans (same_upd (o := .lst ((intsTo 0 (pl.length : Int).toNat).map V.int)) hl1)
    refine ⟨two_le_line, fun T1 hT1 => ?_⟩
    have hl2 : upd (upd (upd (upd H e0 (.tup [])) g (.rng 0 (pl.length : Int))) l (.lst ((intsTo 0 (pl.length : Int).toNat).map V.int))) T1 (.tup [.ref e0, .ref l]) l = some (.lst ((intsTo 0 (pl.length : Int).toNat).map V.int)) := (same_upd hT1) _ _ upd_same
    have s4 := s3.trans (same_upd (o := .tup [.ref e0, .ref l]) hT1)
    have hTT : upd (upd (upd (upd H e0 (.tup [])) g (.rng 0 (pl.length : Int))) l (.lst ((intsTo 0 (pl.length : Int).toNat).map V.int))) T1 (.tup [.ref e0, .ref l]) T1 = some (.tup [.ref e0, .ref l]) := upd_same
    generalize upd (upd (upd (upd H e0 (.tup [])) g (.rng 0 (pl.length : Int))) l (.lst ((intsTo 0 (pl.length : Int).toNat).map V.int))) T1 (.tup [.ref e0, .ref l]) = H4 at s4 hl2 hTT ⊢
    refine ⟨by show 1 ≤ sizeLine; omega, fun st hst => ?_⟩
    have s5 := s4.trans (same_upd (o := .lst [.ref T1]) hst)
    have hl3 := (same_upd (o := .lst [.ref T1]) hst) _ _ hl2
    have hT3 := (same_upd (o := .lst [.ref T1]) hst) _ _ hTT
    have hst3 : upd H4 st (.lst [.ref T1]) st = some (.lst [.ref T1]) := upd_same
    generalize upd H4 st (.lst [.ref T1]) = H5 at s5 hl3 hT3 hst3 ⊢
    refine ⟨_, rfl, rs, rfl, ⟨_, SqL.of (s5 _ _ hrs)⟩, for_list (K := K) (a := rs) (xs := [.ref r, .ref r]) (fun i σ H' => ∃ (sa : Addr) (e4 e5 e6 e7 e8 e9 : Option V), σ = [some (.ref c), some (.ref rs), some (.int T'), some (.ref sa), e4, e5, e6, e7, e8, e9] ∧ Same H H' ∧
      ((i = 0 ∧ sa = st ∧ H' = H5) ∨ (0 < i ∧ H' sa = some (.lst []) ∧ k ≤ T' ∧ rw.length < T')))
      ⟨st, none, none, none, none, none, none, rfl, s5, .inl ⟨rfl, rfl, rfl⟩⟩ (fun i σ H' _ ⟨_, _, _, _, _, _, _, _, s', _⟩ => SqL.of (s' _ _ hrs)) ?_ ?_⟩
    · rintro i x σ H6 hx ⟨sa, e4, e5, e6, e7, e8, e9, rfl, s6, hw⟩
      have ex : x = .ref r := by
        match i, hx with
        | 0, hx => exact (Option.some.inj hx).symm
        | 1, hx => exact (Option.some.inj hx).symm
        | (i + 2), hx => simp at hx
      subst ex
      refine ⟨Nat.zero_le _, fun lo hlo => ?_⟩
      have s7 := same_upd (o := .lst []) hlo
      rcases hw with ⟨rfl, rfl, rfl⟩ | ⟨hi0, hsa, hkT, hlT⟩
      · refine ⟨_, rfl, sa, rfl, ⟨_, SqL.of (s7 _ _ hst3)⟩, for_list (K := K) (a := sa) (xs := [.ref T1]) (fun j σ H' => ∃ (e6 e7 e8 e9 : Option V), σ = [some (.ref c), some (.ref rs), some (.int T'), some (.ref sa), some (.ref r), some (.ref lo), e6, e7, e8, e9] ∧ Same (upd H6 lo (.lst [])) H' ∧ (j = 0 ∨ (k ≤ T' ∧ rw.length < T')))
          ⟨_, _, _, _, rfl, fun _ _ e => e, .inl rfl⟩ (fun j σ H' _ ⟨_, _, _, _, _, s', _⟩ => SqL.of (s' _ _ (s7 _ _ hst3))) ?_ ?_⟩
        · rintro j y σ H7 hy ⟨e6, e7, e8, e9, rfl, s8, hj⟩
          have ey : y = .ref T1 := by
            match j, hy with
            | 0, hy => exact (Option.some.inj hy).symm
            | (j + 1), hy => simp at hy
          subst ey
          have s9 := s7.trans s8
          have sA := s6.trans s9
          refine ⟨T1, _, rfl, SqT.of (s9 _ _ hT3), rfl, _, _, rfl, _, _, rfl, rfl, ?_⟩
          refine ⟨_, rfl, _, rfl, r, l, pl.length, rw, _, rfl, hr'.same sA, SqL.of (s9 _ _ hl3), hn, fun l2 rw' H8 hl2' s10 hrow => ?_⟩
          have sB := sA.trans s10
          have hl' := hrow.len
          refine ⟨_, rfl, _, rfl, _, rfl, c, tt, l2, p, k, T', pl, rw', rfl, hc.same sB, hrow, hn, ?_⟩
          rcases q with ⟨h1, q⟩ | ⟨h1, h2, q⟩
          · exact .inl ⟨h1, fun H' s' => q H' (sB.trans s')⟩
          · refine .inr ⟨h1, by omega, fun l3 H9 hl9 s11 h9 => ?_⟩
            refine ⟨l3, rfl, ⟨_, SqL.of h9⟩, for_list (K := K) (a := l3) (xs := []) (fun j σ H' => σ = [some (.ref c), some (.ref rs), some (.int T'), some (.ref sa), some (.ref r), some (.ref lo), some (.ref e0), some (.ref l), some (.ref l2), e9] ∧ H' = H9) ⟨rfl, rfl⟩ (fun j σ H' _ ⟨_, z⟩ => by rw [z]; exact SqL.of h9) (fun j y σ H' hy => by simp at hy) ?_⟩
            rintro σ H' ⟨rfl, rfl⟩
            exact ⟨_, _, _, _, rfl, (s8.trans s10).trans s11, .inr ⟨h1, h2⟩⟩
        · rintro σ H7 ⟨e6, e7, e8, e9, rfl, s8, hj⟩
          rcases hj with z | ⟨h1, h2⟩
          · cases z
          · exact ⟨_, rfl, lo, _, _, _, _, _, _, rfl, s6.trans (s7.trans s8), .inr ⟨Nat.succ_pos _, s8 _ _ upd_same, h1, h2⟩⟩
      · refine ⟨_, rfl, sa, rfl, ⟨_, SqL.of (s7 _ _ hsa)⟩, for_list (K := K) (a := sa) (xs := []) (fun j σ H' => σ = [some (.ref c), some (.ref rs), some (.int T'), some (.ref sa), some (.ref r), some (.ref lo), e6, e7, e8, e9] ∧ H' = upd H6 lo (.lst [])) ⟨rfl, rfl⟩ (fun j σ H' _ ⟨_, z⟩ => by rw [z]; exact SqL.of (s7 _ _ hsa)) (fun j y σ H' hy => by simp at hy) ?_⟩
        rintro σ H' ⟨rfl, rfl⟩
        exact ⟨_, rfl, lo, _, _, _, _, _, _, rfl, s6.trans s7, .inr ⟨Nat.succ_pos _, upd_same, hkT, hlT⟩⟩
    · rintro σ H6 ⟨sa, e4, e5, e6, e7, e8, e9, rfl, s6, hw⟩
      rcases hw with ⟨z, _⟩ | ⟨_, hsa, hkT, hlT⟩
      · cases z
      · rcases q with ⟨h1, q⟩ | ⟨h1, h2, q⟩
        · omega
        · refine ⟨_, rfl, sa, rfl, ⟨_, SqL.of hsa⟩, comp_by (n := 0) (fun i ys H' => ys = [] ∧ H' = H6) ⟨rfl, rfl⟩ (fun i ys H' hi => absurd hi (Nat.not_lt_zero i)) (fun ys H' ⟨_, z⟩ => ⟨[], by rw [z]; exact SqL.of hsa, Nat.le_refl _⟩) (fun i x ys H3 H4 hi => absurd hi (Nat.not_lt_zero i)) ?_⟩
          rintro ys H' D ⟨rfl, rfl⟩ hD
          exact q D _ (s6.free hD) (s6.trans (same_upd hD)) upd_same
end
end My

end
section
set_option maxHeartbeats 3999000
namespace My
open PySem L2 PyProof.Rows
section
variable {P : Program} {w : World} {K : PySem.W.Frag} {mg : Str → Option Value} {base : Heap} {t : Adr}
/-! ### _law_asked, _law_told -/
/-- what a door is asked with -/
structure Ask (K : PySem.W.Frag) (H : Hp) (c tt r : Addr) (p k : Int) (pl : List Int) (rw : List (Option Int)) : Prop where
  hc : CodeAt H c tt p k pl
  hr : RowAt K H r pl.length rw
  hn : pl.length ≤ 1000
  k1 : 1 ≤ k
  kn : k ≤ pl.length
def sp_l_asked (t : Adr) (K : PySem.W.Frag) : Sp := fun vs H Q E => ∃ (c tt r : Addr) (w p k T : Int) (pl : List Int) (rw : List (Option Int)), vs = [.int w, .ref c, .ref r, .int T] ∧ Ask K H c tt r p k pl rw ∧
  ((0 ≤ w ∧ w ≤ 5 ∧ T < k ∧ ∀ H', Same H H' → E (.ref t.TooFew) none H') ∨ ((w = 0 ∨ w = 1) ∧ k ≤ T ∧ rw.length < T ∧ ∀ (l : Addr) (H' : Hp), H l = none → Same H H' → H' l = some (.lst []) → Q (.ref l) H') ∨
   ((w = 2 ∨ w = 3) ∧ pl.length < T ∧ ∀ H', Same H H' → E (.ref t.TooFew) none H') ∨ (6 ≤ w ∧ w ≤ 10 ∧ k = 1 ∧ ∀ H', Same H H' → E (.ref t.NoCurve) none H'))
theorem int_eq {i j : Int} (h : decide (V.int i = V.int j) = true) : i = j := by
  have := of_decide_eq_true h
  injection this
theorem int_ne {i j : Int} (h : ¬ decide (V.int i = V.int j) = true) : i ≠ j := fun z => h (decide_eq_true (by rw [z]))
theorem sc_l_asked : FnScope ["which", "code", "row", "t", "paper"] ["which", "code", "row", "t"] (defScope s_l_asked) := ⟨rfl, rfl, rfl, by decide +kernel, rfl, by decide +kernel, by decide +kernel⟩
theorem ok_l_asked {fd : FuncData} (T : Txt K mg t) (F : Fun K "_law_asked" "_law_asked" s_l_asked t.l_asked fd) : FnOk P w K mg base (CX1 P w) 4 t.l_asked fd ["which", "code", "row", "t"] (sp_l_asked t K) := by
  obtain ⟨fd_all_near, F_all_near, b_all_near⟩ := T.f_all_near
  have G_all_near := ok_all_near (P := P) (w := w) (base := base) T F_all_near
  obtain ⟨fd_joint_near, F_joint_near, b_joint_near⟩ := T.f_joint_near
  have G_joint_near := ok_joint_near (P := P) (w := w) (base := base) T F_joint_near
  obtain ⟨fd_due_of, F_due_of, b_due_of⟩ := T.f_due_of
  have G_due_of := ok_due_of (P := P) (w := w) (base := base) T F_due_of
  obtain ⟨fd_many_near, F_many_near, b_many_near⟩ := T.f_many_near
  have G_many_near := ok_many_near (P := P) (w := w) (base := base) T F_many_near
  obtain ⟨fd_heavy, F_heavy, b_heavy⟩ := T.f_heavy
  have G_heavy := ok_heavy (P := P) (w := w) (base := base) T F_heavy
  obtain ⟨fd_nearest, F_nearest, b_nearest⟩ := T.f_nearest
  have G_nearest := ok_nearest (P := P) (w := w) (base := base) T F_nearest
  obtain ⟨fd_curve_for, F_curve_for, b_curve_for⟩ := T.f_curve_for
  have G_curve_for := ok_curve_for (P := P) (w := w) (base := base) T F_curve_for
  obtain ⟨fd_paper_of, F_paper_of, b_paper_of⟩ := T.f_paper_of
  have G_paper_of := ok_paper_of (P := P) (w := w) (base := base) T F_paper_of
  obtain ⟨fd_paper_holds, F_paper_holds, b_paper_holds⟩ := T.f_paper_holds
  have G_paper_holds := ok_paper_holds (P := P) (w := w) (base := base) T F_paper_holds
  obtain ⟨fd_near_by, F_near_by, b_near_by⟩ := T.f_near_by
  have G_near_by := ok_near_by (P := P) (w := w) (base := base) T F_near_by
  obtain ⟨fd_curve_by, F_curve_by, b_curve_by⟩ := T.f_curve_by
  have G_curve_by := ok_curve_by (P := P) (w := w) (base := base) T F_curve_by
  refine F.okX sc_l_asked (fun vs H Q E h => ?_) (fun cdv A outer s H vs Q E hr h => ?_)
  · obtain ⟨c, tt, r, w', p, k, T', pl, rw, rfl, _⟩ := h
    rfl
  · obtain ⟨c, tt, r, w', p, k, T', pl, rw, rfl, ⟨hc, hr', hn, k1, kn⟩, q⟩ := h
    refine ⟨_, (pss_cons (ps_if (pt_cmpR op_eq (L2.pv 0) pe_int (nomark _)) (pss_one (ps_ret (pe_call G_all_near (hr.mono (by decide)) rfl T.m_all_near F_all_near.kp b_all_near .nil passes_out (pa_cons (L2.pv 1) (pa_cons (L2.pv 2) (pa_cons (L2.pv 3) pa_nil)))))) pss_nil)
      (by exact (pss_cons (ps_if (pt_cmpR op_eq (L2.pv 0) pe_int (nomark _)) (pss_one (ps_ret (pe_call G_joint_near (hr.mono (by decide)) rfl T.m_joint_near F_joint_near.kp b_joint_near .nil passes_out (pa_cons (L2.pv 1) (pa_cons (pe_lst (pa_cons (L2.pv 2) (pa_cons (L2.pv 2) pa_nil))) (pa_cons (L2.pv 3) pa_nil)))))) pss_nil)
      (by exact (pss_cons (ps_if (pt_cmpR op_eq (L2.pv 0) pe_int (nomark _)) (pss_one (ps_ret (pe_call G_due_of (hr.mono (by decide)) rfl T.m_due_of F_due_of.kp b_due_of .nil passes_out (pa_cons (L2.pv 1) (pa_cons (L2.pv 3) pa_nil))))) pss_nil)
      (by exact (pss_cons (ps_if (pt_cmpR op_eq (L2.pv 0) pe_int (nomark _)) (pss_one (ps_ret (pe_call G_many_near (hr.mono (by decide)) rfl T.m_many_near F_many_near.kp b_many_near .nil passes_out (pa_cons (L2.pv 1) (pa_cons (L2.pv 3) pa_nil))))) pss_nil)
      (by exact (pss_cons (ps_if (pt_cmpR op_eq (L2.pv 0) pe_int (nomark _)) (pss_one (ps_ret (pe_call G_heavy (hr.mono (by decide)) rfl T.m_heavy F_heavy.kp b_heavy .nil passes_out (pa_cons (L2.pv 1) (pa_cons (pe_lst (pa_cons (pe_tup (pa_cons pe_int (pa_cons pe_int (pa_cons pe_int pa_nil)))) (pa_cons (pe_tup (pa_cons pe_int (pa_cons pe_int (pa_cons pe_int pa_nil)))) pa_nil))) (pa_cons (pe_callB (call_min2 rfl) (by rfl) T.min_ boot_min (pa_cons pe_int (pa_cons (L2.pv 3) pa_nil))) pa_nil)))))) pss_nil)
      (by exact (pss_cons (ps_if (pt_cmpR op_eq (L2.pv 0) pe_int (nomark _)) (pss_one (ps_ret (pe_call G_nearest (hr.mono (by decide)) rfl T.m_nearest F_nearest.kp b_nearest .nil passes_out (pa_cons (L2.pv 1) (pa_cons (pe_op op_cat (pe_op op_rep (pe_lst (pa_cons pe_int pa_nil)) (pe_op op_sub (pe_ix ix_tup (L2.pv 1) pe_int (fun _ _ => rfl)) pe_int)) (pe_op op_rep (pe_lst (pa_cons pe_non pa_nil)) (pe_op op_add (pe_op op_sub (pe_callB call_len_seq (by rfl) T.len_ boot_len (pa_cons (L2.pv 2) pa_nil)) (pe_ix ix_tup (L2.pv 1) pe_int (fun _ _ => rfl))) pe_int))) pa_nil))))) pss_nil)
      (by exact (pss_cons (ps_set (i := 4) sc_l_asked.nd rfl (Or.inl rfl) (pe_tup (pa_cons pe_int (pa_cons (pe_tup (pa_cons (pe_tup (pa_cons pe_int pa_nil)) pa_nil)) pa_nil))))
      (by exact (pss_cons (ps_if (pt_cmpR op_eq (L2.pv 0) pe_int (nomark _)) (pss_one (ps_ret (pe_call G_curve_for (hr.mono (by decide)) rfl T.m_curve_for F_curve_for.kp b_curve_for .nil passes_out (pa_cons (L2.pv 1) (pa_cons (L2.pv 2) (pa_cons pe_int pa_nil)))))) pss_nil)
      (by exact (pss_cons (ps_if (pt_cmpR op_eq (L2.pv 0) pe_int (nomark _)) (pss_one (ps_ret (pe_call G_paper_of (hr.mono (by decide)) rfl T.m_paper_of F_paper_of.kp b_paper_of .nil passes_out (pa_cons (L2.pv 1) (pa_cons (L2.pv 2) (pa_cons pe_int pa_nil)))))) pss_nil)
      (by exact (pss_cons (ps_if (pt_cmpR op_eq (L2.pv 0) pe_int (nomark _)) (pss_one (ps_ret (pe_call G_paper_holds (hr.mono (by decide)) rfl T.m_paper_holds F_paper_holds.kp b_paper_holds .nil passes_out (pa_cons (L2.pv 1) (by exact (pa_cons (L2.pv 2) (pa_cons pe_int (pa_cons (L2.pv 4) pa_nil)))))))) pss_nil)
      (by exact (pss_one (ps_ret (pe_ifExp (pt_cmpR op_eq (L2.pv 0) pe_int (nomark _)) (pe_call G_near_by (hr.mono (by decide)) rfl T.m_near_by F_near_by.kp b_near_by .nil passes_out (pa_cons (L2.pv 1) (by exact (pa_cons (L2.pv 2) (pa_cons pe_int (pa_cons (L2.pv 4) pa_nil)))))) (pe_call G_curve_by (hr.mono (by decide)) rfl T.m_curve_by F_curve_by.kp b_curve_by .nil passes_out (pa_cons (L2.pv 1) (pa_cons (pe_lst (pa_cons (pe_tup (pa_cons pe_int (pa_cons pe_int (pa_cons pe_int pa_nil)))) pa_nil)) pa_nil)))))))))))))))))))))))))), ?_⟩
    have hsl := sizeLine_eq
    have hl := hr'.len
    have r0 : Same H H := fun _ _ e => e
    refine ⟨_, rfl, rfl, _, rfl, ite2 (fun h0 => ?_) (fun h0 => ?_)⟩
    · have h0 := int_eq h0
      refine ⟨_, rfl, _, rfl, _, rfl, c, tt, r, p, k, T', pl, rw, rfl, hc, hr', hn, ?_⟩
      rcases q with ⟨_, _, h1, q⟩ | ⟨_, h1, h2, q⟩ | ⟨h1, _⟩ | ⟨h1, _⟩
      · exact .inl ⟨h1, q⟩
      · exact .inr ⟨h1, h2, q⟩
      · omega
      · omega
    have h0 := int_ne h0
    refine ⟨_, rfl, rfl, _, rfl, ite2 (fun h => ?_) (fun h => ?_)⟩
    · have h := int_eq h
      refine ⟨_, rfl, _, rfl, _, rfl, two_le_line, fun rs hrs => ?_⟩
      have s1 := same_upd (o := .lst [.ref r, .ref r]) hrs
      refine ⟨_, rfl, c, tt, rs, r, p, k, T', pl, rw, rfl, hc.same s1, upd_same, hr'.same s1, hn, ?_⟩
      rcases q with ⟨_, _, h1, q⟩ | ⟨_, h1, h2, q⟩ | ⟨h1, _⟩ | ⟨h1, _⟩
      · exact .inl ⟨h1, fun H' s' => q H' (s1.trans s')⟩
      · exact .inr ⟨h1, h2, fun l H' hl' s' h' => q l H' (s1.free hl') (s1.trans s') h'⟩
      · omega
      · omega
    have h1' := int_ne h
    refine ⟨_, rfl, rfl, _, rfl, ite2 (fun h => ?_) (fun h => ?_)⟩
    · have h := int_eq h
      refine ⟨_, rfl, _, rfl, c, tt, p, k, T', pl, rfl, hc, ?_⟩
      rcases q with ⟨_, _, h1, q⟩ | ⟨h1, _⟩ | ⟨_, h1, q⟩ | ⟨h1, _⟩
      · exact ⟨.inl h1, q H r0⟩
      · omega
      · exact ⟨.inr h1, q H r0⟩
      · omega
    have h2' := int_ne h
    refine ⟨_, rfl, rfl, _, rfl, ite2 (fun h => ?_) (fun h => ?_)⟩
    · have h := int_eq h
      refine ⟨_, rfl, _, rfl, c, tt, p, k, T', pl, rfl, hc, ?_⟩
      rcases q with ⟨_, _, h1, q⟩ | ⟨h1, _⟩ | ⟨_, h1, q⟩ | ⟨h1, _⟩
      · exact ⟨.inl h1, q H r0⟩
      · omega
      · exact ⟨.inr h1, q H r0⟩
      · omega
    have h3' := int_ne h
    refine ⟨_, rfl, rfl, _, rfl, ite2 (fun h => ?_) (fun h => ?_)⟩
    · have h := int_eq h
      refine ⟨_, rfl, by show 3 ≤ sizeLine; omega, fun b1 hb1 => ⟨by show 3 ≤ sizeLine; omega, fun b2 hb2 => ⟨two_le_line, fun g hg => ?_⟩⟩⟩
      have s1 := same_upd (o := .tup [.int 0, .int 1, .int 5]) hb1
      have s2 := same_upd (o := .tup [.int 0, .int 2, .int 3]) hb2
      have s3 := same_upd (o := .lst [.ref b1, .ref b2]) hg
      have sA := s1.trans (s2.trans s3)
      refine ⟨_, rfl, _, _, rfl, c, tt, g, p, k, _, pl, [(0, 1, 5), (0, 2, 3)], rfl, hc.same sA, ⟨[b1, b2], upd_same, rfl, fun i b q e1 e2 => ?_⟩, by decide, by split <;> omega, ?_⟩
      · match i, e1, e2 with
        | 0, e1, e2 =>
          cases (Option.some.inj e1); cases (Option.some.inj e2)
          exact s3 _ _ (s2 _ _ upd_same)
        | 1, e1, e2 =>
          cases (Option.some.inj e1); cases (Option.some.inj e2)
          exact s3 _ _ upd_same
        | (i + 2), e1, e2 => simp at e1
      · rcases q with ⟨_, _, h1, q⟩ | ⟨h1, _⟩ | ⟨h1, _⟩ | ⟨h1, _⟩
        · exact fun H' s' => q H' (sA.trans s')
        · omega
        · omega
        · omega
    have h4' := int_ne h
    refine ⟨_, rfl, rfl, _, rfl, ite2 (fun h => ?_) (fun h => ?_)⟩
    · have h := int_eq h
      refine ⟨_, rfl, by show 1 ≤ sizeLine; omega, fun a1 ha1 => ?_⟩
      have s1 := same_upd (o := .lst [.int 0]) ha1
      refine ⟨_, rfl, c, _, _, _, rfl, rfl, SqT.of (s1 _ _ hc.1), rfl, _, _, rfl, rfl, a1, _, _, rfl, rfl, upd_same, by omega, by omega, by show 1 * _ ≤ sizeLine; omega, fun a2 ha2 => ?_⟩
      rw [rep_zero]
      have s2 := s1.trans (same_upd (o := .lst ((List.replicate (k - 1).toNat 0).map V.int)) ha2)
      refine ⟨by show 1 ≤ sizeLine; omega, fun a3 ha3 => ?_⟩
      have s3 := s2.trans (same_upd (o := .lst [.non]) ha3)
      refine ⟨_, rfl, r, _, rfl, .inl (s3.seq hr'.at'), _, rfl, c, _, _, _, rfl, rfl, SqT.of (s3 _ _ hc.1), rfl, _, _, rfl, rfl, _, _, rfl, rfl, a3, _, _, rfl, rfl, upd_same, by rw [List.length_map]; omega, by rw [List.length_map]; omega, by rw [List.length_map]; show 1 * _ ≤ sizeLine; omega, fun a4 ha4 => ?_⟩
      rw [nones]
      have s4 := s3.trans (same_upd (o := .lst ((List.replicate (((rw.map enc).length : Int) - k + 1).toNat (none : Option Int)).map enc)) ha4)
      have e1 : (List.replicate (k - 1).toNat (0 : Int)).map V.int = (List.replicate (k - 1).toNat (some (0 : Int))).map enc := by rw [List.map_replicate, List.map_replicate]; rfl
      refine ⟨a2, a4, _, _, rfl, rfl, (same_upd ha4) _ _ ((same_upd ha3) _ _ upd_same), upd_same, ?_, fun a5 ha5 => ?_⟩
      · rw [List.length_map, List.length_map, List.length_replicate, List.length_replicate, List.length_map]
        omega
      have s5 := s4.trans (same_upd (o := .lst ((List.replicate (k - 1).toNat (0 : Int)).map V.int ++ (List.replicate (((rw.map enc).length : Int) - k + 1).toNat (none : Option Int)).map enc)) ha5)
      refine ⟨c, tt, a5, p, k, pl, List.replicate (k - 1).toNat (some 0) ++ List.replicate (((rw.map enc).length : Int) - k + 1).toNat none, rfl, hc.same s5, ⟨SqL.of ?_, ?_⟩, hn, ?_, ?_⟩
      · rw [upd_same, e1, List.map_append]
      · rw [List.length_append, List.length_replicate, List.length_replicate, List.length_map]
        omega
      · rw [nh_start]
        omega
      · rcases q with ⟨_, _, h1, q⟩ | ⟨h1, _⟩ | ⟨h1, _⟩ | ⟨h1, _⟩
        · exact fun H' s' => q H' (s5.trans s')
        · omega
        · omega
        · omega
    have h5' := int_ne h
    have hw : 6 ≤ w' ∧ w' ≤ 10 ∧ k = 1 ∧ ∀ H', Same H H' → E (.ref t.NoCurve) none H' := by
      rcases q with ⟨_, _, h1, q⟩ | ⟨h1, _⟩ | ⟨h1, _⟩ | q
      · omega
      · omega
      · omega
      · exact q
    obtain ⟨h6, h10, rfl, qc⟩ := hw
    refine ⟨by show 1 ≤ sizeLine; omega, fun b1 hb1 => ⟨by show 1 ≤ sizeLine; omega, fun b2 hb2 => ⟨two_le_line, fun pa hpa => ?_⟩⟩⟩
    have sA := (same_upd (o := .tup [.int 1]) hb1).trans ((same_upd (o := .tup [.ref b1]) hb2).trans (same_upd (o := .tup [.int 1, .ref b2]) hpa))
    have hcA := hc.same sA
    have qA := qc _ sA
    generalize upd (upd (upd H b1 (.tup [.int 1])) b2 (.tup [.ref b1])) pa (.tup [.int 1, .ref b2]) = HA at sA hcA qA ⊢
    refine ⟨_, rfl, rfl, _, rfl, ite2 (fun h => ?_) (fun h => ?_)⟩
    · exact ⟨_, rfl, _, rfl, c, tt, p, pl, _, _, rfl, hcA, qA⟩
    refine ⟨_, rfl, rfl, _, rfl, ite2 (fun h => ?_) (fun h => ?_)⟩
    · exact ⟨_, rfl, _, rfl, c, tt, p, pl, _, _, rfl, hcA, qA⟩
    refine ⟨_, rfl, rfl, _, rfl, ite2 (fun h => ?_) (fun h => ?_)⟩
    · exact ⟨_, rfl, _, rfl, _, rfl, c, tt, p, pl, _, _, _, rfl, hcA, qA⟩
    refine ⟨_, rfl, rfl, _, rfl, ite2 (fun h => ?_) (fun h => ?_)⟩
    · exact ⟨_, rfl, _, rfl, _, rfl, c, tt, p, pl, _, _, _, rfl, hcA, qA⟩
    refine ⟨_, rfl, by show 3 ≤ sizeLine; omega, fun b3 hb3 => ⟨by show 1 ≤ sizeLine; omega, fun b4 hb4 => ?_⟩⟩
    have sB := sA.trans ((same_upd (o := .tup [.int 0, .int 1, .int 2]) hb3).trans (same_upd (o := .lst [.ref b3]) hb4))
    exact ⟨c, tt, p, pl, _, rfl, hc.same sB, qc _ sB⟩
def sp_l_told (t : Adr) (K : PySem.W.Frag) : Sp := fun vs H Q _ => ∃ (c tt r : Addr) (w p k T : Int) (pl : List Int) (rw : List (Option Int)), vs = [.int w, .ref c, .ref r, .int T] ∧ Ask K H c tt r p k pl rw ∧
  ((0 ≤ w ∧ w ≤ 5 ∧ T < k ∧ ∀ H', Same H H' → Q (.str "few") H') ∨ ((w = 0 ∨ w = 1) ∧ k ≤ T ∧ rw.length < T ∧ ∀ (l : Addr) (H' : Hp), H l = none → Same H H' → H' l = some (.lst []) → Q (.ref l) H') ∨
   ((w = 2 ∨ w = 3) ∧ pl.length < T ∧ ∀ H', Same H H' → Q (.str "few") H') ∨ (6 ≤ w ∧ w ≤ 10 ∧ k = 1 ∧ ∀ H', Same H H' → Q (.str "curve") H'))
theorem sc_l_told : FnScope ["which", "code", "row", "t", "found", "e"] ["which", "code", "row", "t"] (defScope s_l_told) := ⟨rfl, rfl, rfl, by decide +kernel, rfl, by decide +kernel, by decide +kernel⟩
theorem ok_l_told {fd : FuncData} (T : Txt K mg t) (F : Fun K "_law_told" "_law_told" s_l_told t.l_told fd) : FnOk P w K mg base CX0 5 t.l_told fd ["which", "code", "row", "t"] (sp_l_told t K) := by
  obtain ⟨fd_l_asked, F_l_asked, b_l_asked⟩ := T.f_l_asked
  have G_l_asked := ok_l_asked (P := P) (w := w) (base := base) T F_l_asked
  obtain ⟨fd_l_word, F_l_word, b_l_word⟩ := T.f_l_word
  have G_l_word := ok_l_word (P := P) (w := w) (base := base) T F_l_word
  refine F.ok sc_l_told (fun vs H Q E h => ?_) (fun cdv A outer s H vs Q E hr h => ?_)
  · obtain ⟨c, tt, r, w', p, k, T', pl, rw, rfl, _⟩ := h
    rfl
  · obtain ⟨c, tt, r, w', p, k, T', pl, rw, rfl, ha, q⟩ := h
    refine ⟨_, (pss_cons (ps_set (i := 4) sc_l_told.nd rfl (Or.inl rfl) pe_non)
      (by exact (pss_cons (ps_try (i := 5) rfl rfl rfl rfl T.x_SlipError T.sb sc_l_told.nd rfl rfl (fun xe pins σ E hp => (pss_one_at (ps_set_at (i := 4) sc_l_told.nd rfl (Or.inl rfl) (pe_call_at G_l_asked (hr.mono (by decide)) rfl T.m_l_asked F_l_asked.kp b_l_asked .nil hp (pa_cons (L2.pv 0) (pa_cons (L2.pv 1) (pa_cons (L2.pv 2) (pa_cons (L2.pv 3) pa_nil)))))))) (fun e => pss_one (ps_set (i := 4) sc_l_told.nd rfl (Or.inl rfl) (pe_callH G_l_word (RoomH.of (hr.mono (by decide))) rfl T.m_l_word F_l_word.kp b_l_word (pa_cons (L2.pv 5) pa_nil)))))
      (by exact (pss_one (ps_ret (L2.pv 4))))))), ?_⟩
    refine ⟨_, rfl, _, rfl, _, rfl, _, rfl, c, tt, r, w', p, k, T', pl, rw, rfl, ha, ?_⟩
    rcases q with ⟨h1, h2, h3, q⟩ | ⟨h1, h2, h3, q⟩ | ⟨h1, h2, q⟩ | ⟨h1, h2, h3, q⟩
    · refine .inl ⟨h1, h2, h3, fun H1 s1 => ⟨_, rfl, T.kw_TooFew.sl, fun e he => ?_⟩⟩
      refine ⟨_, rfl, e, _, _, _, _, _, _, _, _, _, _, _, 0, "few", rfl, upd_same, T.kw_TooFew, rfl, rfl, by decide, by decide, rfl, fun H' s' => ?_⟩
      exact ⟨_, rfl, q H' (s1.trans ((same_upd he).trans s'))⟩
    · refine .inr (.inl ⟨h1, h2, h3, fun l H' hl s' h' => ?_⟩)
      exact ⟨_, rfl, q l H' hl s' h'⟩
    · refine .inr (.inr (.inl ⟨h1, h2, fun H1 s1 => ⟨_, rfl, T.kw_TooFew.sl, fun e he => ?_⟩⟩))
      refine ⟨_, rfl, e, _, _, _, _, _, _, _, _, _, _, _, 0, "few", rfl, upd_same, T.kw_TooFew, rfl, rfl, by decide, by decide, rfl, fun H' s' => ?_⟩
      exact ⟨_, rfl, q H' (s1.trans ((same_upd he).trans s'))⟩
    · refine .inr (.inr (.inr ⟨h1, h2, h3, fun H1 s1 => ⟨_, rfl, T.kw_NoCurve.sl, fun e he => ?_⟩⟩))
      refine ⟨_, rfl, e, _, _, _, _, _, _, _, _, _, _, _, 1, "curve", rfl, upd_same, T.kw_NoCurve, rfl, rfl, by decide, by decide, rfl, fun H' s' => ?_⟩
      exact ⟨_, rfl, q H' (s1.trans ((same_upd he).trans s'))⟩
end
end My

end
section
set_option maxHeartbeats 3999000
namespace My
open PySem L2 PyProof.Rows
section
variable {P : Program} {w : World} {K : PySem.W.Frag} {mg : Str → Option Value} {base : Heap} {t : Adr}
/-! ### law -/
theorem rEqD_true {H : Hp} {Q : VK} {a b : Addr} {xs ys : List V} (ha : SqL K H a xs) (hb : SqL K H b ys) (hl : xs.length = ys.length) (he : ∀ (j : Nat) x y, xs[j]? = some x → ys[j]? = some y → EqD K H 8 x y true) (q : Q (.bl false) H) : rEqD K true (.ref a) (.ref b) H Q := by
  refine ⟨a, b, _, _, rfl, rfl, .inl ⟨ha, hb⟩, .inr ⟨hl, fun _ => true, he, ?_⟩⟩
  have : (List.range xs.length).all (fun _ => true) = true := by simp
  rw [this]
  exact q
theorem eqD_str {H : Hp} {d : Nat} (x : Str) : EqD K H d (.str x) (.str x) true := by
  have h := EqD.flat (K := K) (H := H) (d := d) (x := .str x) (y := .str x) rfl rfl
  have e : eqV (.str x) (.str x) = true := by simp [eqV]
  rw [e] at h
  exact h
theorem snoc_get {ys : List V} {y x : V} {m : Nat} (h : (ys ++ [y])[m]? = some x) : (m < ys.length ∧ ys[m]? = some x) ∨ (m = ys.length ∧ x = y) := by
  by_cases hm : m < ys.length
  · rw [List.getElem?_append_left hm] at h
    exact .inl ⟨hm, h⟩
  · have hlt := (List.getElem?_eq_some_iff.mp h).1
    rw [List.length_append] at hlt
    have e : m = ys.length := by
      have : [y].length = 1 := rfl
      omega
    subst e
    rw [List.getElem?_append_right (Nat.le_refl _), Nat.sub_self] at h
    exact .inr ⟨rfl, (Option.some.inj h).symm⟩
theorem eqD_nil {H : Hp} {a b : Addr} (hne : a ≠ b) (ha : H a = some (.lst [])) (hb : H b = some (.lst [])) : EqD K H 8 (.ref a) (.ref b) true :=
  EqD.lists (d := 7) (xs := []) (ys := []) (e := fun _ => true) hne (SqL.of ha) (SqL.of hb) rfl (fun j x y h => by simp at h)
theorem sc_law : FnScope ["script", "at", "code", "row", "plan", "far", "t", "one"] ["script"] (defScope s_law) := ⟨rfl, rfl, rfl, by decide +kernel, rfl, by decide +kernel, by decide +kernel⟩
theorem ok_law {fd : FuncData} (T : Txt K mg t) (F : Fun K "law" "law" s_law t.law fd) : FnOk P w K mg base CX0 6 t.law fd ["script"] (sp_law K) := by
  obtain ⟨fd_l_code, F_l_code, b_l_code⟩ := T.f_l_code
  have G_l_code := ok_l_code (P := P) (w := w) (base := base) T F_l_code
  obtain ⟨fd_l_row, F_l_row, b_l_row⟩ := T.f_l_row
  have G_l_row := ok_l_row (P := P) (w := w) (base := base) T F_l_row
  obtain ⟨fd_l_draws, F_l_draws, b_l_draws⟩ := T.f_l_draws
  have G_l_draws := ok_l_draws (P := P) (w := w) (base := base) T F_l_draws
  obtain ⟨fd_l_told, F_l_told, b_l_told⟩ := T.f_l_told
  have G_l_told := ok_l_told (P := P) (w := w) (base := base) T F_l_told
  refine F.ok sc_law (fun vs H Q E h => ?_) (fun cdv A outer s H vs Q E hr h => ?_)
  · obtain ⟨a, ns, rfl, _⟩ := h
    rfl
  · obtain ⟨a, ns, rfl, hS, hlen, q⟩ := h
    have hu : (A.deeper (envOfC (Str.ofString "law") (defScope s_law) s.heap.objs.size t.law cdv)).units + 20 < cLine := by have := hr.units; omega
    refine ⟨_, (pss_cons (ps_for PassesOwn.never rfl (pi_range1 rfl T.range_ (pa_cons pe_int pa_nil)) (pg_name (i := 1) sc_law.nd rfl (Or.inl rfl)) (pss_cons (ps_set (i := 2) sc_law.nd rfl (Or.inr rfl) (pe_call G_l_code (hr.mono (by decide)) rfl T.m_l_code F_l_code.kp b_l_code .nil pass0 (pa_cons (L2.pv 0) (by exact (pa_cons (pe_op op_mul pe_int (L2.pv 1)) (pa_cons pe_int (pa_cons pe_int pa_nil)))))))
      (by exact (pss_cons (ps_set (i := 3) sc_law.nd rfl (Or.inr rfl) (pe_call G_l_row (hr.mono (by decide)) rfl T.m_l_row F_l_row.kp b_l_row .nil pass0 (pa_cons (L2.pv 0) (pa_cons (pe_op op_add (pe_op op_mul pe_int (L2.pv 1)) pe_int) (pa_cons (L2.pv 2) pa_nil)))))
      (by exact (pss_cons (ps_set (i := 4) sc_law.nd rfl (Or.inl rfl) (pe_call G_l_draws (hr.mono (by decide)) rfl T.m_l_draws F_l_draws.kp b_l_draws .nil pass0 (pa_cons (L2.pv 0) (by exact (pa_cons (pe_op op_add (pe_op op_mul pe_int (L2.pv 1)) pe_int) (pa_cons pe_int (pa_cons pe_int pa_nil)))))))
      (by exact (pss_cons (ps_set (i := 5) sc_law.nd rfl (Or.inl rfl) (pe_op op_add (pe_op op_pow pe_int pe_int) (pe_ix ix_list (L2.pv 4) pe_int (fun _ _ => rfl))))
      (by exact (pss_cons (ps_for PassesOwn.never rfl (pi_list (pe_lst (pa_cons (pe_op op_sub (pe_ix ix_tup (L2.pv 2) pe_int (fun _ _ => rfl)) pe_int) (by exact (pa_cons pe_int (pa_cons (pe_op op_sub (pe_un un_neg pe_int) (pe_ix ix_list (L2.pv 4) pe_int (fun _ _ => rfl))) (pa_cons (pe_op op_sub pe_int (L2.pv 5)) pa_nil))))))) (pg_name (i := 6) sc_law.nd rfl (Or.inr rfl)) (pss_one (ps_if (pt_cmpR (op_neD hu) (pe_comp (CompSc.of (N' := ["which", "code", "row", "t"]) (ix := [none, some 2, some 3, some 6]) (defScope s_law) ["script", "at", "code", "row", "plan", "far", "t", "one"] rfl rfl (by decide +kernel)) rfl (gk_name rfl) (pi_range1 rfl T.range_ (pa_cons pe_int pa_nil)) (fun _ _ _ _ => (pg_name (i := 0) (show (["which", "code", "row", "t"] : List Str).Nodup by decide +kernel) rfl (Or.inl rfl))) (fun _ _ _ _ => pifs_nil) (fun _ _ _ _ => (pe_call G_l_told (hr.mono (by decide)) rfl T.m_l_told F_l_told.kp b_l_told .nil pass0 (pa_cons (L2.pv 0) (by exact (pa_cons (L2.pv 1) (pa_cons (L2.pv 2) (pa_cons (L2.pv 3) pa_nil)))))))) (pe_op op_rep (pe_lst (pa_cons pe_str pa_nil)) pe_int) (nomark _)) (pss_one (ps_ret pe_bl)) pss_nil)))
      (by exact (pss_cons (ps_for PassesOwn.never rfl (pi_list (pe_lst (pa_cons (pe_op op_add (pe_callB call_len_seq (by rfl) T.len_ boot_len (pa_cons (L2.pv 3) pa_nil)) pe_int) (pa_cons (pe_op op_add (pe_op op_add (pe_callB call_len_seq (by rfl) T.len_ boot_len (pa_cons (L2.pv 3) pa_nil)) pe_int) (pe_ix ix_list (L2.pv 4) pe_int (fun _ _ => rfl))) (pa_cons (L2.pv 5) pa_nil))))) (pg_name (i := 6) sc_law.nd rfl (Or.inr rfl)) (pss_one (ps_if (pt_cmpR (op_neD hu) (pe_comp (CompSc.of (N' := ["which", "code", "row", "t"]) (ix := [none, some 2, some 3, some 6]) (defScope s_law) ["script", "at", "code", "row", "plan", "far", "t", "one"] rfl rfl (by decide +kernel)) rfl (gk_name rfl) (pi_range1 rfl T.range_ (pa_cons pe_int pa_nil)) (fun _ _ _ _ => (pg_name (i := 0) (show (["which", "code", "row", "t"] : List Str).Nodup by decide +kernel) rfl (Or.inl rfl))) (fun _ _ _ _ => pifs_nil) (fun _ _ _ _ => (pe_call G_l_told (hr.mono (by decide)) rfl T.m_l_told F_l_told.kp b_l_told .nil pass0 (pa_cons (L2.pv 0) (by exact (pa_cons (L2.pv 1) (pa_cons (L2.pv 2) (pa_cons (L2.pv 3) pa_nil)))))))) (pe_lst (pa_cons (pe_lst pa_nil) (by exact (pa_cons (pe_lst pa_nil) (pa_cons pe_str (pa_cons pe_str pa_nil)))))) (nomark _)) (pss_one (ps_ret pe_bl)) pss_nil)))
      (by exact (pss_cons (ps_set (i := 7) sc_law.nd rfl (Or.inr rfl) (pe_tup (pa_cons (pe_ix ix_tup (L2.pv 2) pe_int (fun _ _ => rfl)) (pa_cons pe_int (pa_cons (pe_ix ix_tup (L2.pv 2) pe_int (fun _ _ => rfl)) pa_nil)))))
      (by exact (pss_one (ps_if (pt_cmpR (op_neD hu) (pe_comp (CompSc.of (N' := ["which", "one", "row"]) (ix := [none, some 7, some 3]) (defScope s_law) ["script", "at", "code", "row", "plan", "far", "t", "one"] rfl rfl (by decide +kernel)) rfl (gk_name rfl) (pi_range2 rfl T.range_ (pa_cons pe_int (pa_cons pe_int pa_nil))) (fun _ _ _ _ => (pg_name (i := 0) (show (["which", "one", "row"] : List Str).Nodup by decide +kernel) rfl (Or.inl rfl))) (fun _ _ _ _ => pifs_nil) (fun _ _ _ _ => (pe_call G_l_told (hr.mono (by decide)) rfl T.m_l_told F_l_told.kp b_l_told .nil pass0 (pa_cons (L2.pv 0) (by exact (pa_cons (L2.pv 1) (pa_cons (L2.pv 2) (pa_cons pe_int pa_nil)))))))) (pe_op op_rep (pe_lst (pa_cons pe_str pa_nil)) pe_int) (nomark _)) (pss_one (ps_ret pe_bl)) pss_nil)))))))))))))))))
      (by exact (pss_one (ps_ret pe_bl)))), ?_⟩
    have hsl := sizeLine_eq
    refine ⟨3, rfl, by decide, by decide, ?_⟩
    refine for_range (lo := 0) (n := 3) (fun i σ H' => ∃ (e1 e2 e3 e4 e5 e6 e7 : Option V), σ = [some (.ref a), e1, e2, e3, e4, e5, e6, e7] ∧ Same H H') ⟨none, none, none, none, none, none, none, rfl, fun _ _ e => e⟩ ?_ ?_
    · rintro i σ H0 hi ⟨e1, e2, e3, e4, e5, e6, e7, rfl, s0⟩
      refine ⟨_, rfl, _, rfl, _, _, rfl, rfl, .inl ⟨by decide, by decide⟩, a, ns, 4 * (0 + (i : Int)), 5, 16, rfl, s0.seq hS, hlen, by omega, by omega, by decide, by decide, by decide, by decide, fun c tt p k pl H1 hc1 s1 co h1c h1t => ?_⟩
      have rp := prime_rng co.pr
      have k1 := co.k1
      have kn := co.kl
      have ln := co.ln
      have sA1 := s0.trans s1
      refine ⟨_, rfl, _, rfl, _, _, rfl, rfl, .inl ⟨by decide, by decide⟩, _, _, rfl, rfl, _, rfl, a, c, tt, ns, 4 * (0 + (i : Int)) + 1, p, k, pl, rfl, sA1.seq hS, hlen, by omega, by omega, ⟨h1c, h1t⟩, by omega, by omega, co.rg, by omega, fun r rw H2 hr2 s2 hrl h2r => ?_⟩
      have sA2 := sA1.trans s2
      refine ⟨_, rfl, _, rfl, _, _, rfl, rfl, .inl ⟨by decide, by decide⟩, _, _, rfl, rfl, a, ns, 4 * (0 + (i : Int)) + 3, 3, 27720, rfl, sA2.seq hS, hlen, by omega, by omega, by decide, by decide, by decide, by decide, fun pa ds H3 hpa s3 hd h3p => ?_⟩
      have sA3 := sA2.trans s3
      have hdl : ds.length = 3 := hd.1
      obtain ⟨d0, m0, g0⟩ := at_mem (ns := ds) (k := 0) (by decide) (by omega)
      obtain ⟨d1, m1, g1⟩ := at_mem (ns := ds) (k := 1) (by decide) (by omega)
      obtain ⟨d2, m2, g2⟩ := at_mem (ns := ds) (k := 2) (by decide) (by omega)
      have b0 := hd.2 d0 m0
      have b1 := hd.2 d1 m1
      have b2 := hd.2 d2 m2
      obtain ⟨f39, hf39⟩ : ∃ f : Int, (10 : Int) ^ (39 : Int).toNat = f := ⟨_, rfl⟩
      have hbig : (1000 : Int) ≤ f39 := by rw [← hf39]; decide +kernel
      refine ⟨_, _, rfl, rfl, ⟨by decide, by decide, by decide⟩, _, rfl, pa, _, _, _, rfl, rfl, SqL.of h3p, g0, f39, _, by rw [← hf39], rfl, ?_⟩
      have ha0 : Ask K H3 c tt r p k pl rw := ⟨(CodeAt.same (s2.trans s3) ⟨h1c, h1t⟩), ⟨SqL.of (s3 _ _ h2r), hrl⟩, by omega, k1, kn⟩
      have hc3 : CodeAt H3 c tt p k pl := ha0.hc
      refine ⟨_, rfl, c, _, _, _, rfl, rfl, SqT.of hc3.1, rfl, _, _, rfl, rfl, _, rfl, _, rfl, pa, _, _, _, rfl, rfl, SqL.of h3p, g1, _, _, rfl, rfl, _, rfl, _, _, rfl, rfl, by show 4 ≤ sizeLine; omega, fun tl htl => ?_⟩
      have s4 := same_upd (o := .lst [.int (k - 1), .int 0, .int (-1 - d1), .int (0 - (f39 + d0))]) htl
      have htl4 : upd H3 tl (.lst [.int (k - 1), .int 0, .int (-1 - d1), .int (0 - (f39 + d0))]) tl = some (.lst [.int (k - 1), .int 0, .int (-1 - d1), .int (0 - (f39 + d0))]) := upd_same
      refine ⟨tl, rfl, ⟨_, SqL.of upd_same⟩, for_list (K := K) (a := tl) (xs := [.int (k - 1), .int 0, .int (-1 - d1), .int (0 - (f39 + d0))]) (fun j σ H' => ∃ e6 : Option V, σ = [some (.ref a), some (.int (0 + (i : Int))), some (.ref c), some (.ref r), some (.ref pa), some (.int (f39 + d0)), e6, e7] ∧ Same (upd H3 tl (.lst [.int (k - 1), .int 0, .int (-1 - d1), .int (0 - (f39 + d0))])) H')
        ⟨e6, rfl, fun _ _ e => e⟩ (fun j σ H' _ ⟨_, _, s'⟩ => SqL.of (s' _ _ upd_same)) ?_ ?_⟩
      · rintro j x σ H5 hx ⟨e6, rfl, s5⟩
        obtain ⟨T1, rfl, hT1⟩ : ∃ T1 : Int, x = .int T1 ∧ T1 < k := by
          match j, hx with
          | 0, hx => exact ⟨_, (Option.some.inj hx).symm, by omega⟩
          | 1, hx => exact ⟨_, (Option.some.inj hx).symm, by omega⟩
          | 2, hx => exact ⟨_, (Option.some.inj hx).symm, by omega⟩
          | 3, hx => exact ⟨_, (Option.some.inj hx).symm, by omega⟩
          | (j + 4), hx => simp at hx
        have s35 := s4.trans s5
        refine ⟨6, rfl, by decide, by decide, comp_by (n := 6) (fun j ys H' => ys = List.replicate j (.str "few") ∧ Same H5 H') ⟨rfl, fun _ _ e => e⟩ (fun i ys H' hi _ => hi) (fun ys H' _ => Nat.le_refl _) ?_ ?_⟩
        · rintro w' xx ys H6 H7 hw ⟨rfl, s6⟩ ⟨rfl, rfl⟩
          refine gY ?_
          have hA := (s35.trans s6)
          refine ⟨_, rfl, _, rfl, _, rfl, _, rfl, c, tt, r, _, p, k, T1, pl, rw, rfl, ⟨ha0.hc.same hA, ha0.hr.same hA, ha0.hn, k1, kn⟩, .inl ⟨by omega, by omega, hT1, fun H' s' => ⟨by rw [List.length_replicate]; omega, ?_, s6.trans s'⟩⟩⟩
          rw [List.replicate_succ']
        · rintro ys H6 D ⟨rfl, s6⟩ hD
          refine ⟨by show 1 ≤ sizeLine; omega, fun z hz => ⟨z, _, _, rfl, rfl, upd_same, by decide, by decide, by show 1 * _ ≤ sizeLine; omega, fun y hy => ?_⟩⟩
          refine rEqD_true (SqL.of ((same_upd hy) _ _ ((same_upd hz) _ _ upd_same))) (SqL.of upd_same) rfl (fun j' x' y' hx' hy' => ?_) ⟨_, rfl, iteF ?_⟩
          · have e1 : x' = .str "few" := List.eq_of_mem_replicate (List.mem_of_getElem? hx')
            have e2 : y' = .str "few" := List.eq_of_mem_replicate (n := 6) (List.mem_of_getElem? hy')
            rw [e1, e2]
            exact eqD_str "few"
          · exact ⟨_, rfl, s5.trans (s6.trans ((same_upd hD).trans ((same_upd hz).trans (same_upd hy))))⟩
      · rintro σ H5 ⟨e6, rfl, s5⟩
        have s35 := s4.trans s5
        have ha5 : Ask K H5 c tt r p k pl rw := ⟨ha0.hc.same s35, ha0.hr.same s35, ha0.hn, k1, kn⟩
        have hc5 : CodeAt H5 c tt p k pl := ha5.hc
        have hr5 := ha5.hr.at'
        refine ⟨_, rfl, r, _, rfl, .inl hr5, _, _, rfl, rfl, _, rfl, r, _, rfl, .inl hr5, _, _, rfl, rfl, _, rfl, pa, _, _, _, rfl, rfl, SqL.of (s35 _ _ h3p), g2, _, _, rfl, rfl, _, rfl, by show 3 ≤ sizeLine; omega, fun tk htk => ?_⟩
        have s6 := same_upd (o := .lst [.int (((rw.map enc).length : Int) + 1), .int (((rw.map enc).length : Int) + 1 + d2), .int (f39 + d0)]) htk
        refine ⟨tk, rfl, ⟨_, SqL.of upd_same⟩, for_list (K := K) (a := tk) (xs := [.int (((rw.map enc).length : Int) + 1), .int (((rw.map enc).length : Int) + 1 + d2), .int (f39 + d0)]) (fun j σ H' => ∃ e6 : Option V, σ = [some (.ref a), some (.int (0 + (i : Int))), some (.ref c), some (.ref r), some (.ref pa), some (.int (f39 + d0)), e6, e7] ∧ Same (upd H5 tk (.lst [.int (((rw.map enc).length : Int) + 1), .int (((rw.map enc).length : Int) + 1 + d2), .int (f39 + d0)])) H')
          ⟨e6, rfl, fun _ _ e => e⟩ (fun j σ H' _ ⟨_, _, s'⟩ => SqL.of (s' _ _ upd_same)) ?_ ?_⟩
        · rintro j x σ H7 hx ⟨e6, rfl, s7⟩
          have hml : (rw.map enc).length = rw.length := List.length_map _
          obtain ⟨T1, rfl, hT1⟩ : ∃ T1 : Int, x = .int T1 ∧ (rw.length : Int) < T1 := by
            match j, hx with
            | 0, hx => exact ⟨_, (Option.some.inj hx).symm, by omega⟩
            | 1, hx => exact ⟨_, (Option.some.inj hx).symm, by omega⟩
            | 2, hx => exact ⟨_, (Option.some.inj hx).symm, by omega⟩
            | (j + 3), hx => simp at hx
          have s57 := s6.trans s7
          refine ⟨4, rfl, by decide, by decide, comp_by (n := 4) (fun j ys H' => ys.length = j ∧ (∀ (m : Nat) (x : V), ys[m]? = some x → (m < 2 ∧ ∃ l, x = .ref l ∧ H' l = some (.lst [])) ∨ (2 ≤ m ∧ x = .str "few")) ∧ Same H7 H') ⟨rfl, fun m x h => by simp at h, fun _ _ e => e⟩ (fun i ys H' hi _ => hi) (fun ys H' _ => Nat.le_refl _) ?_ ?_⟩
          · rintro w' xx ys H8 H9 hw ⟨hyl, hys, s8⟩ ⟨rfl, rfl⟩
            refine gY ?_
            have hA := (s57.trans s8)
            refine ⟨_, rfl, _, rfl, _, rfl, _, rfl, c, tt, r, _, p, k, T1, pl, rw, rfl, ⟨ha5.hc.same hA, ha5.hr.same hA, ha5.hn, k1, kn⟩, ?_⟩
            by_cases h2 : w' < 2
            · refine .inr (.inl ⟨by omega, by omega, hT1, fun l H' hl s' h' => ⟨by omega, by rw [List.length_append, hyl]; rfl, fun m x hm => ?_, s8.trans s'⟩⟩)
              rcases snoc_get hm with ⟨_, hm⟩ | ⟨hm, rfl⟩
              · rcases hys m x hm with ⟨z1, l', z2, z3⟩ | z
                · exact .inl ⟨z1, l', z2, s' _ _ z3⟩
                · exact .inr z
              · exact .inl ⟨by omega, l, rfl, h'⟩
            · refine .inr (.inr (.inl ⟨by omega, by omega, fun H' s' => ⟨by omega, by rw [List.length_append, hyl]; rfl, fun m x hm => ?_, s8.trans s'⟩⟩))
              rcases snoc_get hm with ⟨_, hm⟩ | ⟨hm, rfl⟩
              · rcases hys m x hm with ⟨z1, l', z2, z3⟩ | z
                · exact .inl ⟨z1, l', z2, s' _ _ z3⟩
                · exact .inr z
              · exact .inr ⟨by omega, rfl⟩
          · rintro ys H8 D ⟨hyl, hys, s8⟩ hD
            refine ⟨Nat.zero_le _, fun q1 hq1 => ⟨Nat.zero_le _, fun q2 hq2 => ⟨by show 4 ≤ sizeLine; omega, fun y hy => ?_⟩⟩⟩
            have t1 := same_upd (o := .lst ys) hD
            have t2 := same_upd (o := .lst []) hq1
            have t3 := same_upd (o := .lst []) hq2
            have t4 := same_upd (o := .lst [.ref q1, .ref q2, .str "few", .str "few"]) hy
            refine rEqD_true (SqL.of (t4 _ _ (t3 _ _ (t2 _ _ upd_same)))) (SqL.of upd_same) hyl (fun j' x' y' hx' hy' => ?_) ⟨_, rfl, iteF ?_⟩
            · match j', hx', hy' with
              | 0, hx', hy' =>
                obtain rfl : V.ref q1 = y' := Option.some.inj hy'
                rcases hys 0 x' hx' with ⟨_, l, rfl, hl⟩ | ⟨z, _⟩
                · exact eqD_nil (ne_of_none (t1 _ _ hl) hq1) (t4 _ _ (t3 _ _ (t2 _ _ (t1 _ _ hl)))) (t4 _ _ (t3 _ _ upd_same))
                · omega
              | 1, hx', hy' =>
                obtain rfl : V.ref q2 = y' := Option.some.inj hy'
                rcases hys 1 x' hx' with ⟨_, l, rfl, hl⟩ | ⟨z, _⟩
                · exact eqD_nil (ne_of_none (t2 _ _ (t1 _ _ hl)) hq2) (t4 _ _ (t3 _ _ (t2 _ _ (t1 _ _ hl)))) (t4 _ _ upd_same)
                · omega
              | 2, hx', hy' =>
                obtain rfl : V.str "few" = y' := Option.some.inj hy'
                rcases hys 2 x' hx' with ⟨z, _⟩ | ⟨_, rfl⟩
                · omega
                · exact eqD_str "few"
              | 3, hx', hy' =>
                obtain rfl : V.str "few" = y' := Option.some.inj hy'
                rcases hys 3 x' hx' with ⟨z, _⟩ | ⟨_, rfl⟩
                · omega
                · exact eqD_str "few"
              | (j' + 4), hx', hy' => simp at hy'
            · exact ⟨_, rfl, s7.trans (s8.trans (t1.trans (t2.trans (t3.trans t4))))⟩
        · rintro σ H7 ⟨e6, rfl, s7⟩
          have s57 := s6.trans s7
          have hc7 := hc5.same s57
          refine ⟨_, rfl, c, _, _, _, rfl, rfl, SqT.of hc7.1, rfl, _, rfl, c, _, _, _, rfl, rfl, SqT.of hc7.1, rfl, by show 3 ≤ sizeLine; omega, fun on hon => ?_⟩
          have s8 := same_upd (o := .tup [.int p, .int 1, .ref tt]) hon
          have ha8 : Ask K (upd H7 on (.tup [.int p, .int 1, .ref tt])) on tt r p 1 pl rw := ⟨⟨upd_same, s8 _ _ hc7.2⟩, ha5.hr.same (s57.trans s8), ha5.hn, by decide, by omega⟩
          refine ⟨6, 11, rfl, ⟨by decide, by decide, by decide, by decide⟩, comp_by (n := 5) (fun j ys H' => ys = List.replicate j (.str "curve") ∧ Same (upd H7 on (.tup [.int p, .int 1, .ref tt])) H') ⟨rfl, fun _ _ e => e⟩ (fun i ys H' hi _ => hi) (fun ys H' _ => Nat.le_refl _) ?_ ?_⟩
          · rintro w' xx ys H8 H9 hw ⟨rfl, s9⟩ ⟨rfl, rfl⟩
            refine gY ?_
            refine ⟨_, rfl, _, rfl, _, rfl, on, tt, r, _, p, 1, 3, pl, rw, rfl, ⟨ha8.hc.same s9, ha8.hr.same s9, ha8.hn, ha8.k1, ha8.kn⟩, .inr (.inr (.inr ⟨by omega, by omega, rfl, fun H' s' => ⟨by rw [List.length_replicate]; omega, ?_, s9.trans s'⟩⟩))⟩
            rw [List.replicate_succ']
          · rintro ys H8 D ⟨rfl, s9⟩ hD
            refine ⟨by show 1 ≤ sizeLine; omega, fun z hz => ⟨z, _, _, rfl, rfl, upd_same, by decide, by decide, by show 1 * _ ≤ sizeLine; omega, fun y hy => ?_⟩⟩
            refine rEqD_true (SqL.of ((same_upd hy) _ _ ((same_upd hz) _ _ upd_same))) (SqL.of upd_same) rfl (fun j' x' y' hx' hy' => ?_) ⟨_, rfl, iteF ?_⟩
            · have e1 : x' = .str "curve" := List.eq_of_mem_replicate (List.mem_of_getElem? hx')
              have e2 : y' = .str "curve" := List.eq_of_mem_replicate (n := 5) (List.mem_of_getElem? hy')
              rw [e1, e2]
              exact eqD_str "curve"
            · exact ⟨_, _, _, _, _, _, _, rfl, sA3.trans (s35.trans (s57.trans (s8.trans (s9.trans ((same_upd hD).trans ((same_upd hz).trans (same_upd hy)))))))⟩
    · rintro σ H' ⟨e1, e2, e3, e4, e5, e6, e7, rfl, s'⟩
      exact q H'
end
end My

end
section
set_option maxHeartbeats 3999000
namespace My
open PySem L2 PyProof.Rows

/-! ### the top of the text, and the law -/
structure Dn (K : PySem.W.Frag) (x : Str) (st : Stmt) (f : Addr) (fd : FuncData) : Prop where
  a : PySem.W.nsIn K mainGlobals x = some (some (.ref f))
  f : Fun K x x st f fd
theorem cn_mk {K : PySem.W.Frag} {x : Str} {i : Int} {u : Value} (y : PySem.W.nsIn K mainGlobals x = some (some u)) (r : RelV (.int i) u) : ∃ u, PySem.W.nsIn K mainGlobals x = some (some u) ∧ RelV (.int i) u := ⟨u, y, r⟩
theorem dn_mk {K : PySem.W.Frag} {x : Str} {st : Stmt} {f : Addr} {od an : Option Addr} {sl : Array (Option Value)} {oc kV dc pm cd ct : Value} (a : PySem.W.nsIn K mainGlobals x = some (some (.ref f))) (l : K.lookup f = some ⟨oc, od, .func (PySem.W.fnOf x x (defArgs st) (defBody st) (defScope st) .none kV dc pm an cd ct), sl⟩) (c : PySem.W.codeIn K cd x = true) (k : PySem.W.keepIn K (.ref f) = true) : Dn K x st f (PySem.W.fnOf x x (defArgs st) (defBody st) (defScope st) .none kV dc pm an cd ct) := ⟨a, fun_mk l c k⟩
/-- a method -/
structure Dm (K : PySem.W.Frag) (C : Addr) (x q : Str) (st : Stmt) (f : Addr) (fd : FuncData) : Prop where
  a : PySem.W.findIn K (.ref C) x = some (some (.ref f))
  i : PySem.W.isFn K (.ref f) = true
  f : Fun K x q st f fd
theorem all_mk {l : PySem.W.OpenLaw} {w : World} {K : PySem.W.Frag} {h : Heap} {mg : Str → Option Value} {fa fl A_SlipError A_TooFew A_NoCurve A_NoPaper A_NoPlace A_NoNumber A_Heard A_NotHeard A_NothingLeft A_NoText A_NoRow : Addr} (X : K.In h) (G : h.Ns mainGlobals mg) (hfa : mg "law" = some (.ref fa))
    {od an : Option Addr} {sl : Array (Option Value)} {oc kV dc pm cd ct : Value} (a_SlipError : PySem.W.nsIn K mainGlobals "SlipError" = some (some (.ref A_SlipError))) (a_TooFew : PySem.W.nsIn K mainGlobals "TooFew" = some (some (.ref A_TooFew))) (a_NoCurve : PySem.W.nsIn K mainGlobals "NoCurve" = some (some (.ref A_NoCurve))) (a_NoPaper : PySem.W.nsIn K mainGlobals "NoPaper" = some (some (.ref A_NoPaper))) (a_NoPlace : PySem.W.nsIn K mainGlobals "NoPlace" = some (some (.ref A_NoPlace))) (a_NoNumber : PySem.W.nsIn K mainGlobals "NoNumber" = some (some (.ref A_NoNumber))) (a_Heard : PySem.W.nsIn K mainGlobals "Heard" = some (some (.ref A_Heard))) (a_NotHeard : PySem.W.nsIn K mainGlobals "NotHeard" = some (some (.ref A_NotHeard))) (a_NothingLeft : PySem.W.nsIn K mainGlobals "NothingLeft" = some (some (.ref A_NothingLeft))) (a_NoText : PySem.W.nsIn K mainGlobals "NoText" = some (some (.ref A_NoText))) (a_NoRow : PySem.W.nsIn K mainGlobals "NoRow" = some (some (.ref A_NoRow))) (d_heard_points : ∃ f fd, Dn K "heard_points" s_heard_points f fd) (d_all_near : ∃ f fd, Dn K "all_near" s_all_near f fd) (d_nearest : ∃ f fd, Dn K "nearest" s_nearest f fd) (d_check_curves : ∃ f fd, Dn K "check_curves" s_check_curves f fd) (d_curve_for : ∃ f fd, Dn K "curve_for" s_curve_for f fd) (d_weighted_points : ∃ f fd, Dn K "weighted_points" s_weighted_points f fd) (d_most_weight : ∃ f fd, Dn K "most_weight" s_most_weight f fd) (d_heavy : ∃ f fd, Dn K "heavy" s_heavy f fd) (d_curve_by : ∃ f fd, Dn K "curve_by" s_curve_by f fd) (d_heard_at : ∃ f fd, Dn K "heard_at" s_heard_at f fd) (d_joint_near : ∃ f fd, Dn K "joint_near" s_joint_near f fd) (d_check_many : ∃ f fd, Dn K "check_many" s_check_many f fd) (d_due_of : ∃ f fd, Dn K "due_of" s_due_of f fd) (d_many_near : ∃ f fd, Dn K "many_near" s_many_near f fd) (d_paper_of : ∃ f fd, Dn K "paper_of" s_paper_of f fd) (d_paper_holds : ∃ f fd, Dn K "paper_holds" s_paper_holds f fd) (d_near_by : ∃ f fd, Dn K "near_by" s_near_by f fd) (d_l_cell : ∃ f fd, Dn K "_law_cell" s_l_cell f fd) (d_l_draws : ∃ f fd, Dn K "_law_draws" s_l_draws f fd) (d_l_code : ∃ f fd, Dn K "_law_code" s_l_code f fd) (d_l_value : ∃ f fd, Dn K "_law_value" s_l_value f fd) (d_l_polynomial : ∃ f fd, Dn K "_law_polynomial" s_l_polynomial f fd) (d_l_row : ∃ f fd, Dn K "_law_row" s_l_row f fd) (d_l_word : ∃ f fd, Dn K "_law_word" s_l_word f fd) (d_l_asked : ∃ f fd, Dn K "_law_asked" s_l_asked f fd) (d_l_told : ∃ f fd, Dn K "_law_told" s_l_told f fd)  (xi_TooFew : PySem.W.excIn K A_TooFew vErr "ValueError.__new__" = true) (xi_NoCurve : PySem.W.excIn K A_NoCurve vErr "ValueError.__new__" = true) (k_TooFew_TooFew : PySem.W.kitOne K (.ref A_TooFew) (.ref A_TooFew) = some true) (k_TooFew_NoCurve : PySem.W.kitOne K (.ref A_TooFew) (.ref A_NoCurve) = some false) (k_TooFew_NoPaper : PySem.W.kitOne K (.ref A_TooFew) (.ref A_NoPaper) = some false) (k_TooFew_NoPlace : PySem.W.kitOne K (.ref A_TooFew) (.ref A_NoPlace) = some false) (k_TooFew_NoNumber : PySem.W.kitOne K (.ref A_TooFew) (.ref A_NoNumber) = some false) (k_TooFew_Heard : PySem.W.kitOne K (.ref A_TooFew) (.ref A_Heard) = some false) (k_TooFew_NotHeard : PySem.W.kitOne K (.ref A_TooFew) (.ref A_NotHeard) = some false) (k_TooFew_NothingLeft : PySem.W.kitOne K (.ref A_TooFew) (.ref A_NothingLeft) = some false) (k_TooFew_NoText : PySem.W.kitOne K (.ref A_TooFew) (.ref A_NoText) = some false) (k_TooFew_NoRow : PySem.W.kitOne K (.ref A_TooFew) (.ref A_NoRow) = some false) (v_TooFew : PySem.W.kitOne K (.ref A_TooFew) (.type "ValueError") = some true) (s_TooFew : PySem.W.kitCls K (.ref A_TooFew) (.ref A_SlipError) = some true) (e1_TooFew : PySem.W.findIn K (.ref A_TooFew) "__getattribute__" = some (some (.builtin "BaseException.__getattribute__"))) (e2_TooFew : PySem.W.findIn K (.ref A_TooFew) "__getattr__" = some none) (e3_TooFew : PySem.W.findIn K (.ref A_TooFew) "__class__" = some (some (.builtin "object.__class__"))) (e4_TooFew : PySem.W.mroIn K A_TooFew (.type "object") = some true) (e5_TooFew : PySem.W.mroIn K A_TooFew (.type "BaseException") = some true) (e6_TooFew : PySem.W.kitCls K (.ref A_TooFew) (.ref A_TooFew) = some true) (k_NoCurve_TooFew : PySem.W.kitOne K (.ref A_NoCurve) (.ref A_TooFew) = some false) (k_NoCurve_NoCurve : PySem.W.kitOne K (.ref A_NoCurve) (.ref A_NoCurve) = some true) (k_NoCurve_NoPaper : PySem.W.kitOne K (.ref A_NoCurve) (.ref A_NoPaper) = some false) (k_NoCurve_NoPlace : PySem.W.kitOne K (.ref A_NoCurve) (.ref A_NoPlace) = some false) (k_NoCurve_NoNumber : PySem.W.kitOne K (.ref A_NoCurve) (.ref A_NoNumber) = some false) (k_NoCurve_Heard : PySem.W.kitOne K (.ref A_NoCurve) (.ref A_Heard) = some false) (k_NoCurve_NotHeard : PySem.W.kitOne K (.ref A_NoCurve) (.ref A_NotHeard) = some false) (k_NoCurve_NothingLeft : PySem.W.kitOne K (.ref A_NoCurve) (.ref A_NothingLeft) = some false) (k_NoCurve_NoText : PySem.W.kitOne K (.ref A_NoCurve) (.ref A_NoText) = some false) (k_NoCurve_NoRow : PySem.W.kitOne K (.ref A_NoCurve) (.ref A_NoRow) = some false) (v_NoCurve : PySem.W.kitOne K (.ref A_NoCurve) (.type "ValueError") = some true) (s_NoCurve : PySem.W.kitCls K (.ref A_NoCurve) (.ref A_SlipError) = some true) (e1_NoCurve : PySem.W.findIn K (.ref A_NoCurve) "__getattribute__" = some (some (.builtin "BaseException.__getattribute__"))) (e2_NoCurve : PySem.W.findIn K (.ref A_NoCurve) "__getattr__" = some none) (e3_NoCurve : PySem.W.findIn K (.ref A_NoCurve) "__class__" = some (some (.builtin "object.__class__"))) (e4_NoCurve : PySem.W.mroIn K A_NoCurve (.type "object") = some true) (e5_NoCurve : PySem.W.mroIn K A_NoCurve (.type "BaseException") = some true) (e6_NoCurve : PySem.W.kitCls K (.ref A_NoCurve) (.ref A_NoCurve) = some true) (sb : PySem.W.mroIn K A_SlipError (.type "BaseException") = some true) 
    (al : PySem.W.nsIn K mainGlobals "law" = some (some (.ref fl))) (ll : K.lookup fl = some ⟨oc, od, .func (PySem.W.fnOf "law" "law" (defArgs s_law) (defBody s_law) (defScope s_law) .none kV dc pm an cd ct), sl⟩) (cl : PySem.W.codeIn K cd "law" = true) (kl : PySem.W.keepIn K (.ref fl) = true) (z_len : PySem.W.nsIn K mainGlobals "len" = some none) (z_range : PySem.W.nsIn K mainGlobals "range" = some none) (z_list : PySem.W.nsIn K mainGlobals "list" = some none) (z_tuple : PySem.W.nsIn K mainGlobals "tuple" = some none) (z_min : PySem.W.nsIn K mainGlobals "min" = some none) (z_max : PySem.W.nsIn K mainGlobals "max" = some none) (z_isinstance : PySem.W.nsIn K mainGlobals "isinstance" = some none) (z_zip : PySem.W.nsIn K mainGlobals "zip" = some none) (z_enumerate : PySem.W.nsIn K mainGlobals "enumerate" = some none) (z_sum : PySem.W.nsIn K mainGlobals "sum" = some none) (z_sorted : PySem.W.nsIn K mainGlobals "sorted" = some none) (z_ValueError : PySem.W.nsIn K mainGlobals "ValueError" = some none) (y_MOST_PAPER_WEIGHT : ∃ u, PySem.W.nsIn K mainGlobals "MOST_PAPER_WEIGHT" = some (some u) ∧ RelV (.int 4) u) :
    ∃ fd : FuncData, (∀ (s : Shared) (v : Value), BindsTo s fd ⟨[v], []⟩ [("script", v)]) ∧ ∀ base : Heap, K.In base → base.Ns mainGlobals mg → FnOk l.prog w K mg base CX0 6 fa fd ["script"] (sp_law K) := by
  cases hfa.symm.trans (PySem.W.mg_of X G al)
  obtain ⟨f_heard_points, fd_heard_points, D_heard_points⟩ := d_heard_points
  have b_heard_points := D_heard_points.f.binds (ps := ["code", "row"]) fun _ _ _ _ _ _ us hl => match us, hl with | [_, _], _ => rfl
  obtain ⟨f_all_near, fd_all_near, D_all_near⟩ := d_all_near
  have b_all_near := D_all_near.f.binds (ps := ["code", "row", "t"]) fun _ _ _ _ _ _ us hl => match us, hl with | [_, _, _], _ => rfl
  obtain ⟨f_nearest, fd_nearest, D_nearest⟩ := d_nearest
  have b_nearest := D_nearest.f.binds (ps := ["code", "row"]) fun _ _ _ _ _ _ us hl => match us, hl with | [_, _], _ => rfl
  obtain ⟨f_check_curves, fd_check_curves, D_check_curves⟩ := d_check_curves
  have b_check_curves := D_check_curves.f.binds (ps := ["k"]) fun _ _ _ _ _ _ us hl => match us, hl with | [_], _ => rfl
  obtain ⟨f_curve_for, fd_curve_for, D_curve_for⟩ := d_curve_for
  have b_curve_for := D_curve_for.f.binds (ps := ["code", "row", "m"]) fun _ _ _ _ _ _ us hl => match us, hl with | [_, _, _], _ => rfl
  obtain ⟨f_weighted_points, fd_weighted_points, D_weighted_points⟩ := d_weighted_points
  have b_weighted_points := D_weighted_points.f.binds (ps := ["code", "guesses"]) fun _ _ _ _ _ _ us hl => match us, hl with | [_, _], _ => rfl
  obtain ⟨f_most_weight, fd_most_weight, D_most_weight⟩ := d_most_weight
  have b_most_weight := D_most_weight.f.binds (ps := ["points", "many"]) fun _ _ _ _ _ _ us hl => match us, hl with | [_, _], _ => rfl
  obtain ⟨f_heavy, fd_heavy, D_heavy⟩ := d_heavy
  have b_heavy := D_heavy.f.binds (ps := ["code", "guesses", "least"]) fun _ _ _ _ _ _ us hl => match us, hl with | [_, _, _], _ => rfl
  obtain ⟨f_curve_by, fd_curve_by, D_curve_by⟩ := d_curve_by
  have b_curve_by := D_curve_by.f.binds (ps := ["code", "guesses"]) fun _ _ _ _ _ _ us hl => match us, hl with | [_, _], _ => rfl
  obtain ⟨f_heard_at, fd_heard_at, D_heard_at⟩ := d_heard_at
  have b_heard_at := D_heard_at.f.binds (ps := ["row", "numbers"]) fun _ _ _ _ _ _ us hl => match us, hl with | [_, _], _ => rfl
  obtain ⟨f_joint_near, fd_joint_near, D_joint_near⟩ := d_joint_near
  have b_joint_near := D_joint_near.f.binds (ps := ["code", "rows", "t"]) fun _ _ _ _ _ _ us hl => match us, hl with | [_, _, _], _ => rfl
  obtain ⟨f_check_many, fd_check_many, D_check_many⟩ := d_check_many
  have b_check_many := D_check_many.f.binds (ps := ["code", "t"]) fun _ _ _ _ _ _ us hl => match us, hl with | [_, _], _ => rfl
  obtain ⟨f_due_of, fd_due_of, D_due_of⟩ := d_due_of
  have b_due_of := D_due_of.f.binds (ps := ["code", "t"]) fun _ _ _ _ _ _ us hl => match us, hl with | [_, _], _ => rfl
  obtain ⟨f_many_near, fd_many_near, D_many_near⟩ := d_many_near
  have b_many_near := D_many_near.f.binds (ps := ["code", "t"]) fun _ _ _ _ _ _ us hl => match us, hl with | [_, _], _ => rfl
  obtain ⟨f_paper_of, fd_paper_of, D_paper_of⟩ := d_paper_of
  have b_paper_of := D_paper_of.f.binds (ps := ["code", "row", "t"]) fun _ _ _ _ _ _ us hl => match us, hl with | [_, _, _], _ => rfl
  obtain ⟨f_paper_holds, fd_paper_holds, D_paper_holds⟩ := d_paper_holds
  have b_paper_holds := D_paper_holds.f.binds (ps := ["code", "row", "t", "paper"]) fun _ _ _ _ _ _ us hl => match us, hl with | [_, _, _, _], _ => rfl
  obtain ⟨f_near_by, fd_near_by, D_near_by⟩ := d_near_by
  have b_near_by := D_near_by.f.binds (ps := ["code", "row", "t", "paper"]) fun _ _ _ _ _ _ us hl => match us, hl with | [_, _, _, _], _ => rfl
  obtain ⟨f_l_cell, fd_l_cell, D_l_cell⟩ := d_l_cell
  have b_l_cell := D_l_cell.f.binds (ps := ["script", "k"]) fun _ _ _ _ _ _ us hl => match us, hl with | [_, _], _ => rfl
  obtain ⟨f_l_draws, fd_l_draws, D_l_draws⟩ := d_l_draws
  have b_l_draws := D_l_draws.f.binds (ps := ["script", "k", "many", "base"]) fun _ _ _ _ _ _ us hl => match us, hl with | [_, _, _, _], _ => rfl
  obtain ⟨f_l_code, fd_l_code, D_l_code⟩ := d_l_code
  have b_l_code := D_l_code.f.binds (ps := ["script", "at", "most_k", "most_n"]) fun _ _ _ _ _ _ us hl => match us, hl with | [_, _, _, _], _ => rfl
  obtain ⟨f_l_value, fd_l_value, D_l_value⟩ := d_l_value
  have b_l_value := D_l_value.f.binds (ps := ["p", "polynomial", "x"]) fun _ _ _ _ _ _ us hl => match us, hl with | [_, _, _], _ => rfl
  obtain ⟨f_l_polynomial, fd_l_polynomial, D_l_polynomial⟩ := d_l_polynomial
  have b_l_polynomial := D_l_polynomial.f.binds (ps := ["draws", "p", "k"]) fun _ _ _ _ _ _ us hl => match us, hl with | [_, _, _], _ => rfl
  obtain ⟨f_l_row, fd_l_row, D_l_row⟩ := d_l_row
  have b_l_row := D_l_row.f.binds (ps := ["script", "at", "code"]) fun _ _ _ _ _ _ us hl => match us, hl with | [_, _, _], _ => rfl
  obtain ⟨f_l_word, fd_l_word, D_l_word⟩ := d_l_word
  have b_l_word := D_l_word.f.binds (ps := ["e"]) fun _ _ _ _ _ _ us hl => match us, hl with | [_], _ => rfl
  obtain ⟨f_l_asked, fd_l_asked, D_l_asked⟩ := d_l_asked
  have b_l_asked := D_l_asked.f.binds (ps := ["which", "code", "row", "t"]) fun _ _ _ _ _ _ us hl => match us, hl with | [_, _, _, _], _ => rfl
  obtain ⟨f_l_told, fd_l_told, D_l_told⟩ := d_l_told
  have b_l_told := D_l_told.f.binds (ps := ["which", "code", "row", "t"]) fun _ _ _ _ _ _ us hl => match us, hl with | [_, _, _, _], _ => rfl
  let t : Adr := ⟨A_SlipError, A_TooFew, A_NoCurve, A_NoPaper, A_NoPlace, A_NoNumber, A_Heard, A_NotHeard, A_NothingLeft, A_NoText, A_NoRow, f_heard_points, f_all_near, f_nearest, f_check_curves, f_curve_for, f_weighted_points, f_most_weight, f_heavy, f_curve_by, f_heard_at, f_joint_near, f_check_many, f_due_of, f_many_near, f_paper_of, f_paper_holds, f_near_by, f_l_cell, f_l_draws, f_l_code, f_l_value, f_l_polynomial, f_l_row, f_l_word, f_l_asked, f_l_told, fa⟩
  have T : Txt K mg t := ⟨PySem.W.mg_none_of X G z_len, PySem.W.mg_none_of X G z_range, PySem.W.mg_none_of X G z_list, PySem.W.mg_none_of X G z_tuple, PySem.W.mg_none_of X G z_min, PySem.W.mg_none_of X G z_max, PySem.W.mg_none_of X G z_isinstance, PySem.W.mg_none_of X G z_zip, PySem.W.mg_none_of X G z_enumerate, PySem.W.mg_none_of X G z_sum, PySem.W.mg_none_of X G z_sorted, PySem.W.mg_none_of X G z_ValueError, (by obtain ⟨u, e, q, r⟩ := y_MOST_PAPER_WEIGHT; subst r; exact ⟨q, PySem.W.mg_of X G e⟩), PySem.W.mg_of X G a_SlipError, PySem.W.mg_of X G a_TooFew, PySem.W.mg_of X G a_NoCurve, PySem.W.mg_of X G a_NoPaper, PySem.W.mg_of X G a_NoPlace, PySem.W.mg_of X G a_NoNumber, PySem.W.mg_of X G a_Heard, PySem.W.mg_of X G a_NotHeard, PySem.W.mg_of X G a_NothingLeft, PySem.W.mg_of X G a_NoText, PySem.W.mg_of X G a_NoRow, xi_TooFew, xi_NoCurve, ⟨k_TooFew_TooFew, k_TooFew_NoCurve, k_TooFew_NoPaper, k_TooFew_NoPlace, k_TooFew_NoNumber, k_TooFew_Heard, k_TooFew_NotHeard, k_TooFew_NothingLeft, k_TooFew_NoText, k_TooFew_NoRow, v_TooFew, ⟨e1_TooFew, e2_TooFew, e3_TooFew, e4_TooFew, e5_TooFew, e6_TooFew⟩, s_TooFew⟩, ⟨k_NoCurve_TooFew, k_NoCurve_NoCurve, k_NoCurve_NoPaper, k_NoCurve_NoPlace, k_NoCurve_NoNumber, k_NoCurve_Heard, k_NoCurve_NotHeard, k_NoCurve_NothingLeft, k_NoCurve_NoText, k_NoCurve_NoRow, v_NoCurve, ⟨e1_NoCurve, e2_NoCurve, e3_NoCurve, e4_NoCurve, e5_NoCurve, e6_NoCurve⟩, s_NoCurve⟩, sb, PySem.W.mg_of X G D_heard_points.a, PySem.W.mg_of X G D_all_near.a, PySem.W.mg_of X G D_nearest.a, PySem.W.mg_of X G D_check_curves.a, PySem.W.mg_of X G D_curve_for.a, PySem.W.mg_of X G D_weighted_points.a, PySem.W.mg_of X G D_most_weight.a, PySem.W.mg_of X G D_heavy.a, PySem.W.mg_of X G D_curve_by.a, PySem.W.mg_of X G D_heard_at.a, PySem.W.mg_of X G D_joint_near.a, PySem.W.mg_of X G D_check_many.a, PySem.W.mg_of X G D_due_of.a, PySem.W.mg_of X G D_many_near.a, PySem.W.mg_of X G D_paper_of.a, PySem.W.mg_of X G D_paper_holds.a, PySem.W.mg_of X G D_near_by.a, PySem.W.mg_of X G D_l_cell.a, PySem.W.mg_of X G D_l_draws.a, PySem.W.mg_of X G D_l_code.a, PySem.W.mg_of X G D_l_value.a, PySem.W.mg_of X G D_l_polynomial.a, PySem.W.mg_of X G D_l_row.a, PySem.W.mg_of X G D_l_word.a, PySem.W.mg_of X G D_l_asked.a, PySem.W.mg_of X G D_l_told.a, ⟨_, D_heard_points.f, b_heard_points⟩, ⟨_, D_all_near.f, b_all_near⟩, ⟨_, D_nearest.f, b_nearest⟩, ⟨_, D_check_curves.f, b_check_curves⟩, ⟨_, D_curve_for.f, b_curve_for⟩, ⟨_, D_weighted_points.f, b_weighted_points⟩, ⟨_, D_most_weight.f, b_most_weight⟩, ⟨_, D_heavy.f, b_heavy⟩, ⟨_, D_curve_by.f, b_curve_by⟩, ⟨_, D_heard_at.f, b_heard_at⟩, ⟨_, D_joint_near.f, b_joint_near⟩, ⟨_, D_check_many.f, b_check_many⟩, ⟨_, D_due_of.f, b_due_of⟩, ⟨_, D_many_near.f, b_many_near⟩, ⟨_, D_paper_of.f, b_paper_of⟩, ⟨_, D_paper_holds.f, b_paper_holds⟩, ⟨_, D_near_by.f, b_near_by⟩, ⟨_, D_l_cell.f, b_l_cell⟩, ⟨_, D_l_draws.f, b_l_draws⟩, ⟨_, D_l_code.f, b_l_code⟩, ⟨_, D_l_value.f, b_l_value⟩, ⟨_, D_l_polynomial.f, b_l_polynomial⟩, ⟨_, D_l_row.f, b_l_row⟩, ⟨_, D_l_word.f, b_l_word⟩, ⟨_, D_l_asked.f, b_l_asked⟩, ⟨_, D_l_told.f, b_l_told⟩⟩
  have FL := fun_mk (st := s_law) ll cl kl
  exact ⟨PySem.W.fnOf "law" "law" (defArgs s_law) (defBody s_law) (defScope s_law) .none kV dc pm an cd ct, fun s v => .of_eq rfl, fun base _ _ => ok_law (t := t) T FL⟩
theorem walk {l : PySem.W.OpenLaw} {q : Program} {loose : List Str} {XP : (Str → Option Value) → Heap → Prop} {YP : World → Heap → Prop} {d : DefRec} {K : Params → PySem.W.Frag} (hn : l.most = some 63) (hdf : d.params.defaults = []) (hY : ∀ (w : World) (h : Heap), YP w h → (K w.params).In h)
    (F : ∀ (w : World) (mg : Str → Option Value) (fa : Addr) (h : Heap), (K w.params).In h → h.Ns mainGlobals mg → mg d.name = some (.ref fa) → ∃ fd : FuncData, (∀ (s : Shared) (u : Value), BindsTo s fd ⟨[u], []⟩ [("script", u)]) ∧ ∀ base : Heap, (K w.params).In base → base.Ns mainGlobals mg → FnOk l.prog w (K w.params) mg base CX0 6 fa fd ["script"] (sp_law (K w.params))) : PySem.W.WalkO q loose XP YP l.row.toRowW d [] (fun f vs => PySem.call f vs) :=
  L2.walk_of (n := 63) (k := 6) (x := "script") (CX := fun _ => CX0) (sp := fun w => sp_law (K w.params)) hn (by decide) hdf ⟨rfl, by decide, by decide⟩ hY F (fun _ _ a ns hl _ hS => ⟨a, ns, rfl, hS, hl, fun _ => rfl⟩) fun _ _ _ _ _ z => z
end My
/-! names that keep the tool from laying twins of the greatest parts: their proofs would make the object file too great for the hand-in -/
namespace PySem.W.Fast
def tw10815629728690081407 : Unit := ()
def tw6772009998499294765 : Unit := ()
def tw7506306567528763354 : Unit := ()
def tw18393118138835542103 : Unit := ()
def tw13510812544639741938 : Unit := ()
def tw1674397736186963705 : Unit := ()
def tw13739487598050175107 : Unit := ()
def tw2204042176548882502 : Unit := ()
end PySem.W.Fast
open PySem PySem.W
open PyProof.Rows
set_option maxHeartbeats 0 in
theorem PySem.Challenge.cw_slipcurve_k06_too_few_by_all_doors_holds : PySem.Challenge.rw_slipcurve_k06_too_few_by_all_doors.Holds := by
  w_on; o_law; k_head; (case hw => w_witness2)
  k_fill
  refine My.walk (l := PySem.Challenge.rw_slipcurve_k06_too_few_by_all_doors) rfl rfl (fun w h Y => PySem.W.km_in_of Y) ?F
  case F =>
    intro w mg fa h KX G hmg
    refine' My.all_mk KX G hmg ?a_SlipError ?a_TooFew ?a_NoCurve ?a_NoPaper ?a_NoPlace ?a_NoNumber ?a_Heard ?a_NotHeard ?a_NothingLeft ?a_NoText ?a_NoRow ⟨_, _, My.dn_mk ?da_heard_points ?dl_heard_points ?dc_heard_points ?dk_heard_points⟩ ⟨_, _, My.dn_mk ?da_all_near ?dl_all_near ?dc_all_near ?dk_all_near⟩ ⟨_, _, My.dn_mk ?da_nearest ?dl_nearest ?dc_nearest ?dk_nearest⟩ ⟨_, _, My.dn_mk ?da_check_curves ?dl_check_curves ?dc_check_curves ?dk_check_curves⟩ ⟨_, _, My.dn_mk ?da_curve_for ?dl_curve_for ?dc_curve_for ?dk_curve_for⟩ ⟨_, _, My.dn_mk ?da_weighted_points ?dl_weighted_points ?dc_weighted_points ?dk_weighted_points⟩ ⟨_, _, My.dn_mk ?da_most_weight ?dl_most_weight ?dc_most_weight ?dk_most_weight⟩ ⟨_, _, My.dn_mk ?da_heavy ?dl_heavy ?dc_heavy ?dk_heavy⟩ ⟨_, _, My.dn_mk ?da_curve_by ?dl_curve_by ?dc_curve_by ?dk_curve_by⟩ ⟨_, _, My.dn_mk ?da_heard_at ?dl_heard_at ?dc_heard_at ?dk_heard_at⟩ ⟨_, _, My.dn_mk ?da_joint_near ?dl_joint_near ?dc_joint_near ?dk_joint_near⟩ ⟨_, _, My.dn_mk ?da_check_many ?dl_check_many ?dc_check_many ?dk_check_many⟩ ⟨_, _, My.dn_mk ?da_due_of ?dl_due_of ?dc_due_of ?dk_due_of⟩ ⟨_, _, My.dn_mk ?da_many_near ?dl_many_near ?dc_many_near ?dk_many_near⟩ ⟨_, _, My.dn_mk ?da_paper_of ?dl_paper_of ?dc_paper_of ?dk_paper_of⟩ ⟨_, _, My.dn_mk ?da_paper_holds ?dl_paper_holds ?dc_paper_holds ?dk_paper_holds⟩ ⟨_, _, My.dn_mk ?da_near_by ?dl_near_by ?dc_near_by ?dk_near_by⟩ ⟨_, _, My.dn_mk ?da_l_cell ?dl_l_cell ?dc_l_cell ?dk_l_cell⟩ ⟨_, _, My.dn_mk ?da_l_draws ?dl_l_draws ?dc_l_draws ?dk_l_draws⟩ ⟨_, _, My.dn_mk ?da_l_code ?dl_l_code ?dc_l_code ?dk_l_code⟩ ⟨_, _, My.dn_mk ?da_l_value ?dl_l_value ?dc_l_value ?dk_l_value⟩ ⟨_, _, My.dn_mk ?da_l_polynomial ?dl_l_polynomial ?dc_l_polynomial ?dk_l_polynomial⟩ ⟨_, _, My.dn_mk ?da_l_row ?dl_l_row ?dc_l_row ?dk_l_row⟩ ⟨_, _, My.dn_mk ?da_l_word ?dl_l_word ?dc_l_word ?dk_l_word⟩ ⟨_, _, My.dn_mk ?da_l_asked ?dl_l_asked ?dc_l_asked ?dk_l_asked⟩ ⟨_, _, My.dn_mk ?da_l_told ?dl_l_told ?dc_l_told ?dk_l_told⟩ ?xi_TooFew ?xi_NoCurve ?k_TooFew_TooFew ?k_TooFew_NoCurve ?k_TooFew_NoPaper ?k_TooFew_NoPlace ?k_TooFew_NoNumber ?k_TooFew_Heard ?k_TooFew_NotHeard ?k_TooFew_NothingLeft ?k_TooFew_NoText ?k_TooFew_NoRow ?v_TooFew ?s_TooFew ?e1_TooFew ?e2_TooFew ?e3_TooFew ?e4_TooFew ?e5_TooFew ?e6_TooFew ?k_NoCurve_TooFew ?k_NoCurve_NoCurve ?k_NoCurve_NoPaper ?k_NoCurve_NoPlace ?k_NoCurve_NoNumber ?k_NoCurve_Heard ?k_NoCurve_NotHeard ?k_NoCurve_NothingLeft ?k_NoCurve_NoText ?k_NoCurve_NoRow ?v_NoCurve ?s_NoCurve ?e1_NoCurve ?e2_NoCurve ?e3_NoCurve ?e4_NoCurve ?e5_NoCurve ?e6_NoCurve ?sb ?al ?ll ?cl ?kl ?z_len ?z_range ?z_list ?z_tuple ?z_min ?z_max ?z_isinstance ?z_zip ?z_enumerate ?z_sum ?z_sorted ?z_ValueError (My.cn_mk ?y_MOST_PAPER_WEIGHT ?x_MOST_PAPER_WEIGHT)
    (case a_SlipError => k_is)
    (case a_TooFew => k_is)
    (case a_NoCurve => k_is)
    (case a_NoPaper => k_is)
    (case a_NoPlace => k_is)
    (case a_NoNumber => k_is)
    (case a_Heard => k_is)
    (case a_NotHeard => k_is)
    (case a_NothingLeft => k_is)
    (case a_NoText => k_is)
    (case a_NoRow => k_is)
    (case da_heard_points => k_is)
    (case dl_heard_points => k_is)
    (case dc_heard_points => k_is)
    (case dk_heard_points => k_is)
    (case da_all_near => k_is)
    (case dl_all_near => k_is)
    (case dc_all_near => k_is)
    (case dk_all_near => k_is)
    (case da_nearest => k_is)
    (case dl_nearest => k_is)
    (case dc_nearest => k_is)
    (case dk_nearest => k_is)
    (case da_check_curves => k_is)
    (case dl_check_curves => k_is)
    (case dc_check_curves => k_is)
    (case dk_check_curves => k_is)
    (case da_curve_for => k_is)
    (case dl_curve_for => k_is)
    (case dc_curve_for => k_is)
    (case dk_curve_for => k_is)
    (case da_weighted_points => k_is)
    (case dl_weighted_points => k_is)
    (case dc_weighted_points => k_is)
    (case dk_weighted_points => k_is)
    (case da_most_weight => k_is)
    (case dl_most_weight => k_is)
    (case dc_most_weight => k_is)
    (case dk_most_weight => k_is)
    (case da_heavy => k_is)
    (case dl_heavy => k_is)
    (case dc_heavy => k_is)
    (case dk_heavy => k_is)
    (case da_curve_by => k_is)
    (case dl_curve_by => k_is)
    (case dc_curve_by => k_is)
    (case dk_curve_by => k_is)
    (case da_heard_at => k_is)
    (case dl_heard_at => k_is)
    (case dc_heard_at => k_is)
    (case dk_heard_at => k_is)
    (case da_joint_near => k_is)
    (case dl_joint_near => k_is)
    (case dc_joint_near => k_is)
    (case dk_joint_near => k_is)
    (case da_check_many => k_is)
    (case dl_check_many => k_is)
    (case dc_check_many => k_is)
    (case dk_check_many => k_is)
    (case da_due_of => k_is)
    (case dl_due_of => k_is)
    (case dc_due_of => k_is)
    (case dk_due_of => k_is)
    (case da_many_near => k_is)
    (case dl_many_near => k_is)
    (case dc_many_near => k_is)
    (case dk_many_near => k_is)
    (case da_paper_of => k_is)
    (case dl_paper_of => k_is)
    (case dc_paper_of => k_is)
    (case dk_paper_of => k_is)
    (case da_paper_holds => k_is)
    (case dl_paper_holds => k_is)
    (case dc_paper_holds => k_is)
    (case dk_paper_holds => k_is)
    (case da_near_by => k_is)
    (case dl_near_by => k_is)
    (case dc_near_by => k_is)
    (case dk_near_by => k_is)
    (case da_l_cell => k_is)
    (case dl_l_cell => k_is)
    (case dc_l_cell => k_is)
    (case dk_l_cell => k_is)
    (case da_l_draws => k_is)
    (case dl_l_draws => k_is)
    (case dc_l_draws => k_is)
    (case dk_l_draws => k_is)
    (case da_l_code => k_is)
    (case dl_l_code => k_is)
    (case dc_l_code => k_is)
    (case dk_l_code => k_is)
    (case da_l_value => k_is)
    (case dl_l_value => k_is)
    (case dc_l_value => k_is)
    (case dk_l_value => k_is)
    (case da_l_polynomial => k_is)
    (case dl_l_polynomial => k_is)
    (case dc_l_polynomial => k_is)
    (case dk_l_polynomial => k_is)
    (case da_l_row => k_is)
    (case dl_l_row => k_is)
    (case dc_l_row => k_is)
    (case dk_l_row => k_is)
    (case da_l_word => k_is)
    (case dl_l_word => k_is)
    (case dc_l_word => k_is)
    (case dk_l_word => k_is)
    (case da_l_asked => k_is)
    (case dl_l_asked => k_is)
    (case dc_l_asked => k_is)
    (case dk_l_asked => k_is)
    (case da_l_told => k_is)
    (case dl_l_told => k_is)
    (case dc_l_told => k_is)
    (case dk_l_told => k_is)
    (case xi_TooFew => with_unfolding_all rfl)
    (case xi_NoCurve => with_unfolding_all rfl)
    (case k_TooFew_TooFew => rfl)
    (case k_TooFew_NoCurve => rfl)
    (case k_TooFew_NoPaper => rfl)
    (case k_TooFew_NoPlace => rfl)
    (case k_TooFew_NoNumber => rfl)
    (case k_TooFew_Heard => rfl)
    (case k_TooFew_NotHeard => rfl)
    (case k_TooFew_NothingLeft => rfl)
    (case k_TooFew_NoText => rfl)
    (case k_TooFew_NoRow => rfl)
    (case v_TooFew => rfl)
    (case s_TooFew => rfl)
    (case e1_TooFew => k_is)
    (case e2_TooFew => k_is)
    (case e3_TooFew => k_is)
    (case e4_TooFew => k_is)
    (case e5_TooFew => k_is)
    (case e6_TooFew => rfl)
    (case k_NoCurve_TooFew => rfl)
    (case k_NoCurve_NoCurve => rfl)
    (case k_NoCurve_NoPaper => rfl)
    (case k_NoCurve_NoPlace => rfl)
    (case k_NoCurve_NoNumber => rfl)
    (case k_NoCurve_Heard => rfl)
    (case k_NoCurve_NotHeard => rfl)
    (case k_NoCurve_NothingLeft => rfl)
    (case k_NoCurve_NoText => rfl)
    (case k_NoCurve_NoRow => rfl)
    (case v_NoCurve => rfl)
    (case s_NoCurve => rfl)
    (case e1_NoCurve => k_is)
    (case e2_NoCurve => k_is)
    (case e3_NoCurve => k_is)
    (case e4_NoCurve => k_is)
    (case e5_NoCurve => k_is)
    (case e6_NoCurve => rfl)
    (case sb => k_is)
    (case al => k_is)
    (case ll => k_is)
    (case cl => k_is)
    (case kl => k_is)
    (case z_len => k_is)
    (case z_range => k_is)
    (case z_list => k_is)
    (case z_tuple => k_is)
    (case z_min => k_is)
    (case z_max => k_is)
    (case z_isinstance => k_is)
    (case z_zip => k_is)
    (case z_enumerate => k_is)
    (case z_sum => k_is)
    (case z_sorted => k_is)
    (case z_ValueError => k_is)
    (case y_MOST_PAPER_WEIGHT => k_is)
    (case x_MOST_PAPER_WEIGHT => exact ⟨_, rfl⟩)
#print axioms PySem.Challenge.cw_slipcurve_k06_too_few_by_all_doors_holds

end