import PyProof.Rows.All
import Wide.All
import OpenK.AllK
import Wide.FinOn
import Lean
import PyProof.EqAt
import PyProof.EqKinds
import PyProof.Rows.MinMaxN
import PyProof.SliceStr2
import PyProof.StrWalks
import PyProof.Rows.SetFrom
import KE.KUnpackStar
import KE.KIntText
import PyProof.CallStr
import PyProof.Rows.ChunkEnd
import PyProof.Rows.Range3
import PyProof.Rows.SeqGen
import PyProof.ConsumeWalk
import PyProof.ListRange
import PyProof.NeKinds
import PyProof.TupleCall
import PySem.Challenge.RW_slipcurve_k31_code_texts_spoilt
set_option Elab.async false
set_option linter.all false
set_option maxRecDepth 100000
/-! THE HAND LAYER, for ints, bools, texts, own classes, LISTS and tuples (index, slices, in, append, pop ..), calls, loops. Paste it whole ahead of your own text; what your proof does not reach may be deleted. -/
namespace L2
open PySem PySem.Spec PyProof.Rows

/-- a key: an int or a str -/
abbrev Key := Sum Int Str
def keyIs : Key → Value → Bool
  | .inl k, v => Value.isInt k v
  | .inr x, v => Value.isStrOf x v
def keyH (w : World) : Key → Int
  | .inl k => hashInt k
  | .inr x => hashStr w x
theorem keyIs_shape : ∀ {k : Key} {v : Value}, keyIs k v = true → (∃ i t, k = Sum.inl i ∧ v = Value.int i t) ∨ (∃ x t, k = Sum.inr x ∧ v = Value.str x t)
  | .inl i, v, h => by
    obtain ⟨t, e⟩ := Value.isInt_shape (k := i) (v := v) h
    exact .inl ⟨i, t, rfl, e⟩
  | .inr x, v, h => by
    obtain ⟨t, e⟩ := Value.isStrOf_shape (x := x) (v := v) h
    exact .inr ⟨x, t, rfl, e⟩
theorem key_ll (a b : Int) : decide ((Sum.inl a : Key) = Sum.inl b) = (a == b) := by
  by_cases e : a = b
  · subst e; simp
  · have h : ¬ (Sum.inl a : Key) = Sum.inl b := fun q => e (Sum.inl.inj q)
    rw [decide_eq_false h]
    exact (beq_eq_false_iff_ne.mpr e).symm
theorem key_rr (a b : Str) : decide ((Sum.inr a : Key) = Sum.inr b) = decide (a = b) := by
  by_cases e : a = b
  · subst e; simp
  · have h : ¬ (Sum.inr a : Key) = Sum.inr b := fun q => e (Sum.inr.inj q)
    rw [decide_eq_false h, decide_eq_false e]
theorem key_lr (a : Int) (b : Str) : decide ((Sum.inl a : Key) = Sum.inr b) = false := decide_eq_false (fun q => nomatch q)
theorem key_rl (a : Str) (b : Int) : decide ((Sum.inr a : Key) = Sum.inl b) = false := decide_eq_false (fun q => nomatch q)

def mixKind (prog : Program) (w : World) : PySem.KeyKind prog w Key where
  is := keyIs
  hash := keyH w
  inj := fun v a b ha hb => by
    rcases keyIs_shape ha with ⟨i, t, rfl, rfl⟩ | ⟨x, t, rfl, rfl⟩
    · rcases keyIs_shape hb with ⟨j, u, rfl, e⟩ | ⟨y, u, rfl, e⟩
      · injection e with e1 _; rw [e1]
      · exact nomatch e
    · rcases keyIs_shape hb with ⟨j, u, rfl, e⟩ | ⟨y, u, rfl, e⟩
      · exact nomatch e
      · injection e with e1 _; rw [e1]
  byValue := fun k v h => by
    rcases keyIs_shape h with ⟨i, t, rfl, rfl⟩ | ⟨x, t, rfl, rfl⟩ <;> rfl
  pyHash := fun hv h => by
    rcases keyIs_shape hv with ⟨i, t, rfl, rfl⟩ | ⟨x, t, rfl, rfl⟩
    · exact wpAny_pyHash_int h
    · exact wpAny_pyHash_str h
  eqBool := fun hu hv h => by
    rcases keyIs_shape hu with ⟨i, t, rfl, rfl⟩ | ⟨x, t, rfl, rfl⟩
    · rcases keyIs_shape hv with ⟨j, u, rfl, rfl⟩ | ⟨y, u, rfl, rfl⟩
      · rw [key_ll] at h; exact wpAny_eqBool_int h
      · rw [key_lr] at h; exact SeqAt.EqAt.int_str i t y u _ _ _ _ h
    · rcases keyIs_shape hv with ⟨j, u, rfl, rfl⟩ | ⟨y, u, rfl, rfl⟩
      · rw [key_rl] at h; exact SeqAt.EqAt.str_int x t j u _ _ _ _ h
      · rw [key_rr] at h; exact wpAny_eqBool_str h
  «strs» := fun k x t v h => by
    rcases keyIs_shape h with ⟨i, u, rfl, e⟩ | ⟨y, u, rfl, e⟩
    · exact nomatch e
    · injection e with e1 _
      subst e1
      cases v <;> rfl

end L2

namespace L2
open PySem PySem.Spec PyProof.Rows

/-- a value, without the heap -/
inductive V where
  | non | bl (b : Bool) | int (i : Int) | str (x : Str) | byt (b : Array UInt8) | flt (b : UInt64) | ref (a : Addr) | ty (n : String)
  deriving DecidableEq

def RelV : V → Value → Prop
  | .non, u => u = Value.none
  | .bl b, u => u = Value.bool b
  | .int i, u => ∃ t, u = Value.int i t
  | .str x, u => ∃ t, u = Value.str x t
  | .byt b, u => ∃ t, u = Value.bytes b t
  | .flt b, u => ∃ t, u = Value.float b t
  | .ref a, u => u = Value.ref a
  | .ty n, u => u = Value.type n

abbrev Vals : List V → List Value → Prop := Paired RelV
theorem Vals.length {xs : List V} {us : List Value} (r : Vals xs us) : xs.length = us.length := Paired.length r
theorem Vals.get : ∀ {xs : List V} {us : List Value} {i : Nat} {x : V}, Vals xs us → xs[i]? = some x → ∃ u, us[i]? = some u ∧ RelV x u
  | _, _, _, _, .nil, e => by simp at e
  | _, _, 0, _, .cons r _, e => by simp at e; subst e; exact ⟨_, rfl, r⟩
  | _, _, i + 1, x, .cons _ t, e => by
    obtain ⟨u, h1, h2⟩ := Vals.get (i := i) (x := x) t (by simpa using e)
    exact ⟨u, by simpa using h1, h2⟩
theorem Vals.append : ∀ {xs ys : List V} {us ws : List Value}, Vals xs us → Vals ys ws → Vals (xs ++ ys) (us ++ ws)
  | _, _, _, _, .nil, s => s
  | _, _, _, _, .cons r t, s => .cons r (Vals.append t s)
theorem Vals.take : ∀ {xs : List V} {us : List Value} (n : Nat), Vals xs us → Vals (xs.take n) (us.take n)
  | _, _, 0, _ => .nil
  | _, _, _ + 1, .nil => .nil
  | _, _, n + 1, .cons r t => .cons r (Vals.take n t)
theorem Vals.drop : ∀ {xs : List V} {us : List Value} (n : Nat), Vals xs us → Vals (xs.drop n) (us.drop n)
  | _, _, 0, r => r
  | _, _, _ + 1, .nil => .nil
  | _, _, n + 1, .cons _ t => Vals.drop n t
def RelO : Option V → Option Value → Prop
  | some v, some u => RelV v u
  | none, none => True
  | _, _ => False
def KV {κ : Type} : List (κ × V) → List (κ × Value) → Prop := Paired fun (p : κ × V) (q : κ × Value) => p.1 = q.1 ∧ RelV p.2 q.2

/-- a key of a dict (00_mix): an int or a text -/
def kV : Key → V
  | .inl i => .int i
  | .inr x => .str x

/-- what stands at a tracked address -/
inductive HO where
  /-- a list -/
  | lst (xs : List V)
  /-- a tuple (never changes) -/
  | tup (xs : List V)
  /-- a dict whose keys are ints and texts; one whose keys are tuples of ints and texts (the empty one is both) -/
  | dK (kvs : List (Key × V)) | dT (kvs : List (List Key × V))
  /-- a set of ints: its members, its size -/
  | set (S : Int → Bool) (n : Nat)
  /-- an instance of the class at C, its dict at dx, its attributes -/
  | ins (C dx : Addr) (fs : List (Str × V))
  /-- the dict of the instance at x -/
  | own (x : Addr)
  /-- the dict of an exception -/
  | xd (fs : List (Str × V))
  /-- a bound method, f of x -/
  | met (f x : Addr)
  /-- a range object lo, lo + 1, .. below hi -/
  | rng (lo hi : Int)
  /-- a thing that is known to the object (the script; a dict while a loop walks it): read, never written while it is so -/
  | frz (o : Obj) (u : HO)
  /-- a code object's table -/
  | tbl (ps : Array Value)
  /-- any other thing, by what is true of its one object (a def of one's own: SetO a S n := HO.ext fun h => ..) -/
  | ext (φ : Heap → Prop)

abbrev Hp := Addr → Option HO
def upd (H : Hp) (a : Addr) (o : HO) : Hp := fun b => if b = a then some o else H b
theorem upd_same {H : Hp} {a : Addr} {o : HO} : upd H a o a = some o := by unfold upd; rw [if_pos rfl]
theorem upd_ne {H : Hp} {a b : Addr} {o : HO} (h : b ≠ a) : upd H a o b = H b := by unfold upd; rw [if_neg h]
theorem ne_of_none {H : Hp} {a b : Addr} {o : HO} (h : H a = some o) (h' : H b = none) : a ≠ b := by
  intro e; subst e; rw [h] at h'; cases h'

section
variable (P : Program) (w : World)
def ObjOk (H : Hp) (h : Heap) (a : Addr) : HO → Prop
  | .lst xs => xs.length ≤ sizeLine ∧ ∃ (its : List Value) (n : Nat), Vals xs its ∧ h.get? a = some { cls := .type "list", data := .seq its.toArray n }
  | .tup xs => xs.length ≤ sizeLine ∧ ∃ its : List Value, Vals xs its ∧ IsTup h a its.toArray
  | .dK kvs => kvs.length ≤ sizeLine ∧ (a == sysModules) = false ∧ ∃ vs, KV kvs vs ∧ h.DictOf (mixKind P w) a vs
  | .dT kvs => kvs.length ≤ sizeLine ∧ (a == sysModules) = false ∧ ∃ xs : List (List Key × Addr × Value),
      Paired (fun (p : List Key × V) (q : List Key × Addr × Value) => p.1 = q.1 ∧ H q.2.1 = some (.tup (p.1.map kV)) ∧ RelV p.2 q.2.2) kvs xs ∧
      ∃ o es ep, h.get? a = some o ∧ o.ExactDict ∧ o.data = .dict es ep ∧ es.toList = xs.map (entryOfKey (tupleKind (mixKind P w))) ∧ (xs.map (·.1)).Nodup
  | .set S n => h.SetOf (intKind P w) a S n
  | .ins C dx fs => H dx = some (.own a) ∧ fs.length ≤ 1000 ∧ dx ≠ a ∧ h.get? a = some (PySem.W.instObj C dx) ∧
      ∃ mA, h.Ns1 dx mA ∧ (∀ f, RelO (fs.lookup f) (mA f)) ∧ PySem.Within mA (fs.map (·.1))
  | .own _ => ∃ o, h.get? a = some o
  | .xd fs => ∃ mA, h.Ns1 a mA ∧ ∀ f, RelO (fs.lookup f) (mA f)
  | .rng lo hi => ∃ t u v, h.get? a = some { cls := .type "range", data := .fields #[.int lo t, .int hi u, .int 1 v] }
  | .frz o u => h.get? a = some o ∧ ObjOk H h a u
  | .tbl ps => h.get? a = some { cls := .none, data := .fields ps }
  | .met f x => h.get? a = some (PySem.W.methodObj (.ref f) (.ref x))
  | .ext φ => φ h ∧ (∃ o, h.get? a = some o) ∧ ∀ h1 h2 : Heap, φ h1 → (∀ o, h1.get? a = some o → h2.get? a = some o) → φ h2
/-- the abstract heap is held -/
def HOk (H : Hp) (h : Heap) : Prop := ∀ a o, H a = some o → ObjOk P w H h a o
end

section
variable {P : Program} {w : World} {H H' : Hp} {h h' : Heap} {a : Addr} {o : HO}
theorem ObjOk.lt (x : ObjOk P w H h a o) : a < h.objs.size := by
  cases o with
  | lst xs => obtain ⟨_, _, _, _, e⟩ := x; exact Heap.lt_size e
  | tup xs => obtain ⟨_, _, _, p⟩ := x; exact p.lt
  | dK kvs => obtain ⟨_, _, _, _, o, _, _, e, _⟩ := x; exact Heap.lt_size e
  | dT kvs => obtain ⟨_, _, _, _, o, _, _, e, _⟩ := x; exact Heap.lt_size e
  | set S n => obtain ⟨o, _, _, _, e, _⟩ := x; exact Heap.lt_size e
  | ins C dx fs => obtain ⟨_, _, _, e, _⟩ := x; exact Heap.lt_size e
  | own y => obtain ⟨_, e⟩ := x; exact Heap.lt_size e
  | xd fs => obtain ⟨_, ⟨_, _, _, e, _⟩, _⟩ := x; exact Heap.lt_size e
  | rng lo hi => obtain ⟨_, _, _, e⟩ := x; exact Heap.lt_size e
  | frz ob u => obtain ⟨e, _⟩ := x; exact Heap.lt_size e
  | tbl ps => exact Heap.lt_size (show h.get? a = some _ from x)
  | met f y => exact Heap.lt_size (show h.get? a = some _ from x)
  | ext φ => obtain ⟨_, ⟨_, e⟩, _⟩ := x; exact Heap.lt_size e
theorem Paired.mapP {α β : Type} {F G : α → β → Prop} : ∀ {l₁ : List α} {l₂ : List β}, Paired F l₁ l₂ → (∀ a b, F a b → G a b) → Paired G l₁ l₂
  | _, _, .nil, _ => .nil
  | _, _, .cons r t, f => .cons (f _ _ r) (Paired.mapP t f)
/-- what an object's description leans on: its own object, its own dict, the tuples -/
theorem ObjOk.stay (x : ObjOk P w H h a o) (k : ∀ b u, (b = a ∨ H b = some (.own a)) → h.get? b = some u → h'.get? b = some u)
    (ho : ∀ b, H b = some (.own a) → H' b = some (.own a)) (ht : ∀ b xs, H b = some (.tup xs) → H' b = some (.tup xs)) : ObjOk P w H' h' a o := by
  induction o with
  | lst xs => obtain ⟨z, its, n, r, e⟩ := x; exact ⟨z, its, n, r, k _ _ (.inl rfl) e⟩
  | tup xs => obtain ⟨z, its, r, ob, e, c⟩ := x; exact ⟨z, its, r, ob, k _ _ (.inl rfl) e, c⟩
  | dK kvs => obtain ⟨z, y, vs, r, ob, es, ep, e, c⟩ := x; exact ⟨z, y, vs, r, ob, es, ep, k _ _ (.inl rfl) e, c⟩
  | dT kvs =>
    obtain ⟨z, y, xs, r, ob, es, ep, e, c⟩ := x
    exact ⟨z, y, xs, Paired.mapP r fun p q z => ⟨z.1, ht _ _ z.2.1, z.2.2⟩, ob, es, ep, k _ _ (.inl rfl) e, c⟩
  | set S n => obtain ⟨ob, es, ep, t, e, c⟩ := x; exact ⟨ob, es, ep, t, k _ _ (.inl rfl) e, c⟩
  | ins C dx fs =>
    obtain ⟨d, z, ne, e, mA, ⟨od, es, ep, e2, c⟩, r⟩ := x
    exact ⟨ho _ d, z, ne, k _ _ (.inl rfl) e, mA, ⟨od, es, ep, k _ _ (.inr d) e2, c⟩, r⟩
  | own y => obtain ⟨ob, e⟩ := x; exact ⟨ob, k _ _ (.inl rfl) e⟩
  | xd fs => obtain ⟨mA, ⟨od, es, ep, e, c⟩, r⟩ := x; exact ⟨mA, ⟨od, es, ep, k _ _ (.inl rfl) e, c⟩, r⟩
  | rng lo hi => obtain ⟨t, u, v, e⟩ := x; exact ⟨t, u, v, k _ _ (.inl rfl) e⟩
  | frz ob u ih => obtain ⟨e, q⟩ := x; exact ⟨k _ _ (.inl rfl) e, ih q⟩
  | tbl ps =>
    have e : h.get? a = some { cls := .none, data := .fields ps } := x
    show h'.get? a = some { cls := .none, data := .fields ps }
    exact k a _ (.inl rfl) e
  | met f y =>
    have e : h.get? a = some (PySem.W.methodObj (.ref f) (.ref y)) := x
    show h'.get? a = some (PySem.W.methodObj (.ref f) (.ref y))
    exact k a _ (.inl rfl) e
  | ext φ => obtain ⟨p, ⟨o, e⟩, st⟩ := x; exact ⟨st _ _ p fun o q => k _ _ (.inl rfl) q, ⟨o, k _ _ (.inl rfl) e⟩, st⟩
theorem HOk.lt (x : HOk P w H h) (e : H a = some o) : a < h.objs.size := (x a o e).lt
theorem HOk.fresh (x : HOk P w H h) (e : h.objs.size ≤ a) : H a = none := by
  cases q : H a with
  | none => rfl
  | some u => exact absurd (Nat.lt_of_lt_of_le (x.lt q) e) (Nat.lt_irrefl _)
/-- every object of the heap is kept -/
theorem HOk.kept (x : HOk P w H h) (k : ∀ b u, h.get? b = some u → h'.get? b = some u) : HOk P w H h' := fun a o e =>
  (x a o e).stay (fun b u _ q => k b u q) (fun _ q => q) fun _ _ q => q
/-- a new object is laid and tracked -/
theorem HOk.laid (x : HOk P w H h) (k : ∀ b u, h.get? b = some u → h'.get? b = some u) (hp : h.objs.size ≤ a) (new : ObjOk P w (upd H a o) h' a o) : HOk P w (upd H a o) h' := fun b u e => by
  have hn := x.fresh hp
  by_cases hb : b = a
  · subst hb; rw [upd_same] at e; cases e; exact new
  · rw [upd_ne hb] at e
    exact (x b u e).stay (fun c v _ q => k c v q) (fun c q => by rw [upd_ne (ne_of_none q hn)]; exact q) fun c xs q => by rw [upd_ne (ne_of_none q hn)]; exact q
end

/-- what may be read as u: it is u, or a known u -/
def Rd (H : Hp) (a : Addr) (u : HO) : Prop := H a = some u ∨ ∃ o, H a = some (.frz o u)
theorem Rd.ok {P : Program} {w : World} {H : Hp} {h : Heap} {a : Addr} {u : HO} (r : Rd H a u) (x : HOk P w H h) : ObjOk P w H h a u := by
  rcases r with r | ⟨o, r⟩
  · exact x a u r
  · obtain ⟨_, q⟩ := x a _ r
    exact q
/-- what may be written -/
def Mut : Option HO → Prop
  | some (.lst _) => True
  | some (.dK _) => True
  | some (.dT _) => True
  | some (.set _ _) => True
  | some (.ins _ _ _) => True
  | some (.ext _) => True
  | _ => False
section
variable {P : Program} {w : World} {H : Hp} {h h' : Heap} {x e : Addr} {o' : HO}
/-- the object at e is changed: x itself, or the dict of the instance x -/
theorem HOk.write (ok : HOk P w H h) (mu : Mut (H x)) (he : e = x ∨ H e = some (.own x)) (k : ∀ b u, b ≠ e → h.get? b = some u → h'.get? b = some u) (heo : ∃ u, h'.get? e = some u)
    (new : ObjOk P w (upd H x o') h' x o') : HOk P w (upd H x o') h' := fun b u q => by
  have nown : ∀ c y, H c = some (.own y) → c ≠ x := fun c y r z => by subst z; rw [r] at mu; exact mu
  have ntup : ∀ c xs, H c = some (.tup xs) → c ≠ x := fun c xs r z => by subst z; rw [r] at mu; exact mu
  by_cases hb : b = x
  · subst hb; rw [upd_same] at q; cases q; exact new
  · rw [upd_ne hb] at q
    by_cases hbe : b = e
    · have q' : H b = some (.own x) := by
        rcases he with z | z
        · exact absurd (hbe.trans z) hb
        · rw [hbe]; exact z
      rw [q] at q'; cases q'
      obtain ⟨v, hv⟩ := heo
      exact ⟨v, by rw [hbe]; exact hv⟩
    · refine (ok b u q).stay (fun c v hc r => k c v ?_ r) (fun c r => by rw [upd_ne (nown c b r)]; exact r) fun c xs r => by rw [upd_ne (ntup c xs r)]; exact r
      rcases hc with rfl | hc
      · exact hbe
      · rintro rfl
        rcases he with z | z
        · exact nown c b hc z
        · rw [hc] at z; cases z; exact hb rfl
end

/-! ### kept unless tracked; of the frames at fs (the callers') the slots may change (an exception that passes writes there); of the records at ex (iterators) nothing is said -/
structure Un (fs ex : List Addr) (H H' : Hp) (h h' : Heap) : Prop where
  keep : ∀ b o, h.get? b = some o → H b = none → b ∉ fs → b ∉ ex → h'.get? b = some o
  slot : ∀ b o, h.get? b = some o → H b = none → b ∈ fs → b ∉ ex → ∃ sl, h'.get? b = some { o with slots := sl }
  free : ∀ b o, h.get? b = some o → H b = none → b ∉ ex → H' b = none
  there : ∀ b o, h.get? b = some o → b ∉ ex → ∃ o', h'.get? b = some o'
  tups : ∀ b xs, H b = some (.tup xs) → H' b = some (.tup xs)
  frzs : ∀ b o u, H b = some (.frz o u) → H' b = some (.frz o u)
  tbls : ∀ b ps, H b = some (.tbl ps) → ∃ more, H' b = some (.tbl (ps ++ more))
section
variable {fs fs' ex ex' : List Addr} {H H1 H2 : Hp} {h h1 h2 h' : Heap} {a x e : Addr} {o : HO}
theorem Un.any (u : Un fs ex H H1 h h1) {b : Addr} {ob : Obj} (q : h.get? b = some ob) (n : H b = none) (hx : b ∉ ex) : ∃ sl, h1.get? b = some { ob with slots := sl } := by
  by_cases hb : b ∈ fs
  · exact u.slot b ob q n hb hx
  · exact ⟨ob.slots, u.keep b ob q n hb hx⟩
theorem Un.kept (k : ∀ b u, h.get? b = some u → h'.get? b = some u) : Un fs ex H H h h' :=
  ⟨fun b ob q _ _ _ => k b ob q, fun b ob q _ _ _ => ⟨ob.slots, k b ob q⟩, fun _ _ _ n _ => n, fun b ob q _ => ⟨ob, k b ob q⟩, fun _ _ q => q, fun _ _ _ q => q, fun _ ps q => ⟨#[], by rw [q]; simp⟩⟩
theorem Un.refl : Un fs ex H H h h := Un.kept fun _ _ q => q
theorem Un.laid (k : ∀ b u, h.get? b = some u → h'.get? b = some u) (hp : h.objs.size ≤ a) (hn : H a = none) : Un fs ex H (upd H a o) h h' where
  keep := fun b u q _ _ _ => k b u q
  slot := fun b u q _ _ _ => ⟨u.slots, k b u q⟩
  free := fun b u q n _ => by rw [upd_ne (Nat.ne_of_lt (Nat.lt_of_lt_of_le (Heap.lt_size q) hp))]; exact n
  there := fun b u q _ => ⟨u, k b u q⟩
  tups := fun b xs q => by rw [upd_ne (ne_of_none q hn)]; exact q
  frzs := fun b u xs q => by rw [upd_ne (ne_of_none q hn)]; exact q
  tbls := fun b ps q => ⟨#[], by rw [upd_ne (ne_of_none q hn), q]; simp⟩
theorem Un.write (mu : Mut (H x)) (he : e = x ∨ H e = some (.own x)) (k : ∀ b u, b ≠ e → h.get? b = some u → h'.get? b = some u) (heo : ∃ u, h'.get? e = some u) : Un fs ex H (upd H x o) h h' := by
  have hx : ∀ b, H b = none → b ≠ x := fun b n z => by subst z; rw [n] at mu; exact mu
  have hb : ∀ b, H b = none → b ≠ e := fun b n z => by
    subst z
    rcases he with r | r
    · exact hx b n r
    · rw [n] at r; cases r
  have hm : ∀ b u, H b = some u → ¬ Mut (some u) → b ≠ x := fun b u q nm z => by subst z; rw [q] at mu; exact nm mu
  refine ⟨fun b u q n _ _ => k b u (hb b n) q, fun b u q n _ _ => ⟨u.slots, k b u (hb b n) q⟩, fun b u q n _ => by rw [upd_ne (hx b n)]; exact n, fun b u q _ => ?_,
    fun b xs q => by rw [upd_ne (hm b _ q fun z => z)]; exact q, fun b u xs q => by rw [upd_ne (hm b _ q fun z => z)]; exact q, fun b ps q => ⟨#[], by rw [upd_ne (hm b _ q fun z => z), q]; simp⟩⟩
  by_cases hbe : b = e
  · subst hbe; exact heo
  · exact ⟨u, k b u hbe q⟩
end

/-! ### the heap without what is tracked -/
def trk (h : Heap) (H : Hp) : List Addr := (List.range h.objs.size).filter fun a => (H a).isSome
def hidT (h : Heap) (H : Hp) : Heap := PySem.W.hideAll h (trk h H)
theorem hidT_size (h : Heap) (H : Hp) : (hidT h H).objs.size = h.objs.size := PySem.W.hideAll_size _ _
theorem hidT_get {h : Heap} {H : Hp} {b : Addr} {o : Obj} (e : h.get? b = some o) (n : H b = none) : (hidT h H).get? b = some o :=
  PySem.W.hideAll_get _ e fun hm => by
    have q : (H b).isSome = true := (List.mem_filter.mp hm).2
    rw [n] at q; simp at q
theorem of_hidT {h : Heap} {H : Hp} {b : Addr} {o : Obj} (e : (hidT h H).get? b = some o) : h.get? b = some o ∧ H b = none := by
  have e' : h.get? b = some o := PySem.W.of_hideAll (trk h H) e
  refine ⟨e', ?_⟩
  cases q : H b with
  | none => rfl
  | some x =>
    have hm : b ∈ trk h H := List.mem_filter.mpr ⟨List.mem_range.mpr (Heap.lt_size e'), by simp [q]⟩
    have z : (hidT h H).get? b = none := PySem.W.hideAll_none (trk h H) hm
    rw [z] at e; cases e

/-! ### OpenK's ledger, filled with every new object but one -/
def allNews (g h : Heap) (L : Addr) : List (Addr × Obj) := (List.range h.objs.size).filterMap fun a => if a = L ∨ (g.get? a).isSome = true then none else (h.get? a).map fun o => (a, o)
def rest (g h : Heap) (L d : Addr) : List (Addr × Obj) := (allNews g h L).filter fun p => decide (p.1 ≠ d)
end L2

namespace L2
open PySem PySem.Spec PyProof.Rows

/-- the module's facts, over the base: the heap at the law's entry without what is tracked there -/
structure Mod (K : PySem.W.Frag) (mg : Str → Option Value) (base : Heap) : Prop where
  kin : K.In base
  glob : base.Ns mainGlobals mg
  blt : ∃ mb, base.Ns builtinsNs mb ∧ ∀ x : Str, x ≠ "__name__" → mb x = bootBuiltins x
  nolimit : base.NoLimit

/-- the context: a def's body (or a comprehension's block) running. base: fixed through the whole law; s₀, H₀: the entry; outer: the frames whose slots others may change (a def's callers); stack: all frames that run;
   ex: iterators that were made ahead of the entry and are walked here (a comprehension's); fn: the names whose cells were made at the entry (a def: all; a comprehension's block: its own); calm: not within an except suite; pn: pins that every state bears; xe: what is wanted of an exception that leaves the code -/
structure Cx where
  prog : Program
  w : World
  K : PySem.W.Frag
  mg : Str → Option Value
  base : Heap
  A : Around
  N : List Str
  s₀ : Shared
  H₀ : Hp
  env : Env
  outer : List Env
  stack : List Env
  ex : List Addr
  fn : Str → Bool
  calm : Bool
  pn : List (Addr × Obj)
  xe : Value → Shared → Prop
/-- the callers' frames -/
def frs (l : List Env) : List Addr := l.filterMap (·.frame)
abbrev Cx.fs (X : Cx) : List Addr := frs X.outer

def Vis (sc : Scope) (x : Str) : Prop := sc.names.lookup x = some .local ∨ sc.names.lookup x = some .cell ∨ sc.names.lookup x = some .free
def Loc (sc : Scope) (x : Str) : Prop := sc.names.lookup x = some .local ∨ sc.names.lookup x = some .cell
def Look (env : Env) (h : Heap) (m : Str → Option Value) (x : Str) (u : Value) : Prop :=
  (env.kindOf x = some .local ∧ m x = some u) ∨ ((env.kindOf x = some .cell ∨ env.kindOf x = some .free) ∧ ∃ c, env.cells.lookup x = some c ∧ h.IsCell c (some u))

structure Cx.Ok (X : Cx) : Prop where
  mod : Mod X.K X.mg X.base
  kind : X.env.scope.kind = .function
  glob : X.env.globals = mainGlobals
  blt : X.env.builtins = builtinsNs
  above : X.s₀.heap.objs.size ≤ X.env.locals
  inj : ∀ x y c, X.env.cells.lookup x = some c → X.env.cells.lookup y = some c → x = y
  has : ∀ x, (X.env.kindOf x = some .cell ∨ X.env.kindOf x = some .free) → ∃ c, X.env.cells.lookup x = some c
  cab : ∀ x c, X.fn x = true → X.env.cells.lookup x = some c → X.s₀.heap.objs.size ≤ c
  hd : X.calm = true → X.A.handled = none
  frames : X.A.frames = some X.stack
  stk : X.stack = X.outer ∨ (X.stack = X.env :: X.outer ∧ X.env.frame = some X.env.locals)
  exf : ∀ b ∈ X.ex, b ≠ X.env.locals ∧ ∀ x c, X.env.cells.lookup x = some c → c ≠ b
  bs : ∀ b o, X.base.get? b = some o → X.s₀.heap.get? b = some o ∧ X.H₀ b = none
  bsz : X.base.objs.size ≤ X.s₀.heap.objs.size
  noex : ∀ b o, X.base.get? b = some o → b ∉ X.ex
  exfs : ∀ b ∈ X.ex, b ∉ X.fs
  funs : X.s₀.heap.FunFrames X.base X.outer
  frf : ∀ b ∈ X.fs, X.H₀ b = none

structure Inv (X : Cx) (pins : List (Addr × Obj)) (σ : List (Option V)) (H : Hp) (s : Shared) : Prop where
  ok : X.Ok
  os : s.os = X.s₀.os
  bare : AllBare s.gens
  base : Un X.fs X.ex X.H₀ H X.s₀.heap s.heap
  loc : ∃ m, s.heap.Ns X.env.locals m ∧ ∀ (i : Nat) (x : Str) (v : V), X.N[i]? = some x → σ[i]? = some (some v) → Vis X.env.scope x → ∃ u, RelV v u ∧ Look X.env s.heap m x u
  cell : ∀ x c, X.env.cells.lookup x = some c → ∃ v, s.heap.IsCell c v
  free : H X.env.locals = none
  freeC : ∀ x c, X.env.cells.lookup x = some c → H c = none
  pin : ∀ p ∈ X.pn ++ pins, s.heap.get? p.1 = some p.2 ∧ H p.1 = none ∧ p.1 ≠ X.env.locals ∧ p.1 ∉ X.fs ∧ ∀ v, p.2.data ≠ .cell v
  hok : HOk X.prog X.w H s.heap
  len : σ.length = X.N.length

section
variable {X : Cx} {pins : List (Addr × Obj)} {σ : List (Option V)} {H H' : Hp} {s : Shared} {h' : Heap}

theorem Cx.Ok.nofr (ok : X.Ok) {b : Addr} {o : Obj} (e : X.base.get? b = some o) : b ∉ X.fs := fun hb => by
  have := (ok.funs.mem hb).1
  rw [e] at this; cases this
theorem Inv.bs (I : Inv X pins σ H s) : ∀ b o, X.base.get? b = some o → s.heap.get? b = some o ∧ H b = none := fun b o e =>
  ⟨I.base.keep b o (I.ok.bs b o e).1 (I.ok.bs b o e).2 (I.ok.nofr e) (I.ok.noex b o e), I.base.free b o (I.ok.bs b o e).1 (I.ok.bs b o e).2 (I.ok.noex b o e)⟩
theorem Inv.bk (I : Inv X pins σ H s) : ∀ b o, X.base.get? b = some o → s.heap.get? b = some o := fun b o e => (I.bs b o e).1
theorem Inv.mod (I : Inv X pins σ H s) : Mod X.K X.mg X.base := I.ok.mod
theorem Inv.kIn (I : Inv X pins σ H s) : X.K.In s.heap := I.ok.mod.kin.keeps I.bk
theorem Inv.lt (I : Inv X pins σ H s) : X.env.locals < s.heap.objs.size := let ⟨_, hn, _⟩ := I.loc; hn.lt
theorem Inv.sz (I : Inv X pins σ H s) : X.s₀.heap.objs.size ≤ s.heap.objs.size := Nat.le_trans I.ok.above (Nat.le_of_lt I.lt)
theorem Inv.nofs (I : Inv X pins σ H s) {a : Addr} (h : s.heap.objs.size ≤ a) : a ∉ X.fs := fun hb => by
  obtain ⟨_, o, ho, _⟩ := I.ok.funs.mem hb
  exact absurd (Nat.lt_of_lt_of_le (Heap.lt_size ho) (Nat.le_trans I.sz h)) (Nat.lt_irrefl _)
theorem Inv.cne (I : Inv X pins σ H s) : ∀ x c, X.env.cells.lookup x = some c → c ≠ X.env.locals := fun x c e z => by
  obtain ⟨v, o, ho, hd⟩ := I.cell x c e
  obtain ⟨m, ⟨o', es, ep, ho', hd', _⟩, _⟩ := I.loc
  rw [z, ho'] at ho; cases ho; rw [hd'] at hd; cases hd
theorem Inv.funs (I : Inv X pins σ H s) : s.heap.FunFrames X.base X.outer := by
  have all : ∀ (l : List Env), (∀ b ∈ frs l, b ∈ X.fs) → X.s₀.heap.FunFrames X.base l → s.heap.FunFrames X.base l := by
    intro l
    induction l with
    | nil => intro _ _; trivial
    | cons env r ih =>
      intro hs hl
      obtain ⟨hk, ⟨L, o, hf, hn, ho, hd⟩, hr⟩ := hl
      have hL : L ∈ X.fs := hs L (by unfold frs; rw [List.filterMap_cons, hf]; exact List.mem_cons_self)
      obtain ⟨sl, e⟩ := I.base.slot L o ho (I.ok.frf L hL) hL fun z => I.ok.exfs L z hL
      exact ⟨hk, ⟨L, _, hf, hn, e, hd⟩, ih (fun b hb => hs b (by unfold frs; rw [List.filterMap_cons, hf]; exact List.mem_cons_of_mem _ hb)) hr⟩
  exact all X.outer (fun _ hb => hb) I.ok.funs

/-- the frames that run, for a call -/
theorem Inv.stack (I : Inv X pins σ H s) : s.heap.FunFrames X.base X.stack := by
  rcases I.ok.stk with e | ⟨e, hf⟩
  · rw [e]; exact I.funs
  · rw [e]
    obtain ⟨m, hn, _⟩ := I.loc
    refine .cons (by rw [I.ok.kind]; decide) hf hn ?_ I.funs
    exact Heap.get?_none_of_le (Nat.le_trans I.ok.bsz I.ok.above)
theorem Inv.stkSub (I : Inv X pins σ H s) : ∀ b ∈ frs X.stack, b ∈ X.env.locals :: X.fs := fun b hb => by
  rcases I.ok.stk with e | ⟨e, hf⟩
  · rw [e] at hb; exact List.mem_cons_of_mem _ hb
  · rw [e] at hb
    unfold frs at hb
    rw [List.filterMap_cons, hf] at hb
    exact hb
theorem Inv.stkFree (I : Inv X pins σ H s) : ∀ b ∈ frs X.stack, H b = none := fun b hb => by
  rcases List.mem_cons.mp (I.stkSub b hb) with e | hb
  · rw [e]; exact I.free
  · obtain ⟨_, o, ho, _⟩ := I.ok.funs.mem hb
    exact I.base.free b o ho (I.ok.frf b hb) fun z => I.ok.exfs b z hb

/-- THE STEP: the untracked objects but the frame and the records at ch are kept (the callers' frames up to slots), the frame's map is kept, the new abstract heap is held -/
theorem Inv.step {g' : Array GenState} {t' : Nat} {d' : Drawn} {ch : List Addr} (I : Inv X pins σ H s)
    (hch : ∀ b ∈ ch, (b ∈ X.ex ∨ X.s₀.heap.objs.size ≤ b) ∧ b ≠ X.env.locals ∧ (∀ x c, X.env.cells.lookup x = some c → c ≠ b) ∧ ∀ p ∈ X.pn ++ pins, p.1 ≠ b)
    (keep : ∀ b o, b ≠ X.env.locals → b ∉ X.fs → b ∉ ch → s.heap.get? b = some o → H b = none → h'.get? b = some o)
    (slot : ∀ b o, b ≠ X.env.locals → b ∈ X.fs → b ∉ ch → s.heap.get? b = some o → H b = none → ∃ sl, h'.get? b = some { o with slots := sl }) (free : ∀ b o, b ∉ ch → s.heap.get? b = some o → H b = none → H' b = none)
    (there : ∀ b o, b ∉ ch → s.heap.get? b = some o → ∃ o', h'.get? b = some o')
    (tups : ∀ b xs, H b = some (.tup xs) → H' b = some (.tup xs)) (frzs : ∀ b o u, H b = some (.frz o u) → H' b = some (.frz o u)) (tbls : ∀ b ps, H b = some (.tbl ps) → ∃ more, H' b = some (.tbl (ps ++ more)))
    (ns : ∀ m, s.heap.Ns X.env.locals m → h'.Ns X.env.locals m) (hok : HOk X.prog X.w H' h') (hg : AllBare g') :
    Inv X pins σ H' { s with heap := h', gens := g', drawn := d', toks := t' } := by
  have neL : ∀ b o, X.s₀.heap.get? b = some o → b ≠ X.env.locals := fun b o e => Nat.ne_of_lt (Nat.lt_of_lt_of_le (Heap.lt_size e) I.ok.above)
  have neC : ∀ b o, X.s₀.heap.get? b = some o → b ∉ X.ex → b ∉ ch := fun b o e hx hb => by
    rcases (hch b hb).1 with z | z
    · exact hx z
    · exact absurd (Nat.lt_of_lt_of_le (Heap.lt_size e) z) (Nat.lt_irrefl _)
  have cellK : ∀ x c, X.env.cells.lookup x = some c → ∀ v, s.heap.IsCell c v → h'.IsCell c v := fun x c e v ⟨o, ho, hd⟩ => by
    have nch : c ∉ ch := fun z => (hch c z).2.2.1 x c e rfl
    by_cases hc : c ∈ X.fs
    · obtain ⟨sl, q⟩ := slot c o (I.cne x c e) hc nch ho (I.freeC x c e)
      exact ⟨_, q, hd⟩
    · exact ⟨o, keep c o (I.cne x c e) hc nch ho (I.freeC x c e), hd⟩
  refine ⟨I.ok, I.os, hg, ⟨fun b o e n hb hx => ?_, fun b o e n hb hx => ?_, fun b o e n hx => ?_, fun b o e hx => ?_, fun b xs e => tups b xs (I.base.tups b xs e), fun b o xs e => frzs b o xs (I.base.frzs b o xs e), fun b ps e => ?_⟩, ?_, fun x c e => ?_, ?_, fun x c e => ?_, fun p hp => ?_, hok, I.len⟩
  · exact keep b o (neL b o e) hb (neC b o e hx) (I.base.keep b o e n hb hx) (I.base.free b o e n hx)
  · obtain ⟨sl, e1⟩ := I.base.slot b o e n hb hx
    obtain ⟨sl', e2⟩ := slot b _ (neL b o e) hb (neC b o e hx) e1 (I.base.free b o e n hx)
    exact ⟨sl', e2⟩
  · obtain ⟨o', e1⟩ := I.base.there b o e hx
    exact free b o' (neC b o e hx) e1 (I.base.free b o e n hx)
  · obtain ⟨o', e1⟩ := I.base.there b o e hx
    exact there b o' (neC b o e hx) e1
  · obtain ⟨m1, e1⟩ := I.base.tbls b ps e
    obtain ⟨m2, e2⟩ := tbls b _ e1
    exact ⟨m1 ++ m2, by rw [e2, Array.append_assoc]⟩
  · obtain ⟨m, hn, hl⟩ := I.loc
    refine ⟨m, ns m hn, fun i x v e1 e2 e3 => ?_⟩
    obtain ⟨u, r, l⟩ := hl i x v e1 e2 e3
    refine ⟨u, r, ?_⟩
    rcases l with l | ⟨k, c, e, z⟩
    · exact .inl l
    · exact .inr ⟨k, c, e, cellK x c e _ z⟩
  · obtain ⟨v, z⟩ := I.cell x c e
    exact ⟨v, cellK x c e v z⟩
  · obtain ⟨m, ⟨o, _, _, ho, _⟩, _⟩ := I.loc
    exact free _ o (fun z => (hch _ z).2.1 rfl) ho I.free
  · obtain ⟨v, o, ho, hd⟩ := I.cell x c e
    exact free c o (fun z => (hch c z).2.2.1 x c e rfl) ho (I.freeC x c e)
  · obtain ⟨e, n, ne, nf, d⟩ := I.pin p hp
    have nch : p.1 ∉ ch := fun z => (hch p.1 z).2.2.2 p hp rfl
    exact ⟨keep p.1 p.2 ne nf nch e n, free p.1 p.2 nch e n, ne, nf, d⟩
/-- .. where the frame's own object is kept too -/
theorem Inv.un {t' : Nat} (I : Inv X pins σ H s) (u : Un X.fs [] H H' s.heap h') (hok : HOk X.prog X.w H' h') : Inv X pins σ H' { s with heap := h', toks := t' } := by
  obtain ⟨m, ⟨o, es, ep, ho, r⟩, _⟩ := id I.loc
  obtain ⟨sl, hL⟩ := u.any ho I.free (by simp)
  exact I.step (g' := s.gens) (d' := s.drawn) (ch := []) (fun _ z => nomatch z) (fun b o _ hb _ e n => u.keep b o e n hb (by simp)) (fun b o _ hb _ e n => u.slot b o e n hb (by simp)) (fun b o _ e n => u.free b o e n (by simp)) (fun b o _ e => u.there b o e (by simp)) u.tups u.frzs u.tbls (fun m' hm => by
    obtain ⟨o', es', ep', ho', r'⟩ := hm
    rw [ho] at ho'; cases ho'
    exact ⟨_, es', ep', hL, r'⟩) hok I.bare
/-- behind a call (or a comprehension's block): the slots of this frame may have changed too, the records at ch may have turned -/
theorem Inv.call {g' : Array GenState} {t' : Nat} {d' : Drawn} {ch : List Addr} (I : Inv X pins σ H s) (u : Un (frs X.stack) ch H H' s.heap h') (hok : HOk X.prog X.w H' h') (hg : AllBare g')
    (hch : ∀ b ∈ ch, (b ∈ X.ex ∨ X.s₀.heap.objs.size ≤ b) ∧ b ≠ X.env.locals ∧ (∀ x c, X.env.cells.lookup x = some c → c ≠ b) ∧ ∀ p ∈ X.pn ++ pins, p.1 ≠ b) :
    Inv X pins σ H' { s with heap := h', gens := g', drawn := d', toks := t' } := by
  obtain ⟨m, ⟨o, es, ep, ho, r⟩, _⟩ := id I.loc
  obtain ⟨sl, hL⟩ := u.any ho I.free fun z => (hch _ z).2.1 rfl
  exact I.step (ch := ch) hch (fun b o hL hb hc e n => u.keep b o e n (fun z => (List.mem_cons.mp (I.stkSub b z)).elim hL hb) hc) (fun b o _ _ hc e n => u.any e n hc) (fun b o hc e n => u.free b o e n hc) (fun b o hc e => u.there b o e hc) u.tups u.frzs u.tbls (fun m' hm => by
    obtain ⟨o', es', ep', ho', r'⟩ := hm
    rw [ho] at ho'; cases ho'
    exact ⟨_, es', ep', hL, r'⟩) hok hg
/-- an untracked record of ours (an iterator) has turned -/
theorem Inv.turned {t' : Nat} {it : Addr} (I : Inv X pins σ H s) (k : ∀ b o, b ≠ it → s.heap.get? b = some o → h'.get? b = some o) (hn : H it = none) (hL : it ≠ X.env.locals)
    (h1 : it ∈ X.ex ∨ X.s₀.heap.objs.size ≤ it) (h2 : ∀ x c, X.env.cells.lookup x = some c → c ≠ it) (h3 : ∀ p ∈ X.pn ++ pins, p.1 ≠ it) : Inv X pins σ H { s with heap := h', toks := t' } := by
  have nit : ∀ b u, H b = some u → b ≠ it := fun b u e z => by rw [z, hn] at e; cases e
  refine I.step (g' := s.gens) (d' := s.drawn) (ch := [it]) (fun b hb => ?_) (fun b o _ _ hc e _ => k b o (fun z => hc (by simp [z])) e) (fun b o _ _ hc e _ => ⟨o.slots, k b o (fun z => hc (by simp [z])) e⟩) (fun _ _ _ _ n => n)
    (fun b o hc e => ⟨o, k b o (fun z => hc (by simp [z])) e⟩) (fun _ _ e => e) (fun _ _ _ e => e) (fun b ps e => ⟨#[], by rw [e]; simp⟩) (fun m hm => ?_) (fun b u e => ?_) I.bare
  · have e : b = it := by simpa using hb
    subst e
    exact ⟨h1, hL, h2, h3⟩
  · obtain ⟨o, es, ep, ho, r⟩ := hm
    exact ⟨o, es, ep, k _ o (Ne.symm hL) ho, r⟩
  · refine (I.hok b u e).stay (fun c v hc q => k c v ?_ q) (fun _ q => q) fun _ _ q => q
    rcases hc with z | z
    · rw [z]; exact nit b u e
    · exact nit c _ z
theorem Inv.tok (I : Inv X pins σ H s) (t : Nat) : Inv X pins σ H { s with toks := t } := I.un (h' := s.heap) (t' := t) Un.refl I.hok
/-- all objects kept -/
theorem Inv.kept {t' : Nat} (I : Inv X pins σ H s) (k : ∀ b u, s.heap.get? b = some u → h'.get? b = some u) : Inv X pins σ H { s with heap := h', toks := t' } := I.un (Un.kept k) (I.hok.kept k)
/-- a new object laid and tracked -/
theorem Inv.laid {a : Addr} {o : HO} {t' : Nat} (I : Inv X pins σ H s) (k : ∀ b u, s.heap.get? b = some u → h'.get? b = some u) (hp : s.heap.objs.size ≤ a) (new : ObjOk X.prog X.w (upd H a o) h' a o) :
    Inv X pins σ (upd H a o) { s with heap := h', toks := t' } := I.un (Un.laid k hp (I.hok.fresh hp)) (I.hok.laid k hp new)
/-- an object written -/
theorem Inv.write {x e : Addr} {o : HO} {t' : Nat} (I : Inv X pins σ H s) (mu : Mut (H x)) (he : e = x ∨ H e = some (.own x)) (k : ∀ b u, b ≠ e → s.heap.get? b = some u → h'.get? b = some u) (heo : ∃ u, h'.get? e = some u)
    (new : ObjOk X.prog X.w (upd H x o) h' x o) : Inv X pins σ (upd H x o) { s with heap := h', toks := t' } := I.un (Un.write mu he k heo) (I.hok.write mu he k heo new)
/-- forgetting slots, pins -/
theorem Inv.weak {σ' : List (Option V)} (I : Inv X pins σ H s) (hl : σ'.length = σ.length) (w : ∀ (i : Nat) v, σ'[i]? = some (some v) → σ[i]? = some (some v)) : Inv X pins σ' H s :=
  ⟨I.ok, I.os, I.bare, I.base, let ⟨m, hn, hl'⟩ := I.loc; ⟨m, hn, fun i x v e1 e2 e3 => hl' i x v e1 (w i v e2) e3⟩, I.cell, I.free, I.freeC, I.pin, I.hok, hl.trans I.len⟩
theorem Inv.pins_of {pins' : List (Addr × Obj)} (I : Inv X pins σ H s) (h : ∀ p ∈ pins', s.heap.get? p.1 = some p.2 ∧ H p.1 = none ∧ p.1 ≠ X.env.locals ∧ p.1 ∉ X.fs ∧ ∀ v, p.2.data ≠ .cell v) : Inv X pins' σ H s :=
  ⟨I.ok, I.os, I.bare, I.base, I.loc, I.cell, I.free, I.freeC, fun p hp => (List.mem_append.mp hp).elim (fun z => I.pin p (List.mem_append_left _ z)) (h p), I.hok, I.len⟩

theorem nodup_ix {N : List Str} (hN : N.Nodup) {i j : Nat} {x : Str} (a : N[i]? = some x) (b : N[j]? = some x) : i = j := by
  obtain ⟨h1, e1⟩ := List.getElem?_eq_some_iff.mp a
  obtain ⟨h2, e2⟩ := List.getElem?_eq_some_iff.mp b
  exact (List.getElem_inj hN).mp (e1.trans e2.symm)

/-- a name is stored; what changed -/
theorem store_ok2 {M : Model} {A : Around} {E : Value → Shared → Prop} {i : Nat} {x : Str} {v : V} {u : Value} {Q : Unit → Shared → Prop} (I : Inv X pins σ H s) (hN : X.N.Nodup) (hi : X.N[i]? = some x) (hx : Loc X.env.scope x) (r : RelV v u)
    (h : ∀ s', Inv X pins (σ.set i (some v)) H s' → (∃ a, Heap.SameBut a s.heap s'.heap ∧ (a = X.env.locals ∨ X.env.cells.lookup x = some a)) → Q () s') (hf : X.fn x = true ∨ X.env.scope.names.lookup x = some .local := by first | exact .inl rfl | exact .inr rfl | assumption) : wpAny M A (storeName X.env x u) Q E s := by
  obtain ⟨m, hn, hl⟩ := id I.loc
  have hcls : (X.env.scope.kind == .class || (X.env.scope.kind == .module && X.env.locals != X.env.globals)) = false := by rw [I.ok.kind]; rfl
  have hiσ : i < σ.length := by rw [I.len]; exact (List.getElem?_eq_some_iff.mp hi).1
  have cne := I.cne
  have tracked : ∀ {a : Addr} {h' : Heap}, (∃ o, s.heap.get? a = some o ∧ H a = none) → Heap.SameBut a s.heap h' → HOk X.prog X.w H h' := fun {a h'} ha hs b ob e => by
    obtain ⟨_, _, hfree⟩ := ha
    refine (I.hok b ob e).stay (fun c w' hc q => (hs.2 c ?_).trans q) (fun _ q => q) fun _ _ q => q
    rintro rfl
    rcases hc with rfl | hc
    · rw [hfree] at e; cases e
    · rw [hfree] at hc; cases hc
  rcases hx with hk | hk
  · refine wpAny_storeName_local hk hn (fun h' hn' hs => ?_) hcls
    obtain ⟨oL, _, _, hoL, _⟩ := id hn
    refine h _ ⟨I.ok, I.os, I.bare, ⟨fun b o e n hb hx => ?_, fun b o e n hb hx => ?_, I.base.free, fun b o e hx => ?_, I.base.tups, I.base.frzs, I.base.tbls⟩, ⟨_, hn', fun j y v' e1 e2 e3 => ?_⟩, fun y c e => ?_, I.free, I.freeC, fun p hp => ?_, tracked ⟨oL, hoL, I.free⟩ hs, by simpa using I.len⟩ ⟨_, hs, .inl rfl⟩
    · exact (hs.2 b (Nat.ne_of_lt (Nat.lt_of_lt_of_le (Heap.lt_size e) I.ok.above))).trans (I.base.keep b o e n hb hx)
    · obtain ⟨sl, e1⟩ := I.base.slot b o e n hb hx
      exact ⟨sl, (hs.2 b (Nat.ne_of_lt (Nat.lt_of_lt_of_le (Heap.lt_size e) I.ok.above))).trans e1⟩
    · obtain ⟨o', e1⟩ := I.base.there b o e hx
      exact ⟨o', (hs.2 b (Nat.ne_of_lt (Nat.lt_of_lt_of_le (Heap.lt_size e) I.ok.above))).trans e1⟩
    · by_cases hj : j = i
      · subst hj
        rw [hi] at e1; cases e1
        rw [List.getElem?_set_self hiσ] at e2
        cases e2
        exact ⟨u, r, .inl ⟨hk, by simp⟩⟩
      · rw [List.getElem?_set_ne (Ne.symm hj)] at e2
        obtain ⟨u', r', q⟩ := hl j y v' e1 e2 e3
        refine ⟨u', r', ?_⟩
        rcases q with ⟨k, e⟩ | ⟨k, c, e, z⟩
        · refine .inl ⟨k, ?_⟩
          have : y ≠ x := fun e => hj (nodup_ix hN e1 (e ▸ hi))
          simp [this, e]
        · exact .inr ⟨k, c, e, z.sameBut hs (cne y c e)⟩
    · obtain ⟨w', z⟩ := I.cell y c e
      exact ⟨w', z.sameBut hs (cne y c e)⟩
    · obtain ⟨e, n, ne, nf, d⟩ := I.pin p hp
      exact ⟨(hs.2 p.1 ne).trans e, n, ne, nf, d⟩
  · have hfn : X.fn x = true := by
      rcases hf with z | z
      · exact z
      · rw [z] at hk; cases hk
    obtain ⟨c, hc⟩ := I.ok.has x (.inl hk)
    obtain ⟨w', z⟩ := I.cell x c hc
    refine wpAny_storeName_cell I.ok.kind hk hc z (fun h' hc' hs => ?_)
    obtain ⟨oc, hoc, hocd⟩ := id z
    refine h { s with heap := h' } ⟨I.ok, I.os, I.bare, ⟨fun b o e n hb hx => ?_, fun b o e n hb hx => ?_, I.base.free, fun b o e hx => ?_, I.base.tups, I.base.frzs, I.base.tbls⟩, ⟨m, hn.sameBut hs (Ne.symm (cne x c hc)), fun j y v' e1 e2 e3 => ?_⟩, fun y c' e => ?_, I.free, I.freeC, fun p hp => ?_, tracked ⟨oc, hoc, I.freeC x c hc⟩ hs, by simpa using I.len⟩ ⟨c, hs, .inr hc⟩
    · exact (hs.2 b (Nat.ne_of_lt (Nat.lt_of_lt_of_le (Heap.lt_size e) (I.ok.cab x c hfn hc)))).trans (I.base.keep b o e n hb hx)
    · obtain ⟨sl, e1⟩ := I.base.slot b o e n hb hx
      exact ⟨sl, (hs.2 b (Nat.ne_of_lt (Nat.lt_of_lt_of_le (Heap.lt_size e) (I.ok.cab x c hfn hc)))).trans e1⟩
    · obtain ⟨o', e1⟩ := I.base.there b o e hx
      exact ⟨o', (hs.2 b (Nat.ne_of_lt (Nat.lt_of_lt_of_le (Heap.lt_size e) (I.ok.cab x c hfn hc)))).trans e1⟩
    · by_cases hj : j = i
      · subst hj
        rw [hi] at e1; cases e1
        rw [List.getElem?_set_self hiσ] at e2
        cases e2
        exact ⟨u, r, .inr ⟨.inl hk, c, hc, hc'⟩⟩
      · rw [List.getElem?_set_ne (Ne.symm hj)] at e2
        obtain ⟨u', r', q⟩ := hl j y v' e1 e2 e3
        refine ⟨u', r', ?_⟩
        rcases q with q | ⟨k, c', e, z'⟩
        · exact .inl q
        · refine .inr ⟨k, c', e, z'.sameBut hs ?_⟩
          rintro rfl
          exact hj (nodup_ix hN e1 (I.ok.inj _ _ _ e hc ▸ hi))
    · by_cases hcc : c' = c
      · subst hcc; exact ⟨_, hc'⟩
      · obtain ⟨w2, z2⟩ := I.cell y c' e
        exact ⟨w2, z2.sameBut hs hcc⟩
    · obtain ⟨e, n, ne, nf, d⟩ := I.pin p hp
      refine ⟨(hs.2 p.1 ?_).trans e, n, ne, nf, d⟩
      intro q
      rw [q, hoc] at e
      have q' : oc = p.2 := Option.some.inj e
      exact d w' (by rw [← q']; exact hocd)
theorem store_ok {M : Model} {A : Around} {E : Value → Shared → Prop} {i : Nat} {x : Str} {v : V} {u : Value} {Q : Unit → Shared → Prop} (I : Inv X pins σ H s) (hN : X.N.Nodup) (hi : X.N[i]? = some x) (hx : Loc X.env.scope x) (r : RelV v u)
    (h : ∀ s', Inv X pins (σ.set i (some v)) H s' → Q () s') (hf : X.fn x = true ∨ X.env.scope.names.lookup x = some .local := by first | exact .inl rfl | exact .inr rfl | assumption) : wpAny M A (storeName X.env x u) Q E s :=
  store_ok2 I hN hi hx r (fun s' I' _ => h s' I') hf
/-- behind a call or a block, the state as it is -/
theorem Inv.call' {s' : Shared} {ch : List Addr} (I : Inv X pins σ H s) (ho : s'.os = s.os) (u : Un (frs X.stack) ch H H' s.heap s'.heap) (hok : HOk X.prog X.w H' s'.heap) (hg : AllBare s'.gens)
    (hch : ∀ b ∈ ch, (b ∈ X.ex ∨ X.s₀.heap.objs.size ≤ b) ∧ b ≠ X.env.locals ∧ (∀ x c, X.env.cells.lookup x = some c → c ≠ b) ∧ ∀ p ∈ X.pn ++ pins, p.1 ≠ b) : Inv X pins σ H' s' := by
  obtain ⟨h', g', d', t', o'⟩ := s'
  have e : o' = s.os := ho
  subst e
  exact I.call (g' := g') (t' := t') (d' := d') u hok hg hch
end

/-! ### the judgements -/
/-- an exception: its class, its own dict's address (where it has one), the abstract heap behind it -/
abbrev XK := Value → Option Addr → Hp → Prop
abbrev St := List (Option V)
abbrev VK := V → Hp → Prop
/-- an expression's reading; a test's; an argument list's -/
abbrev TE := St → Hp → VK → Prop
abbrev TT := St → Hp → (Bool → Hp → Prop) → Prop
abbrev TA := St → Hp → (List V → Hp → Prop) → Prop
/-- what is wanted behind a statement -/
structure Ends where
  nx : St → Hp → Prop
  rt : VK
  bk : St → Hp → Prop := fun _ _ => False
  ct : St → Hp → Prop := fun _ _ => False
abbrev TS := Ends → St → Hp → Prop

def EP (X : Cx) (pins : List (Addr × Obj)) (σ : St) (Q : VK) (u : Value) (s' : Shared) : Prop := ∃ v H', Inv X pins σ H' s' ∧ RelV v u ∧ Q v H'
def TP (X : Cx) (pins : List (Addr × Obj)) (σ : St) (Q : Bool → Hp → Prop) (b : Bool) (s' : Shared) : Prop := ∃ H', Inv X pins σ H' s' ∧ Q b H'
def AP (X : Cx) (pins : List (Addr × Obj)) (σ : St) (Q : List V → Hp → Prop) (us : List Value) (s' : Shared) : Prop := ∃ vs H', Inv X pins σ H' s' ∧ Vals vs us ∧ Q vs H'
def SP (X : Cx) (pins : List (Addr × Obj)) (D : Ends) (f : Flow) (s' : Shared) : Prop :=
  match f with
  | .next => ∃ σ' H', Inv X pins σ' H' s' ∧ D.nx σ' H'
  | .brk => ∃ σ' H', Inv X pins σ' H' s' ∧ D.bk σ' H'
  | .cont => ∃ σ' H', Inv X pins σ' H' s' ∧ D.ct σ' H'
  | .ret u => ∃ v σ' H', Inv X pins σ' H' s' ∧ RelV v u ∧ D.rt v H'

def PE (X : Cx) (e : Expr) (t : TE) : Prop :=
  ∀ (pins : List (Addr × Obj)) (s : Shared) (σ : St) (H : Hp) (Q : VK), Inv X pins σ H s → t σ H Q → wpAny (model X.prog X.w) X.A (eval e X.env) (EP X pins σ Q) X.xe s
def PT (X : Cx) (e : Expr) (t : TT) : Prop :=
  ∀ (pins : List (Addr × Obj)) (s : Shared) (σ : St) (H : Hp) (Q : Bool → Hp → Prop), Inv X pins σ H s → t σ H Q → wpAny (model X.prog X.w) X.A (isTrue e X.env (eval e X.env)) (TP X pins σ Q) X.xe s
/-- a test whatever its 'whole' is (and, or) -/
def PW (X : Cx) (e : Expr) (t : TT) : Prop :=
  ∀ (whole : Sem Value) (pins : List (Addr × Obj)) (s : Shared) (σ : St) (H : Hp) (Q : Bool → Hp → Prop), Inv X pins σ H s → t σ H Q → wpAny (model X.prog X.w) X.A (isTrue e X.env whole) (TP X pins σ Q) X.xe s
theorem PW.pt {X : Cx} {e : Expr} {t : TT} (h : PW X e t) : PT X e t := h _
/-- an argument list (no star), from the left -/
def PA (X : Cx) (es : List Expr) (t : TA) : Prop :=
  ∀ (pos : Pos) (pins : List (Addr × Obj)) (s : Shared) (σ : St) (H : Hp) (Q : List V → Hp → Prop), Inv X pins σ H s → t σ H Q → wpAny (model X.prog X.w) X.A (spliced (backTo pos (starEach es X.env))) (AP X pins σ Q) X.xe s
def PS (X : Cx) (st : Stmt) (t : TS) : Prop :=
  ∀ (pins : List (Addr × Obj)) (s : Shared) (σ : St) (H : Hp) (D : Ends), Inv X pins σ H s → t D σ H → wpAny (model X.prog X.w) X.A (exec st X.env) (SP X pins D) X.xe s
def PSs (X : Cx) (st : List Stmt) (t : TS) : Prop :=
  ∀ (pins : List (Addr × Obj)) (s : Shared) (σ : St) (H : Hp) (D : Ends), Inv X pins σ H s → t D σ H → wpAny (model X.prog X.w) X.A (execs st X.env) (SP X pins D) X.xe s
/-- weaken the end -/
theorem thn {α : Type} {t : Sem α} {Q Q' : α → Shared → Prop} {M : Model} {A : Around} {E : Value → Shared → Prop} {s : Shared} (h : wpAny M A t Q E s) (hQ : ∀ a s, Q a s → Q' a s) : wpAny M A t Q' E s := wpAny_mono h hQ fun _ _ x => x
end L2

namespace L2
open PySem PySem.Spec PyProof.Rows
section
variable {X : Cx}

/-! ### names and constants -/
def tVar (i : Nat) : TE := fun σ H Q => ∃ v, σ[i]? = some (some v) ∧ Q v H
def tC (v : V) : TE := fun _ H Q => Q v H
theorem pe_var {i : Nat} {x : Str} {pos : Pos} (hN : X.N[i]? = some x) (hv : Vis X.env.scope x) (hd : (x == ("__debug__" : Str)) = false := by decide) (hcd : (x == ("__classdict__" : Str)) = false := by decide) : PE X (.Name x pos) (tVar i) := by
  intro pins s σ H Q I h
  obtain ⟨v, e, h⟩ := h
  obtain ⟨m, hn, hl⟩ := I.loc
  obtain ⟨u, r, l⟩ := hl i x v hN e hv
  have fin : EP X pins σ Q u s := ⟨v, H, I, r, h⟩
  rcases l with ⟨hk, hm⟩ | ⟨hk, c, hc, hcell⟩
  · exact wpAny_Name (wpAny_loadName_local I.ok.kind hk hn hm fin) hd
  · rcases hk with hk | hk
    · exact wpAny_Name (wpAny_loadName_cell I.ok.kind hk hc hcell fin) hd
    · exact wpAny_Name (wpAny_loadName_free I.ok.kind hk hc hcell fin hcd) hd
theorem pe_int {i j pos} : PE X (.Constant (.int i) j pos) (tC (.int i)) := fun _ _ _ H _ I h => wpAny_Constant_int ⟨.int i, H, I.tok _, ⟨_, rfl⟩, h⟩
theorem pe_bl {b j pos} : PE X (.Constant (.bool b) j pos) (tC (.bl b)) := fun _ _ _ H _ I h => Constant_bool ⟨.bl b, H, I, rfl, h⟩
theorem pe_non {j pos} : PE X (.Constant .none j pos) (tC .non) := fun _ _ _ H _ I h => Constant_none ⟨.non, H, I, rfl, h⟩
theorem pe_str {x j pos} : PE X (.Constant (.str x) j pos) (tC (.str x)) := fun _ _ _ H _ I h => Calls.Constant_str ⟨.str x, H, I.tok _, ⟨_, rfl⟩, h⟩

/-- a global name of the def -/
def Gl (X : Cx) (x : Str) : Prop := X.env.kindOf x = some .globalImplicit
theorem ld_glob {E : Value → Shared → Prop} {pins : List (Addr × Obj)} {s : Shared} {σ : St} {H : Hp} {x : Str} {u : Value} {pos : Pos} {Q : Value → Shared → Prop} (I : Inv X pins σ H s) (hg : Gl X x) (hm : X.mg x = some u) (h : Q u s)
    (hd : (x == ("__debug__" : Str)) = false := by decide) : wpAny (model X.prog X.w) X.A (eval (.Name x pos) X.env) Q E s :=
  Calls.Name_function_global I.ok.kind hg (Calls.loadGlobal_global (by rw [I.ok.glob]; exact I.mod.glob.keeps I.bk) hm h) hd
theorem ld_blt {E : Value → Shared → Prop} {pins : List (Addr × Obj)} {s : Shared} {σ : St} {H : Hp} {x : Str} {u : Value} {pos : Pos} {Q : Value → Shared → Prop} (I : Inv X pins σ H s) (hg : Gl X x) (hm : X.mg x = none) (hv : bootBuiltins x = some u) (h : Q u s)
    (hn : x ≠ "__name__" := by decide) (hd : (x == ("__debug__" : Str)) = false := by decide) : wpAny (model X.prog X.w) X.A (eval (.Name x pos) X.env) Q E s := by
  obtain ⟨mb, h1, h2⟩ := I.mod.blt
  exact Calls.Name_function_global I.ok.kind hg (Calls.loadGlobal_builtin (by rw [I.ok.glob]; exact I.mod.glob.keeps I.bk) hm (by rw [I.ok.blt]; exact h1.keeps I.bk) ((h2 x hn).trans hv) h) hd
/-- a module's constant, a class, a function, as a value -/
theorem pe_glob {x : Str} {v : V} {u : Value} {pos : Pos} (hg : Gl X x) (hm : X.mg x = some u) (r : RelV v u) (hd : (x == ("__debug__" : Str)) = false := by decide) : PE X (.Name x pos) (tC v) :=
  fun _ _ _ H _ I h => ld_glob I hg hm ⟨v, H, I, r, h⟩ hd
theorem pe_bltn {x : Str} {v : V} {u : Value} {pos : Pos} (hg : Gl X x) (hm : X.mg x = none) (hv : bootBuiltins x = some u) (r : RelV v u) (hn : x ≠ "__name__" := by decide) (hd : (x == ("__debug__" : Str)) = false := by decide) : PE X (.Name x pos) (tC v) :=
  fun _ _ _ H _ I h => ld_blt I hg hm hv ⟨v, H, I, r, h⟩ hn hd

/-! ### arithmetic -/
/-- two ints -/
def t2I (ta tb : TE) (k : Int → Int → Hp → Prop) : St → Hp → Prop := fun σ H => ta σ H fun x H1 => tb σ H1 fun y H2 => ∃ i j, x = .int i ∧ y = .int j ∧ k i j H2
def tAdd (ta tb : TE) : TE := fun σ H Q => t2I ta tb (fun i j H2 => Q (.int (i + j)) H2) σ H
def tSub (ta tb : TE) : TE := fun σ H Q => t2I ta tb (fun i j H2 => Q (.int (i - j)) H2) σ H
/-- the left factor below 2^64 -/
def tMul (ta tb : TE) : TE := fun σ H Q => t2I ta tb (fun i j H2 => (-(2 ^ 64) < i ∧ i < 2 ^ 64) ∧ Q (.int (i * j)) H2) σ H
variable {a b : Expr} {ta tb : TE} {pos : Pos}
/-! ### comparisons -/
def PC (X : Cx) (op : CmpOp) (a b : Expr) (t : TE) : Prop :=
  ∀ (pins : List (Addr × Obj)) (s : Shared) (σ : St) (H : Hp) (Q : VK), Inv X pins σ H s → t σ H Q →
    wpAny (model X.prog X.w) X.A (eval a X.env) (fun v s₁ => wpAny (model X.prog X.w) X.A (eval b X.env) (fun u s₂ => wpAny (model X.prog X.w) X.A (compareOp op v u) (EP X pins σ Q) X.xe s₂) X.xe s₁) X.xe s
def tCmp (p : Int → Int → Bool) (ta tb : TE) : TE := fun σ H Q => t2I ta tb (fun i j H2 => Q (.bl (p i j)) H2) σ H
abbrev tLt : TE → TE → TE := tCmp fun i j => decide (i < j)
abbrev tLe : TE → TE → TE := tCmp fun i j => decide (i ≤ j)
abbrev tGt : TE → TE → TE := tCmp fun i j => decide (j < i)
abbrev tGe : TE → TE → TE := tCmp fun i j => decide (j ≤ i)
abbrev tEqI : TE → TE → TE := tCmp fun i j => decide (i = j)
abbrev tNeI : TE → TE → TE := tCmp fun i j => !decide (i = j)
/-- is None -/
def tIsN (ta : TE) : TE := fun σ H Q => ta σ H fun x H1 => Q (.bl (decide (x = .non))) H1
def tNotN (ta : TE) : TE := fun σ H Q => ta σ H fun x H1 => Q (.bl (!decide (x = .non))) H1
/-- a comparison as a value, as a test -/
def tB (t : TE) : TT := fun σ H Q => t σ H fun x H1 => ∃ c, x = .bl c ∧ Q c H1
/-- an expression whose value is a bool, as a test -/
theorem pt_val {e : Expr} {t : TE} (h : PE X e t) (he : ∀ whole, isTrue e X.env whole = (do let v ← whole; standAt e.pos; holding [v] (truthy v)) := by intro _; rfl) : PT X e (tB t) := by
  intro pins s σ H Q I hw
  refine isTrue_plain (thn (h pins s σ H _ I hw) fun v s1 ⟨x, H1, I1, r1, q1⟩ => ?_) (he _)
  obtain ⟨d, rfl, q⟩ := q1
  cases r1
  exact wpAny_truthy_bool ⟨H1, I1, q⟩

/-! ### and, or, not -/
variable {tA tB' : TT} {rest : List Expr}
def tAnd (t u : TT) : TT := fun σ H Q => t σ H fun c H1 => if c = true then u σ H1 Q else Q false H1
def tOr (t u : TT) : TT := fun σ H Q => t σ H fun c H1 => if c = true then Q true H1 else u σ H1 Q
def tNot (t : TT) : TT := fun σ H Q => t σ H fun c H1 => Q (!c) H1
theorem pw_and1 (ha : PT X a tA) : PW X (.BoolOp .And [a] pos) tA := by
  intro wh pins s σ H Q I h
  refine isTrue_and (thn (ha pins s σ H Q I h) fun c s1 e => ?_)
  cases c with
  | true => exact isTrue_and_nil e
  | false => exact e
theorem pw_or1 (ha : PT X a tA) : PW X (.BoolOp .Or [a] pos) tA := by
  intro wh pins s σ H Q I h
  refine isTrue_or (thn (ha pins s σ H Q I h) fun c s1 e => ?_)
  cases c with
  | false => exact isTrue_or_nil e
  | true => exact e
theorem pw_and (ha : PT X a tA) (hb : PW X (.BoolOp .And (b :: rest) pos) tB') : PW X (.BoolOp .And (a :: b :: rest) pos) (tAnd tA tB') := by
  intro wh pins s σ H Q I h
  refine isTrue_and (thn (ha pins s σ H _ I h) fun c s1 ⟨H1, I1, q1⟩ => ?_)
  cases c with
  | true => exact hb wh pins s1 σ H1 Q I1 q1
  | false => exact ⟨H1, I1, q1⟩
theorem pw_or (ha : PT X a tA) (hb : PW X (.BoolOp .Or (b :: rest) pos) tB') : PW X (.BoolOp .Or (a :: b :: rest) pos) (tOr tA tB') := by
  intro wh pins s σ H Q I h
  refine isTrue_or (thn (ha pins s σ H _ I h) fun c s1 ⟨H1, I1, q1⟩ => ?_)
  cases c with
  | true => exact ⟨H1, I1, q1⟩
  | false => exact hb wh pins s1 σ H1 Q I1 q1
theorem pt_not (ha : PT X a tA) : PT X (.UnaryOp .Not a pos) (tNot tA) := by
  intro pins s σ H Q I h
  exact isTrue_not (ha pins s σ H (fun c H1 => Q (!c) H1) I h)
/-- .. as values (bools) -/
def tAndV (ta tb : TE) : TE := fun σ H Q => ta σ H fun x H1 => ∃ c, x = .bl c ∧ if c = true then tb σ H1 Q else Q (.bl false) H1
def tOrV (ta tb : TE) : TE := fun σ H Q => ta σ H fun x H1 => ∃ c, x = .bl c ∧ if c = true then Q (.bl true) H1 else tb σ H1 Q
def tNotV (ta : TE) : TE := fun σ H Q => ta σ H fun x H1 => ∃ c, x = .bl c ∧ Q (.bl (!c)) H1
theorem pe_one {op} {t : TE} (h : PE X a t) : PE X (.BoolOp op [a] pos) t := fun pins s σ H Q I hw => BoolOp_one (h pins s σ H Q I hw)
theorem pe_and (ha : PE X a ta) (hb : PE X (.BoolOp .And (b :: rest) pos) tb) : PE X (.BoolOp .And (a :: b :: rest) pos) (tAndV ta tb) := by
  intro pins s σ H Q I h
  refine BoolOp_and (thn (ha pins s σ H _ I h) fun v s1 ⟨x, H1, I1, r1, q1⟩ => ?_)
  obtain ⟨c, rfl, q1⟩ := q1
  cases r1
  refine wpAny_truthy_bool ?_
  cases c with
  | true => exact hb pins s1 σ H1 Q I1 q1
  | false => exact ⟨.bl false, H1, I1, rfl, q1⟩
theorem pe_or (ha : PE X a ta) (hb : PE X (.BoolOp .Or (b :: rest) pos) tb) : PE X (.BoolOp .Or (a :: b :: rest) pos) (tOrV ta tb) := by
  intro pins s σ H Q I h
  refine BoolOp_or (thn (ha pins s σ H _ I h) fun v s1 ⟨x, H1, I1, r1, q1⟩ => ?_)
  obtain ⟨c, rfl, q1⟩ := q1
  cases r1
  refine wpAny_truthy_bool ?_
  cases c with
  | false => exact hb pins s1 σ H1 Q I1 q1
  | true => exact ⟨.bl true, H1, I1, rfl, q1⟩
theorem pe_not (ha : PE X a ta) : PE X (.UnaryOp .Not a pos) (tNotV ta) := by
  intro pins s σ H Q I h
  refine UnaryOp_ (thn (ha pins s σ H _ I h) fun v s1 ⟨x, H1, I1, r1, q1⟩ => ?_)
  obtain ⟨c, rfl, q1⟩ := q1
  cases r1
  exact not_of (wpAny_truthy_bool ⟨.bl (!c), H1, I1, rfl, q1⟩)
/-- a if t else b -/
def tIf (t : TT) (ta tb : TE) : TE := fun σ H Q => t σ H fun c H1 => if c = true then ta σ H1 Q else tb σ H1 Q
theorem pe_ifExp {c : Expr} (hc : PT X c tA) (ha : PE X a ta) (hb : PE X b tb) : PE X (.IfExp c a b pos) (tIf tA ta tb) := by
  intro pins s σ H Q I h
  refine wpAny_IfExp (thn (hc pins s σ H _ I h) fun d s1 ⟨H1, I1, q1⟩ => ?_)
  cases d with
  | true => exact ha pins s1 σ H1 Q I1 q1
  | false => exact hb pins s1 σ H1 Q I1 q1
end
end L2

namespace L2
open PySem PySem.Spec PyProof.Rows

/-! ### a list, a tuple that is read: tracked, frozen, or an object of the module -/
def SqL (K : PySem.W.Frag) (H : Hp) (a : Addr) (xs : List V) : Prop :=
  Rd H a (.lst xs) ∨
    ∃ (o : Obj) (its : Array Value) (n : Nat), K.lookup a = some o ∧ o.cls = .type "list" ∧ o.dict = none ∧ o.data = .seq its n ∧ its.size ≤ sizeLine ∧ Vals xs its.toList
def SqT (K : PySem.W.Frag) (H : Hp) (a : Addr) (xs : List V) : Prop :=
  Rd H a (.tup xs) ∨
    ∃ (o : Obj) (its : Array Value) (n : Nat), K.lookup a = some o ∧ o.cls = .type "tuple" ∧ o.data = .seq its n ∧ its.size ≤ sizeLine ∧ Vals xs its.toList
def absV : Value → Option V
  | .none => some .non
  | .bool b => some (.bl b)
  | .int i _ => some (.int i)
  | .str x _ => some (.str x)
  | .bytes b _ => some (.byt b)
  | .float b _ => some (.flt b)
  | .ref a => some (.ref a)
  | .type n => some (.ty n)
  | _ => none
theorem RelV.abs {x : V} {u : Value} (r : RelV x u) : absV u = some x := by
  cases x with
  | non => cases r; rfl
  | bl _ => cases r; rfl
  | int _ => obtain ⟨t, rfl⟩ := r; rfl
  | str _ => obtain ⟨t, rfl⟩ := r; rfl
  | byt _ => obtain ⟨t, rfl⟩ := r; rfl
  | flt _ => obtain ⟨t, rfl⟩ := r; rfl
  | ref _ => cases r; rfl
  | ty _ => cases r; rfl
theorem RelV.inj {x y : V} {u : Value} (r : RelV x u) (q : RelV y u) : x = y := Option.some.inj (r.abs.symm.trans q.abs)
theorem Vals.inj : ∀ {xs ys : List V} {us : List Value}, Vals xs us → Vals ys us → xs = ys
  | _, _, _, .nil, .nil => rfl
  | _, _, _, .cons r t, .cons r' t' => by rw [r.inj r', Vals.inj t t']
section
variable {X : Cx} {pins : List (Addr × Obj)} {σ : St} {H : Hp} {s : Shared} {a : Addr} {xs ys : List V}
theorem SqL.of {K : PySem.W.Frag} (h : H a = some (.lst xs)) : SqL K H a xs := .inl (.inl h)
theorem SqT.of {K : PySem.W.Frag} (h : H a = some (.tup xs)) : SqT K H a xs := .inl (.inl h)
theorem Inv.list (I : Inv X pins σ H s) (h : SqL X.K H a xs) : ∃ its : List Value, Vals xs its ∧ PlainL s.heap a its.toArray ∧ xs.length ≤ sizeLine := by
  rcases h with h | ⟨o, its, n, hk, hc, hd, hs, hz, r⟩
  · obtain ⟨z, its, n, r, e⟩ := h.ok I.hok
    exact ⟨its, r, ⟨_, n, e, rfl, rfl, rfl⟩, z⟩
  · refine ⟨its.toList, r, ⟨o, n, I.kIn a o hk, hc, hd, by simpa using hs⟩, ?_⟩
    have e := r.length
    simp only [Array.length_toList] at e
    omega
theorem Inv.tuple (I : Inv X pins σ H s) (h : SqT X.K H a xs) : ∃ its : List Value, Vals xs its ∧ IsTup s.heap a its.toArray ∧ xs.length ≤ sizeLine := by
  rcases h with h | ⟨o, its, n, hk, hc, hs, hz, r⟩
  · obtain ⟨z, its, r, p⟩ := h.ok I.hok
    exact ⟨its, r, p, z⟩
  · refine ⟨its.toList, r, ⟨o, I.kIn a o hk, hc, n, by simpa using hs⟩, ?_⟩
    have e := r.length
    simp only [Array.length_toList] at e
    omega
theorem Inv.list_inj (I : Inv X pins σ H s) (h : SqL X.K H a xs) (h' : SqL X.K H a ys) : xs = ys := by
  obtain ⟨its, r, ⟨o, n, e, _, _, d⟩, _⟩ := I.list h
  obtain ⟨its', r', ⟨o', n', e', _, _, d'⟩, _⟩ := I.list h'
  rw [e] at e'; cases e'
  rw [d] at d'
  injection d' with d1 _
  have : its = its' := by simpa using congrArg Array.toList d1
  subst this
  exact r.inj r'
theorem Inv.tuple_inj (I : Inv X pins σ H s) (h : SqT X.K H a xs) (h' : SqT X.K H a ys) : xs = ys := by
  obtain ⟨its, r, ⟨o, e, _, n, d⟩, _⟩ := I.tuple h
  obtain ⟨its', r', ⟨o', e', _, n', d'⟩, _⟩ := I.tuple h'
  rw [e] at e'; cases e'
  rw [d] at d'
  injection d' with d1 _
  have : its = its' := by simpa using congrArg Array.toList d1
  subst this
  exact r.inj r'
end

/-! ### another wish about exceptions -/
abbrev Cx.wish (X : Cx) (E : Value → Shared → Prop) : Cx := { X with xe := E }
/-- no exception leaves -/
abbrev Cx.nox (X : Cx) : Cx := X.wish fun _ _ => False
theorem Cx.Ok.wish {X : Cx} (ok : X.Ok) (E : Value → Shared → Prop) : (X.wish E).Ok :=
  ⟨ok.mod, ok.kind, ok.glob, ok.blt, ok.above, ok.inj, ok.has, ok.cab, ok.hd, ok.frames, ok.stk, ok.exf, ok.bs, ok.bsz, ok.noex, ok.exfs, ok.funs, ok.frf⟩
theorem Cx.Ok.unwish {X : Cx} {E : Value → Shared → Prop} (ok : (X.wish E).Ok) : X.Ok :=
  ⟨ok.mod, ok.kind, ok.glob, ok.blt, ok.above, ok.inj, ok.has, ok.cab, ok.hd, ok.frames, ok.stk, ok.exf, ok.bs, ok.bsz, ok.noex, ok.exfs, ok.funs, ok.frf⟩
section
variable {X : Cx} {pins : List (Addr × Obj)} {σ : St} {H : Hp} {s : Shared} {E : Value → Shared → Prop}
theorem Inv.wish (I : Inv X pins σ H s) (E : Value → Shared → Prop) : Inv (X.wish E) pins σ H s := ⟨I.ok.wish E, I.os, I.bare, I.base, I.loc, I.cell, I.free, I.freeC, I.pin, I.hok, I.len⟩
theorem Inv.unwish (I : Inv (X.wish E) pins σ H s) : Inv X pins σ H s := ⟨I.ok.unwish, I.os, I.bare, I.base, I.loc, I.cell, I.free, I.freeC, I.pin, I.hok, I.len⟩
theorem SP.unwish {D : Ends} {f : Flow} {s' : Shared} (h : SP (X.wish E) pins D f s') : SP X pins D f s' := by
  cases f with
  | next => obtain ⟨σ', H', I, q⟩ := h; exact ⟨σ', H', I.unwish, q⟩
  | brk => obtain ⟨σ', H', I, q⟩ := h; exact ⟨σ', H', I.unwish, q⟩
  | cont => obtain ⟨σ', H', I, q⟩ := h; exact ⟨σ', H', I.unwish, q⟩
  | ret u => obtain ⟨v, σ', H', I, r, q⟩ := h; exact ⟨v, σ', H', I.unwish, r, q⟩
theorem PSs.nox {st : List Stmt} {t : TS} (h : PSs X.nox st t) : PSs X st t := fun pins s σ H D I hw =>
  wpAny_mono (h pins s σ H D (I.wish _) hw) (fun _ _ q => q.unwish) fun _ _ z => False.elim z
end

/-! ### blocks and small statements -/
section
variable {X : Cx} {st : Stmt} {rest : List Stmt} {t u : TS} {e : Expr} {te : TE} {pos : Pos}
def tNext : TS := fun D σ H => D.nx σ H
def tSeq (t u : TS) : TS := fun D σ H => t { D with nx := u D } σ H
theorem pss_nil : PSs X [] tNext := fun _ _ σ H _ I h => wpAny_execs_nil ⟨σ, H, I, h⟩
theorem pss_cons (h1 : PS X st t) (h2 : PSs X rest u) : PSs X (st :: rest) (tSeq t u) := by
  intro pins s σ H D I h
  refine wpAny_execs_cons (thn (h1 pins s σ H { D with nx := u D } I h) fun f s1 q => ?_)
  cases f with
  | next =>
    obtain ⟨σ', H', I', q⟩ := q
    exact h2 pins s1 σ' H' D I' q
  | ret v => exact q
  | brk => exact q
  | cont => exact q
theorem pss_one (h1 : PS X st t) : PSs X [st] t := by
  intro pins s σ H D I h
  refine wpAny_execs_cons (thn (h1 pins s σ H D I h) fun f s1 q => ?_)
  cases f with
  | next => exact wpAny_execs_nil q
  | ret v => exact q
  | brk => exact q
  | cont => exact q
def tBreak : TS := fun D σ H => D.bk σ H
def tCont : TS := fun D σ H => D.ct σ H
/-- in a def's body nothing is shown -/
theorem Inv.quiet {pins : List (Addr × Obj)} {σ : St} {H : Hp} {s : Shared} (I : Inv X pins σ H s) : interactive X.env = false := by simp [interactive, I.ok.kind]
/-- an expression whose value is dropped -/
def tDrop (te : TE) : TS := fun D σ H => te σ H fun _ H1 => D.nx σ H1
theorem ps_expr (he : PE X e te) (hs : swapsWith e none pos.line X.env = pure false := by rfl) : PS X (.Expr e pos) (tDrop te) := by
  intro pins s σ H D I h
  exact wpAny_Expr_any (thn (he pins s σ H _ I h) fun v s1 ⟨x, H1, I1, r1, q1⟩ => ⟨σ, H1, I1, q1⟩) I.quiet hs
def tRet (te : TE) : TS := fun D σ H => te σ H D.rt
theorem ps_ret (he : PE X e te) : PS X (.Return (some e) pos) (tRet te) := by
  intro pins s σ H D I h
  exact wpAny_Return_some (thn (he pins s σ H _ I h) fun v s1 ⟨x, H1, I1, r1, q1⟩ => ⟨x, σ, H1, I1, r1, q1⟩)
def tRetN : TS := fun D _ H => D.rt .non H
def tIfS (c : TT) (t u : TS) : TS := fun D σ H => c σ H fun b H1 => if b = true then t D σ H1 else u D σ H1
theorem ps_if {c : Expr} {a b : List Stmt} {tc : TT} (hc : PT X c tc) (ha : PSs X a t) (hb : PSs X b u) : PS X (.If c a b pos) (tIfS tc t u) := by
  intro pins s σ H D I h
  refine wpAny_If (thn (hc pins s σ H _ I h) fun d s1 ⟨H1, I1, q1⟩ => ?_)
  cases d with
  | true => exact ha pins s1 σ H1 D I1 q1
  | false => exact hb pins s1 σ H1 D I1 q1
/-- code that the proof never comes to -/
def tNever : TS := fun _ _ _ => False
end

/-! ### targets -/
abbrev TG := V → St → Hp → (St → Hp → Prop) → Prop
abbrev TGs := List V → St → Hp → (St → Hp → Prop) → Prop
def PG (X : Cx) (target : Expr) (t : TG) : Prop :=
  ∀ (pins : List (Addr × Obj)) (s : Shared) (σ : St) (H : Hp) (v : V) (u : Value) (Q : St → Hp → Prop), Inv X pins σ H s → RelV v u → t v σ H Q →
    wpAny (model X.prog X.w) X.A (assign target X.env u) (fun _ s' => ∃ σ' H', Inv X pins σ' H' s' ∧ Q σ' H') X.xe s
/-- several targets, one after another -/
def PGs (X : Cx) (ts : List Expr) (t : TGs) : Prop :=
  ∀ (pins : List (Addr × Obj)) (s : Shared) (σ : St) (H : Hp) (vs : List V) (us : List Value) (Q : St → Hp → Prop), Inv X pins σ H s → Vals vs us → t vs σ H Q →
    wpAny (model X.prog X.w) X.A (assignInOrder ((assignEach ts X.env).map (·.2)) us) (fun _ s' => ∃ σ' H', Inv X pins σ' H' s' ∧ Q σ' H') X.xe s
/-- o[i] = v, by values -/
abbrev TSet := V → V → V → Hp → (Hp → Prop) → Prop
def PSet (X : Cx) (t : TSet) : Prop :=
  ∀ (pins : List (Addr × Obj)) (s : Shared) (σ : St) (H : Hp) (o i v : V) (ov iv u : Value) (Q : Hp → Prop), Inv X pins σ H s → RelV o ov → RelV i iv → RelV v u → t o i v H Q →
    wpAny (model X.prog X.w) X.A (setItem ov iv u) (fun _ s' => ∃ H', Inv X pins σ H' s' ∧ Q H') X.xe s
/-- a op= b, by values -/
abbrev TIp := V → V → Hp → VK → Prop
def PIp (X : Cx) (op : Operator) (t : TIp) : Prop :=
  ∀ (pins : List (Addr × Obj)) (s : Shared) (σ : St) (H : Hp) (x y : V) (v u : Value) (Q : VK), Inv X pins σ H s → RelV x v → RelV y u → t x y H Q →
    wpAny (model X.prog X.w) X.A (inplaceOp op v u) (EP X pins σ Q) X.xe s
section
variable {X : Cx} {pos : Pos}
def gName (i : Nat) : TG := fun v σ H Q => Q (σ.set i (some v)) H
theorem pg_name {i : Nat} {x : Str} (hN : X.N.Nodup) (hi : X.N[i]? = some x) (hx : Loc X.env.scope x) (hf : X.fn x = true ∨ X.env.scope.names.lookup x = some .local := by first | exact .inl rfl | exact .inr rfl | assumption) : PG X (.Name x pos) (gName i) := by
  intro pins s σ H v u Q I r h
  exact wpAny_assign_Name (store_ok I hN hi hx r (fun s' I' => ⟨_, H, I', h⟩) hf)
def gNil : TGs := fun vs σ H Q => vs = [] ∧ Q σ H
def gCons (t : TG) (u : TGs) : TGs := fun vs σ H Q => ∃ v r, vs = v :: r ∧ t v σ H fun σ' H' => u r σ' H' Q
theorem pgs_nil : PGs X [] gNil := by
  intro pins s σ H vs us Q I r h
  obtain ⟨e, h⟩ := h
  subst e
  cases r
  exact assignInOrder_nil ⟨σ, H, I, h⟩
theorem pgs_cons {e : Expr} {es : List Expr} {t : TG} {u : TGs} (h1 : PG X e t) (h2 : PGs X es u)
    (hs : (assignEach (e :: es) X.env).map (·.2) = assign e X.env :: (assignEach es X.env).map (·.2) := by rfl) : PGs X (e :: es) (gCons t u) := by
  intro pins s σ H vs us Q I r h
  obtain ⟨v, vr, e1, h⟩ := h
  subst e1
  cases r with
  | cons r rr =>
    rw [hs]
    refine assignInOrder_cons (thn (h1 pins s σ H _ _ _ I r h) fun _ s1 ⟨σ1, H1, I1, q1⟩ => ?_)
    exact h2 pins s1 σ1 H1 _ _ Q I1 rr q1
/-- (a, b, ..) = a tuple of that length -/
def gTup (K : PySem.W.Frag) (n : Nat) (t : TGs) : TG := fun v σ H Q => ∃ a xs, v = .ref a ∧ SqT K H a xs ∧ xs.length = n ∧ t xs σ H Q
theorem pg_tup {es : List Expr} {k : Nat} {t : TGs} {n : Nat} (hc : X.calm = true) (h : PGs X es t)
    (hn : (assignEach es X.env).length = n := by rfl) (hst : (assignEach es X.env).findIdx? (·.1) = none := by rfl) : PG X (.Tuple es k pos) (gTup X.K n t) := by
  intro pins s σ H v u Q I r hw
  obtain ⟨a, xs, e1, hq, hl, hw⟩ := hw
  subst e1
  cases r
  obtain ⟨its, rv, ht, hz⟩ := I.tuple hq
  refine assign_Tuple_tuple (I.ok.hd hc) ht (by simp [hn, ← hl, rv.length]) hst fun h' hx => ?_
  have I1 : Inv X pins σ H { s with heap := h' } := I.kept (t' := s.toks) fun b o e => hx b o (Nat.ne_of_lt (Heap.lt_size e)) e
  exact h pins _ σ H xs _ Q I1 (by simpa using rv) hw
/-- o[i] = .. -/
def gSub (to ti : TE) (t : TSet) : TG := fun v σ H Q => to σ H fun o H1 => ti σ H1 fun i H2 => t o i v H2 fun H3 => Q σ H3
/-- target = value -/
def tAsg (te : TE) (g : TG) : TS := fun D σ H => te σ H fun x H1 => g x σ H1 D.nx
theorem ps_asg {tg e : Expr} {te : TE} {g : TG} (he : PE X e te) (hg : PG X tg g) (hs : swapsWithSole [tg] e pos.line X.env = pure false := by rfl) (hw : swappedStores [tg] e X.env = pure none := by rfl)
    (h1 : (assignEach [tg] X.env).map (·.2) = [assign tg X.env] := by rfl) : PS X (.Assign [tg] e pos) (tAsg te g) := by
  intro pins s σ H D I h
  refine wpAny_Assign_stores (thn (he pins s σ H _ I h) fun v s1 ⟨x, H1, I1, r1, q1⟩ => ?_) hs hw
  rw [h1]
  exact thn (hg pins s1 σ H1 x v _ I1 r1 q1) fun _ s2 q => q
/-- name = value -/
theorem ps_set {i : Nat} {x : Str} {e : Expr} {te : TE} {pos' : Pos} (hN : X.N.Nodup) (hi : X.N[i]? = some x) (hx : Loc X.env.scope x) (he : PE X e te) (hs : swapsWith e (some (.Name x pos')) pos.line X.env = pure false := by rfl) (hf : X.fn x = true ∨ X.env.scope.names.lookup x = some .local := by first | exact .inl rfl | exact .inr rfl | assumption) :
    PS X (.Assign [.Name x pos'] e pos) (tAsg te (gName i)) := by
  intro pins s σ H D I h
  refine wpAny_Assign_Name (thn (he pins s σ H _ I h) fun v s1 ⟨y, H1, I1, r1, q1⟩ => ?_) hs
  exact store_ok I1 hN hi hx r1 (fun s2 I2 => ⟨_, H1, I2, q1⟩) hf
/-- a, b = x, y with plain local names: stored from the right; the pair itself is not tracked (the opening rows as in PyProof/Rows/TupAssign.lean:23) -/
def tPar (i j : Nat) (ta : TA) : TS := fun D σ H => ta σ H fun vs H1 => ∃ v w, vs = [v, w] ∧ D.nx ((σ.set i (some v)).set j (some w)) H1
/-- name op= e -/
def tAug (i : Nat) (te : TE) (ti : TIp) : TS := fun D σ H => ∃ x, σ[i]? = some (some x) ∧ te σ H fun y H1 => ti x y H1 fun z H2 => D.nx (σ.set i (some z)) H2
/-- o[i] op= e -/
def tAugS (to ti te : TE) (tget : V → V → Hp → VK → Prop) (tip : TIp) (tset : TSet) : TS := fun D σ H => to σ H fun o H1 => ti σ H1 fun i H2 => tget o i H2 fun x H3 => te σ H3 fun y H4 => tip x y H4 fun z H5 => tset o i z H5 fun H6 => D.nx σ H6
/-- o[i], by values -/
def PGet (X : Cx) (t : V → V → Hp → VK → Prop) : Prop :=
  ∀ (pins : List (Addr × Obj)) (s : Shared) (σ : St) (H : Hp) (o i : V) (ov iv : Value) (Q : VK), Inv X pins σ H s → RelV o ov → RelV i iv → t o i H Q →
    wpAny (model X.prog X.w) X.A (getItem ov iv) (EP X pins σ Q) X.xe s
/-- ints -/
def ipI (f : Int → Int → Int) : TIp := fun x y H Q => ∃ i j, x = .int i ∧ y = .int j ∧ Q (.int (f i j)) H
end

/-! ### while -/
section
variable {X : Cx} {pos : Pos}
/-- the invariant W with its measure -/
def tWhile (c : TT) (tb : TS) : TS := fun D σ H => ∃ W : Nat → St → Hp → Prop, (∃ m, W m σ H) ∧ ∀ m σ H, W m σ H →
  c σ H fun b H1 => if b = true then ∃ N : St → Hp → Prop, (∀ σ' H', N σ' H' → ∃ m', m' < m ∧ W m' σ' H') ∧ tb { D with nx := N, ct := N, bk := D.nx } σ H1 else D.nx σ H1
end

/-! ### what a loop or a comprehension walks -/
/-- at turn i: it yields x (the heap may grow), or it stops -/
structure It where
  go : Nat → Hp → Prop
  yld : Nat → Hp → V → Hp → Prop
  stop : Nat → Hp → Prop
/-- the iterator's own objects may turn: they are not the frame's, not pinned, younger than the entry (or a comprehension's own) -/
def FpOk (X : Cx) (pins : List (Addr × Obj)) (H : Hp) (b : Addr) : Prop :=
  H b = none ∧ b ≠ X.env.locals ∧ b ∉ X.fs ∧ (b ∈ X.ex ∨ X.s₀.heap.objs.size ≤ b) ∧ (∀ x c, X.env.cells.lookup x = some c → c ≠ b) ∧ ∀ p ∈ X.pn ++ pins, p.1 ≠ b
theorem Inv.fpOk {X : Cx} {pins : List (Addr × Obj)} {σ : St} {H H' : Hp} {s : Shared} {b : Addr} (I : Inv X pins σ H s) (hb : s.heap.objs.size ≤ b) (hn : H' b = none) : FpOk X pins H' b := by
  refine ⟨hn, Nat.ne_of_gt (Nat.lt_of_lt_of_le I.lt hb), I.nofs hb, .inr (Nat.le_trans I.sz hb), fun x c e z => ?_, fun p hp z => ?_⟩
  · obtain ⟨v, q⟩ := I.cell x c e
    exact absurd (Nat.lt_of_lt_of_le q.lt (by rw [z]; exact hb)) (Nat.lt_irrefl _)
  · exact absurd (Nat.lt_of_lt_of_le (Heap.lt_size (I.pin p hp).1) (by rw [z]; exact hb)) (Nat.lt_irrefl _)
structure Turn (P : Program) (w : World) (K : PySem.W.Frag) (tg : Expr) (J : It) (fp : List Addr) (it : Addr) (tn : Nat → Heap → Prop) : Prop where
  mem : it ∈ fp
  obj : ∀ i h, tn i h → ∀ b ∈ fp, ∃ o, h.get? b = some o ∧ ∀ v, o.data ≠ .cell v
  keep : ∀ i h h', tn i h → (∀ b ∈ fp, ∀ o, h.get? b = some o → h'.get? b = some o) → tn i h'
  item : ∀ (X : Cx), X.prog = P → X.w = w → X.K = K → X.calm = true → ∀ (i : Nat) (pins : List (Addr × Obj)) (s : Shared) (σ : St) (H : Hp) (E : Value → Shared → Prop), Inv X pins σ H s → (∀ b ∈ fp, FpOk X pins H b) → tn i s.heap → J.go i H →
    wpAny (model P w) X.A (pyNext (.ref it)) (fun r s1 => ∃ u, r = some u ∧
      wpAny (model P w) X.A (letOwnedTupleGo tg (.ref it) u) (fun _ s2 => ∃ x H', Inv X pins σ H' s2 ∧ RelV x u ∧ J.yld i H x H' ∧ tn (i + 1) s2.heap ∧ ∀ b ∈ fp, H' b = none) E s1) E s
  done : ∀ (X : Cx), X.prog = P → X.w = w → X.K = K → X.calm = true → ∀ (i : Nat) (pins : List (Addr × Obj)) (s : Shared) (σ : St) (H : Hp) (E : Value → Shared → Prop), Inv X pins σ H s → (∀ b ∈ fp, FpOk X pins H b) → tn i s.heap → J.stop i H →
    wpAny (model P w) X.A (pyNext (.ref it)) (fun r s1 => r = none ∧ Inv X pins σ H s1) E s
  self : ∀ (A : Around) (i : Nat) (s : Shared) (Q : Value → Shared → Prop) (E : Value → Shared → Prop), tn i s.heap → Q (.ref it) s → wpAny (model P w) A (pyIter (.ref it)) Q E s
abbrev TI := St → Hp → (It → Hp → Prop) → Prop
/-- an iterator has come -/
def PIE (X : Cx) (pins : List (Addr × Obj)) (σ : St) (tg : Expr) (R : It → Hp → Prop) (itv : Value) (s2 : Shared) : Prop :=
  ∃ (it : Addr) (fp : List Addr) (tn : Nat → Heap → Prop) (J : It) (H' : Hp), itv = .ref it ∧ Inv X pins σ H' s2 ∧ Turn X.prog X.w X.K tg J fp it tn ∧ tn 0 s2.heap ∧ (∀ b ∈ fp, FpOk X pins H' b) ∧ R J H'
def PI (X : Cx) (tg iter : Expr) (wi : TI) : Prop :=
  ∀ (pins : List (Addr × Obj)) (s : Shared) (σ : St) (H : Hp) (R : It → Hp → Prop), Inv X pins σ H s → wi σ H R →
    wpAny (model X.prog X.w) X.A (eval iter X.env) (fun v s1 => wpAny (model X.prog X.w) X.A (pyIter v) (PIE X pins σ tg R) X.xe s1) X.xe s

/-- the step ahead of the store is nothing for an iterator that keeps no tuple -/
theorem go_of {M : Model} {A : Around} {E : Value → Shared → Prop} {s : Shared} {tg : Expr} {it : Addr} {u : Value} {o : Obj} {n : String} {vs : Array Value} {Q : Unit → Shared → Prop} (ho : s.heap.get? it = some o) (hc : o.cls = .type n) (hd : o.data = .fields vs)
    (hn : ["enumerate", "zip", "dict_itemiterator", "dict_reverseitemiterator", "odict_iterator", "itertools.zip_longest", "itertools.pairwise"].contains n = false) (hQ : Q () s) : wpAny M A (letOwnedTupleGo tg (.ref it) u) Q E s := by
  unfold letOwnedTupleGo
  cases tg <;> first
    | exact wpAny_pure hQ
    | (cases u <;> first
        | exact wpAny_pure hQ
        | (refine wpAny_bind (wpAny_load ho ?_)
           rw [hc, hd]
           show wpAny M A (if (["enumerate", "zip", "dict_itemiterator", "dict_reverseitemiterator", "odict_iterator", "itertools.zip_longest", "itertools.pairwise"].contains n && vs[0]? == some (rawInt _)) = true then _ else _) Q E s
           rw [if_neg (by intro h; rw [hn, Bool.false_and] at h; cases h)]
           exact wpAny_pure hQ))

/-- the list at a, as it stands at each turn (a loop may append to it) -/
def Itl (K : PySem.W.Frag) (a : Addr) : It :=
  ⟨fun i H => ∃ xs x, SqL K H a xs ∧ xs[i]? = some x, fun i H x H' => H' = H ∧ ∀ xs, SqL K H a xs → xs[i]? = some x, fun i H => ∃ xs, SqL K H a xs ∧ xs.length ≤ i⟩
def Itt (K : PySem.W.Frag) (a : Addr) : It :=
  ⟨fun i H => ∃ xs x, SqT K H a xs ∧ xs[i]? = some x, fun i H x H' => H' = H ∧ ∀ xs, SqT K H a xs → xs[i]? = some x, fun i H => ∃ xs, SqT K H a xs ∧ xs.length ≤ i⟩
/-- lo, lo + 1, .. (n of them) -/
def Itr (lo : Int) (n : Nat) : It := ⟨fun i _ => i < n, fun i H x H' => H' = H ∧ x = .int (lo + i), fun i _ => n ≤ i⟩
theorem turn_list {P : Program} {w : World} {K : PySem.W.Frag} {tg : Expr} (a it : Addr) : Turn P w K tg (Itl K a) [it] it (fun i h => h.IsListIter it a i) where
  mem := by simp
  obj := fun i h st b hb => by
    have e : b = it := by simpa using hb
    subst e
    obtain ⟨o, e, c, d⟩ := st
    exact ⟨o, e, fun v z => by rw [d] at z; cases z⟩
  keep := fun i h h' st k => st.at fun o e => k it (by simp) o e
  item := by
    intro X hP hw hK hc i pins s σ H E I hf st hg
    subst hP hw hK
    obtain ⟨xs, x, hq, hx⟩ := hg
    obtain ⟨its, rv, p, hz⟩ := I.list hq
    obtain ⟨u, hu, ru⟩ := rv.get hx
    obtain ⟨f0, f1, f2, f3, f4, f5⟩ := hf it (by simp)
    refine wpAny_pyNext_list_item st p.isList (x := u) (by simpa using hu) fun h' st' sb => ?_
    have I1 : Inv X pins σ H { s with heap := h' } := I.turned (t' := s.toks) (fun b o hb e => (sb.2 b hb).trans e) f0 f1 f3 f4 f5
    obtain ⟨o, e, c, d⟩ := id st'
    exact ⟨u, rfl, go_of (s := { s with heap := h' }) e c d (by decide) ⟨x, H, I1, ru, ⟨rfl, fun ys hy => by rw [I.list_inj hy hq]; exact hx⟩, st', fun b hb => (hf b hb).1⟩⟩
  done := by
    intro X hP hw hK hc i pins s σ H E I hf st hg
    subst hP hw hK
    obtain ⟨xs, hq, hx⟩ := hg
    obtain ⟨its, rv, p, hz⟩ := I.list hq
    obtain ⟨f0, f1, f2, f3, f4, f5⟩ := hf it (by simp)
    have hl := rv.length
    exact wpAny_pyNext_list_end (I.ok.hd hc) st p.isList (by simp; omega) fun h' eb => ⟨rfl, I.turned (t' := s.toks) (fun b o hb e => eb b o hb e) f0 f1 f3 f4 f5⟩
  self := fun _ _ _ _ _ st h => wpAny_pyIter_listiter st h
theorem turn_tuple {P : Program} {w : World} {K : PySem.W.Frag} {tg : Expr} (a it : Addr) : Turn P w K tg (Itt K a) [it] it (fun i h => h.IsTupleIter it a i) where
  mem := by simp
  obj := fun i h st b hb => by
    have e : b = it := by simpa using hb
    subst e
    obtain ⟨o, e, c, d⟩ := st
    exact ⟨o, e, fun v z => by rw [d] at z; cases z⟩
  keep := fun i h h' st k => st.at fun o e => k it (by simp) o e
  item := by
    intro X hP hw hK hc i pins s σ H E I hf st hg
    subst hP hw hK
    obtain ⟨xs, x, hq, hx⟩ := hg
    obtain ⟨its, rv, p, hz⟩ := I.tuple hq
    obtain ⟨u, hu, ru⟩ := rv.get hx
    obtain ⟨f0, f1, f2, f3, f4, f5⟩ := hf it (by simp)
    refine wpAny_pyNext_tuple_item st (show s.heap.IsTuple a its.toArray from p) (x := u) (by simpa using hu) fun h' st' sb => ?_
    have I1 : Inv X pins σ H { s with heap := h' } := I.turned (t' := s.toks) (fun b o hb e => (sb.2 b hb).trans e) f0 f1 f3 f4 f5
    obtain ⟨o, e, c, d⟩ := id st'
    exact ⟨u, rfl, go_of (s := { s with heap := h' }) e c d (by decide) ⟨x, H, I1, ru, ⟨rfl, fun ys hy => by rw [I.tuple_inj hy hq]; exact hx⟩, st', fun b hb => (hf b hb).1⟩⟩
  done := by
    intro X hP hw hK hc i pins s σ H E I hf st hg
    subst hP hw hK
    obtain ⟨xs, hq, hx⟩ := hg
    obtain ⟨its, rv, p, hz⟩ := I.tuple hq
    obtain ⟨f0, f1, f2, f3, f4, f5⟩ := hf it (by simp)
    have hl := rv.length
    exact wpAny_pyNext_tuple_end (I.ok.hd hc) st (show s.heap.IsTuple a its.toArray from p) (by simp; omega) fun h' eb => ⟨rfl, I.turned (t' := s.toks) (fun b o hb e => eb b o hb e) f0 f1 f3 f4 f5⟩
  self := fun _ _ _ _ _ st h => wpAny_pyIter_tupleiter st h
theorem turn_range {P : Program} {w : World} {K : PySem.W.Frag} {tg : Expr} (it : Addr) (lo : Int) (n : Nat) : Turn P w K tg (Itr lo n) [it] it (fun i h => IsRangeIter h it (lo + (i : Nat) * 1) ((n : Int) - (i : Nat)) 1) where
  mem := by simp
  obj := fun i h st b hb => by
    have e : b = it := by simpa using hb
    subst e
    exact ⟨_, st, fun v z => by
      have z' : Data.fields _ = Data.cell v := z
      cases z'⟩
  keep := fun i h h' st k => k it (by simp) _ st
  item := by
    intro X hP hw hK hc i pins s σ H E I hf st hg
    subst hP hw hK
    obtain ⟨f0, f1, f2, f3, f4, f5⟩ := hf it (by simp)
    have W := Walks.range (prog := X.prog) (w := X.w) (I.ok.hd hc) it lo 1 n
    refine W.item i s _ _ hg st fun v h' tk hv st' kk => ?_
    obtain ⟨t, rfl⟩ := hv
    have I1 : Inv X pins σ H { s with heap := h', toks := tk } := I.turned (fun b o hb e => kk b o (by simpa using hb) e) f0 f1 f3 f4 f5
    refine ⟨_, rfl, go_of (s := { s with heap := h', toks := tk }) (n := "range_iterator") st' rfl rfl (by decide) ⟨.int (lo + i), H, I1, ⟨t, ?_⟩, ⟨rfl, rfl⟩, st', fun b hb => (hf b hb).1⟩⟩
    rw [Int.mul_one]
  done := by
    intro X hP hw hK hc i pins s σ H E I hf st hg
    subst hP hw hK
    obtain ⟨f0, f1, f2, f3, f4, f5⟩ := hf it (by simp)
    exact wpAny_pyNext_range_end (I.ok.hd hc) st (by have : n ≤ i := hg; omega) fun h' eb => ⟨rfl, I.turned (t' := s.toks) (fun b o hb e => eb b o hb e) f0 f1 f3 f4 f5⟩
  self := fun _ _ _ _ _ st h => wpAny_pyIter_rangeiter st h
end L2

namespace L2
open PySem PySem.Spec PyProof.Rows
section
variable {X : Cx} {tg : Expr}
def iList (K : PySem.W.Frag) (tl : TE) : TI := fun σ H R => tl σ H fun x H1 => ∃ a, x = .ref a ∧ (∃ xs, SqL K H1 a xs) ∧ R (Itl K a) H1
def iTup (K : PySem.W.Frag) (tl : TE) : TI := fun σ H R => tl σ H fun x H1 => ∃ a, x = .ref a ∧ (∃ xs, SqT K H1 a xs) ∧ R (Itt K a) H1
theorem pi_list {l : Expr} {tl : TE} (hl : PE X l tl) : PI X tg l (iList X.K tl) := by
  intro pins s σ H R I h
  refine thn (hl pins s σ H _ I h) fun v s1 ⟨x, H1, I1, r1, q1⟩ => ?_
  obtain ⟨a, e, ⟨xs, hq⟩, q⟩ := q1
  subst e
  cases r1
  obtain ⟨its, rv, p, hz⟩ := I1.list hq
  refine wpAny_pyIter_list p.isList ?_
  refine ⟨s1.heap.objs.size, [s1.heap.objs.size], _, _, H1, rfl, I1.kept (t' := s1.toks) fun b o e => Heap.get?_push_of_some _ e, turn_list a _, ⟨_, Heap.get?_push_size _ rfl, rfl, rfl⟩, fun b hb => ?_, q⟩
  have e : b = s1.heap.objs.size := by simpa using hb
  subst e
  exact I1.fpOk (Nat.le_refl _) (I1.hok.fresh (Nat.le_refl _))
theorem pi_tup {l : Expr} {tl : TE} (hl : PE X l tl) : PI X tg l (iTup X.K tl) := by
  intro pins s σ H R I h
  refine thn (hl pins s σ H _ I h) fun v s1 ⟨x, H1, I1, r1, q1⟩ => ?_
  obtain ⟨a, e, ⟨xs, hq⟩, q⟩ := q1
  subst e
  cases r1
  obtain ⟨its, rv, p, hz⟩ := I1.tuple hq
  refine wpAny_pyIter_tuple (show s1.heap.IsTuple a its.toArray from p) ?_
  refine ⟨s1.heap.objs.size, [s1.heap.objs.size], _, _, H1, rfl, I1.kept (t' := s1.toks) fun b o e => Heap.get?_push_of_some _ e, turn_tuple a _, ⟨_, Heap.get?_push_size _ rfl, rfl, rfl⟩, fun b hb => ?_, q⟩
  have e : b = s1.heap.objs.size := by simpa using hb
  subst e
  exact I1.fpOk (Nat.le_refl _) (I1.hok.fresh (Nat.le_refl _))
/-- a range object just made, walked -/
theorem range_it {pins : List (Addr × Obj)} {σ : St} {H : Hp} {s : Shared} {R : It → Hp → Prop} {E : Value → Shared → Prop} {lo hi : Int} {t u v : Tok} {tk : Nat} (I : Inv X pins σ H s) (h1 : -(2 ^ 62) ≤ lo) (h2 : lo < 2 ^ 62) (h3 : -(2 ^ 62) ≤ hi) (h4 : hi < 2 ^ 62)
    (q : R (Itr lo (hi - lo).toNat) H) : wpAny (model X.prog X.w) X.A (pyIter (.ref s.heap.objs.size)) (PIE X pins σ tg R) E { s with heap := s.heap.push { cls := .type "range", data := .fields #[.int lo t, .int hi u, .int 1 v] }, toks := tk } := by
  refine wpAny_pyIter_range (IsRange.new ..) (small_one h1 h2 h3 h4) ?_
  have I1 : Inv X pins σ H { s with heap := s.heap.push { cls := .type "range", data := .fields #[.int lo t, .int hi u, .int 1 v] }, toks := tk } := I.kept fun b o e => Heap.get?_push_of_some _ e
  refine ⟨(s.heap.push { cls := .type "range", data := .fields #[.int lo t, .int hi u, .int 1 v] }).objs.size, [(s.heap.push { cls := .type "range", data := .fields #[.int lo t, .int hi u, .int 1 v] }).objs.size], _, _, H, rfl,
    I1.kept (t' := tk) fun b o e => Heap.get?_push_of_some _ e, turn_range _ lo (hi - lo).toNat, ?_, fun b hb => ?_, q⟩
  · have e1 : lo + ((0 : Nat) : Int) * 1 = lo := by simp
    have e2 : (((hi - lo).toNat : Nat) : Int) - ((0 : Nat) : Int) = Builtin.Range.rangeSize lo hi 1 := by rw [rangeSize_one]; split <;> omega
    show IsRangeIter _ _ (lo + ((0 : Nat) : Int) * 1) ((((hi - lo).toNat : Nat) : Int) - ((0 : Nat) : Int)) 1
    rw [e1, e2]
    exact Heap.get?_push_size _ rfl
  · have e : b = (s.heap.push { cls := .type "range", data := .fields #[.int lo t, .int hi u, .int 1 v] }).objs.size := by simpa using hb
    subst e
    exact I1.fpOk (Nat.le_refl _) (I1.hok.fresh (Nat.le_refl _))
def iRng1 (ta : TA) : TI := fun σ H R => ta σ H fun vs H1 => ∃ j : Int, vs = [.int j] ∧ -(2 ^ 62) ≤ j ∧ j < 2 ^ 62 ∧ R (Itr 0 j.toNat) H1
def iRng2 (ta : TA) : TI := fun σ H R => ta σ H fun vs H1 => ∃ i j : Int, vs = [.int i, .int j] ∧ (-(2 ^ 62) ≤ i ∧ i < 2 ^ 62 ∧ -(2 ^ 62) ≤ j ∧ j < 2 ^ 62) ∧ R (Itr i (j - i).toNat) H1
theorem pi_range1 {a : Expr} {ta : TA} {p pos : Pos} (hg : Gl X "range") (hm : X.mg "range" = none) (ha : PA X [a] ta) (hs : starEach [a] X.env = [(false, eval a X.env)] := by rfl) : PI X tg (.Call (.Name "range" p) [a] [] pos) (iRng1 ta) := by
  intro pins s σ H R I h
  refine Call_ (ld_blt I hg hm boot_range (PyProof.Rows.callWith_type1 (thn (ha pos pins s σ H _ I h) fun us s1 ⟨vs, H1, I1, r1, q1⟩ => ?_) hs rfl))
  obtain ⟨j, e, q1, q2, q⟩ := q1
  subst e
  cases r1 with
  | cons r rr =>
    cases rr
    obtain ⟨t, rfl⟩ := r
    exact call_range_1 (range_it I1 (by omega) (by omega) q1 q2 (by simpa using q))
theorem pi_range2 {a b : Expr} {ta : TA} {p pos : Pos} (hg : Gl X "range") (hm : X.mg "range" = none) (ha : PA X [a, b] ta) (hs : starEach [a, b] X.env = [(false, eval a X.env), (false, eval b X.env)] := by rfl) (hs2 : starEach [b] X.env = [(false, eval b X.env)] := by rfl) :
    PI X tg (.Call (.Name "range" p) [a, b] [] pos) (iRng2 ta) := by
  intro pins s σ H R I h
  refine Call_ (ld_blt I hg hm boot_range (PyProof.Rows.callWith_type1 (thn (ha pos pins s σ H _ I h) fun us s1 ⟨vs, H1, I1, r1, q1⟩ => ?_) (by rw [hs, hs2]) (by rw [hs2]; rfl)))
  obtain ⟨i, j, e, ⟨q1, q2, q3, q4⟩, q⟩ := q1
  subst e
  cases r1 with
  | cons r rr =>
    cases rr with
    | cons r' rr =>
      cases rr
      obtain ⟨t, rfl⟩ := r
      obtain ⟨t', rfl⟩ := r'
      exact call_range_2 (range_it I1 q1 q2 q3 q4 q)

/-! ### for -/
/-- W: the invariant by the turn and a measure; N: what the body is to reach -/
def tFor (wi : TI) (g : TG) (tb : TS) : TS := fun D σ H => wi σ H fun J H1 => ∃ W : Nat → Nat → St → Hp → Prop, (∃ m, W 0 m σ H1) ∧ ∀ i m σ H, W i m σ H →
  (J.stop i H ∧ D.nx σ H) ∨ (J.go i H ∧ ∃ N : St → Hp → Prop, (∀ σ' H', N σ' H' → ∃ m', m' < m ∧ W (i + 1) m' σ' H') ∧ ∀ x H', J.yld i H x H' → g x σ H' fun σ2 H2 => tb { D with nx := N, ct := N, bk := D.nx } σ2 H2)
/-- the records at fp as they stand -/
def pinsAt (fp : List Addr) (h : Heap) : List (Addr × Obj) := fp.filterMap fun b => (h.get? b).map fun o => (b, o)
theorem mem_pinsAt {fp : List Addr} {h : Heap} {b : Addr} {o : Obj} (hb : b ∈ fp) (e : h.get? b = some o) : (b, o) ∈ pinsAt fp h := List.mem_filterMap.mpr ⟨b, hb, by rw [e]; rfl⟩
theorem of_pinsAt {fp : List Addr} {h : Heap} {p : Addr × Obj} (hp : p ∈ pinsAt fp h) : p.1 ∈ fp ∧ h.get? p.1 = some p.2 := by
  obtain ⟨b, hb, e⟩ := List.mem_filterMap.mp hp
  cases q : h.get? b with
  | none => rw [q] at e; cases e
  | some o =>
    rw [q] at e
    have e' : (b, o) = p := Option.some.inj e
    subst e'
    exact ⟨hb, q⟩
theorem Inv.pinned {pins : List (Addr × Obj)} {σ : St} {H : Hp} {s : Shared} {fp : List Addr} (I : Inv X pins σ H s) (hf : ∀ b ∈ fp, FpOk X pins H b) (ho : ∀ b ∈ fp, ∃ o, s.heap.get? b = some o ∧ ∀ v, o.data ≠ .cell v) : Inv X (pins ++ pinsAt fp s.heap) σ H s :=
  I.pins_of fun p hp => (List.mem_append.mp hp).elim (fun z => I.pin p (List.mem_append_right _ z)) fun z => by
    obtain ⟨hb, e⟩ := of_pinsAt z
    obtain ⟨f0, f1, f2, _⟩ := hf p.1 hb
    obtain ⟨o, e', d⟩ := ho p.1 hb
    rw [e] at e'; cases e'
    exact ⟨e, f0, f1, f2, d⟩
theorem Inv.unpinned {pins pl : List (Addr × Obj)} {σ : St} {H : Hp} {s : Shared} (I : Inv X (pins ++ pl) σ H s) : Inv X pins σ H s := I.pins_of fun p hp => I.pin p (List.mem_append_right _ (List.mem_append_left _ hp))
theorem ps_for {iter : Expr} {body : List Stmt} {wi : TI} {g : TG} {tb : TS} {pos : Pos} (hp : PassesOwn (model X.prog X.w) X.A X.env X.xe) (hc : X.calm = true) (hi : PI X tg iter wi) (hg : PG X tg g) (hb : PSs X body tb)
    (hs : ∀ x, foldedSetIterable iter X.env x = pure x := by intro _; rfl) : PS X (.For tg iter body [] pos) (tFor wi g tb) := by
  intro pins s σ H D I h
  refine wpAny_For (thn (hi pins s σ H _ I h) fun v s1 h1 => thn h1 fun itv s2 h2 => ?_) hs
  obtain ⟨it, fp, tn, J, H2, e, I2, T, st2, f2, W, ⟨m0, w0⟩, turn⟩ := h2
  subst e
  -- what stays true of the iterator's objects through the loop
  have stat : ∀ {H' : Hp}, (∀ b ∈ fp, H' b = none) → ∀ b ∈ fp, FpOk X pins H' b := fun hn b hb => ⟨hn b hb, (f2 b hb).2⟩
  refine codeAny_forLoop_any (fun n s' => ∃ i σ' H', Inv X pins σ' H' s' ∧ tn i s'.heap ∧ (∀ b ∈ fp, H' b = none) ∧ W i n σ' H') ?_ m0 ⟨0, σ, H2, I2, st2, fun b hb => (f2 b hb).1, w0⟩
  rintro n s3 ⟨i, σ3, H3, I3, st3, fr3, w3⟩
  rcases turn i n σ3 H3 w3 with ⟨stop, qn⟩ | ⟨go, N, hN, step⟩
  · refine wpAny_passesOwn hp (thn (T.done X rfl rfl rfl hc i pins s3 σ3 H3 X.xe I3 (stat fr3) st3 stop) fun r s4 ⟨hr, I4⟩ => ?_)
    subst hr
    exact wpAny_execs_nil ⟨σ3, H3, I4, qn⟩
  · refine wpAny_passesOwn hp (thn (T.item X rfl rfl rfl hc i pins s3 σ3 H3 X.xe I3 (stat fr3) st3 go) fun r s4 ⟨u, hr, h4⟩ => ?_)
    subst hr
    refine wpAny_passesOwn hp (thn h4 fun _ s5 ⟨x, H5, I5, r5, y5, st5, fr5⟩ => ?_)
    have I5' := I5.pinned (stat fr5) (T.obj _ _ st5)
    refine wpAny_passesOwn hp (thn (hg _ s5 σ3 H5 x u _ I5' r5 (step x H5 y5)) fun _ s6 ⟨σ6, H6, I6, q6⟩ => ?_)
    refine wpAny_passesOwn hp (thn (hb _ s6 σ6 H6 _ I6 q6) fun f s7 q7 => ?_)
    have again : ∀ {σ7 : St} {H7 : Hp}, Inv X (pins ++ pinsAt fp s5.heap) σ7 H7 s7 → N σ7 H7 → ∃ m, m < n ∧ ∃ i σ' H', Inv X pins σ' H' s7 ∧ tn i s7.heap ∧ (∀ b ∈ fp, H' b = none) ∧ W i m σ' H' := fun {σ7 H7} I7 n7 => by
      obtain ⟨m', hm, w7⟩ := hN σ7 H7 n7
      refine ⟨m', hm, i + 1, σ7, H7, I7.unpinned, T.keep _ _ _ st5 fun b hb o e => (I7.pin (b, o) (List.mem_append_right _ (List.mem_append_right _ (mem_pinsAt hb e)))).1, fun b hb => ?_, w7⟩
      obtain ⟨o, e, d⟩ := T.obj _ _ st5 b hb
      exact (I7.pin (b, o) (List.mem_append_right _ (List.mem_append_right _ (mem_pinsAt hb e)))).2.1
    cases f with
    | next => obtain ⟨σ7, H7, I7, n7⟩ := q7; exact again I7 n7
    | cont => obtain ⟨σ7, H7, I7, n7⟩ := q7; exact again I7 n7
    | brk => obtain ⟨σ7, H7, I7, q7⟩ := q7; exact ⟨σ7, H7, I7.unpinned, q7⟩
    | ret v => obtain ⟨x7, σ7, H7, I7, r7, q7⟩ := q7; exact ⟨x7, σ7, H7, I7.unpinned, r7, q7⟩
end

/-! ### the forms one uses -/
theorem for_range {lo : Int} {n : Nat} {g : TG} {tb : TS} {D : Ends} {σ : St} {H : Hp} (Pv : Nat → St → Hp → Prop) (h0 : Pv 0 σ H)
    (hs : ∀ i σ H, i < n → Pv i σ H → g (.int (lo + i)) σ H fun σ2 H2 => tb { D with nx := Pv (i + 1), ct := Pv (i + 1), bk := D.nx } σ2 H2) (hd : ∀ σ H, Pv n σ H → D.nx σ H) :
    ∃ W : Nat → Nat → St → Hp → Prop, (∃ m, W 0 m σ H) ∧ ∀ i m σ H, W i m σ H →
      ((Itr lo n).stop i H ∧ D.nx σ H) ∨ ((Itr lo n).go i H ∧ ∃ N : St → Hp → Prop, (∀ σ' H', N σ' H' → ∃ m', m' < m ∧ W (i + 1) m' σ' H') ∧ ∀ x H', (Itr lo n).yld i H x H' → g x σ H' fun σ2 H2 => tb { D with nx := N, ct := N, bk := D.nx } σ2 H2) := by
  refine ⟨fun i m σ H => m = n - i ∧ i ≤ n ∧ Pv i σ H, ⟨n, by simp, Nat.zero_le _, h0⟩, ?_⟩
  rintro i m σ H ⟨rfl, hi, p⟩
  by_cases hlt : i < n
  · refine .inr ⟨hlt, Pv (i + 1), fun σ' H' p' => ⟨n - (i + 1), by omega, rfl, hlt, p'⟩, fun x H' y => ?_⟩
    obtain ⟨e, y⟩ := y
    subst e y
    exact hs i σ _ hlt p
  · have e : i = n := by omega
    subst e
    exact .inl ⟨Nat.le_refl _, hd σ H p⟩
end L2

namespace L2
open PySem PySem.Spec PyProof.Rows

abbrev R2 := V → V → Hp → VK → Prop
/-- a two-place operation on values: f is binaryOp op, inplaceOp op or compareOp op -/
def OpR (X : Cx) (f : Value → Value → Sem Value) (r : R2) : Prop :=
  ∀ (pins : List (Addr × Obj)) (s : Shared) (σ : St) (H : Hp) (x y : V) (v u : Value) (Q : VK), Inv X pins σ H s → RelV x v → RelV y u → r x y H Q →
    wpAny (model X.prog X.w) X.A (f v u) (EP X pins σ Q) X.xe s
/-- a one-place operation -/
def UnR (X : Cx) (f : Value → Sem Value) (r : V → Hp → VK → Prop) : Prop :=
  ∀ (pins : List (Addr × Obj)) (s : Shared) (σ : St) (H : Hp) (x : V) (v : Value) (Q : VK), Inv X pins σ H s → RelV x v → r x H Q →
    wpAny (model X.prog X.w) X.A (f v) (EP X pins σ Q) X.xe s
/-- a call of a value that is known (a builtin, a type) with values -/
def CallR (X : Cx) (f : Value) (r : List V → Hp → VK → Prop) : Prop :=
  ∀ (pins : List (Addr × Obj)) (s : Shared) (σ : St) (H : Hp) (xs : List V) (us : List Value) (Q : VK), Inv X pins σ H s → Vals xs us → r xs H Q →
    wpAny (model X.prog X.w) X.A (call f us) (EP X pins σ Q) X.xe s
/-- a value's truth -/
def TruR (X : Cx) (r : V → Hp → (Bool → Hp → Prop) → Prop) : Prop :=
  ∀ (pins : List (Addr × Obj)) (s : Shared) (σ : St) (H : Hp) (x : V) (v : Value) (Q : Bool → Hp → Prop), Inv X pins σ H s → RelV x v → r x H Q →
    wpAny (model X.prog X.w) X.A (truthy v) (TP X pins σ Q) X.xe s

def tOp (r : R2) (ta tb : TE) : TE := fun σ H Q => ta σ H fun x H1 => tb σ H1 fun y H2 => r x y H2 Q
def tUn (r : V → Hp → VK → Prop) (ta : TE) : TE := fun σ H Q => ta σ H fun x H1 => r x H1 Q
/-- ints in, under C, and a value out -/
def rI (C : Int → Int → Prop) (g : Int → Int → V) : R2 := fun x y H Q => ∃ i j, x = .int i ∧ y = .int j ∧ C i j ∧ Q (g i j) H
def rI0 (g : Int → Int → V) : R2 := fun x y H Q => ∃ i j, x = .int i ∧ y = .int j ∧ Q (g i j) H
def rU (g : Int → V) : V → Hp → VK → Prop := fun x H Q => ∃ i, x = .int i ∧ Q (g i) H

section
variable {X : Cx} {a b c : Expr} {ta tb tc : TE} {pos : Pos}

theorem binT (ha : PE X a ta) (hb : PE X b tb) {pins : List (Addr × Obj)} {s : Shared} {σ : St} {H : Hp} {R : V → V → Hp → Prop} (I : Inv X pins σ H s)
    (h : ta σ H fun x H1 => tb σ H1 fun y H2 => R x y H2) {Q : Value → Shared → Prop} {f : Value → Value → Sem Value}
    (hf : ∀ v u s2 x y H2, Inv X pins σ H2 s2 → RelV x v → RelV y u → R x y H2 → wpAny (model X.prog X.w) X.A (f v u) Q X.xe s2) :
    wpAny (model X.prog X.w) X.A (eval a X.env) (fun v s₁ => wpAny (model X.prog X.w) X.A (eval b X.env) (fun u s₂ => wpAny (model X.prog X.w) X.A (f v u) Q X.xe s₂) X.xe s₁) X.xe s := by
  refine thn (ha pins s σ H _ I h) fun v s1 ⟨x, H1, I1, r1, q1⟩ => ?_
  refine thn (hb pins s1 σ H1 _ I1 q1) fun u s2 ⟨y, H2, I2, r2, q2⟩ => ?_
  exact hf v u s2 x y H2 I2 r1 r2 q2

theorem pe_op {op : Operator} {r : R2} (ho : OpR X (binaryOp op) r) (ha : PE X a ta) (hb : PE X b tb) : PE X (.BinOp a op b pos) (tOp r ta tb) := by
  intro pins s σ H Q I h
  exact wpAny_BinOp (binT ha hb I h fun v u s2 x y H2 I2 rx ry q => ho pins s2 σ H2 x y v u Q I2 rx ry q)
/-! ### ints -/
theorem opI {f : Value → Value → Sem Value} {C : Int → Int → Prop} {g : Int → Int → Int}
    (rule : ∀ (i j : Int) (t u : Tok) (s : Shared) (Q : Value → Shared → Prop) (E : Value → Shared → Prop), C i j → Q (.int (g i j) s.toks) { s with toks := s.toks + 1 } → wpAny (model X.prog X.w) X.A (f (.int i t) (.int j u)) Q E s) :
    OpR X f (rI C fun i j => .int (g i j)) := by
  intro pins s σ H x y v u Q I rx ry h
  obtain ⟨i, j, rfl, rfl, hc, q⟩ := h
  obtain ⟨t, rfl⟩ := rx
  obtain ⟨t', rfl⟩ := ry
  exact rule i j t t' s _ _ hc ⟨.int (g i j), H, I.tok _, ⟨_, rfl⟩, q⟩
theorem opI0 {f : Value → Value → Sem Value} {g : Int → Int → Int}
    (rule : ∀ (i j : Int) (t u : Tok) (s : Shared) (Q : Value → Shared → Prop) (E : Value → Shared → Prop), Q (.int (g i j) s.toks) { s with toks := s.toks + 1 } → wpAny (model X.prog X.w) X.A (f (.int i t) (.int j u)) Q E s) :
    OpR X f (rI0 fun i j => .int (g i j)) := by
  intro pins s σ H x y v u Q I rx ry h
  obtain ⟨i, j, rfl, rfl, q⟩ := h
  obtain ⟨t, rfl⟩ := rx
  obtain ⟨t', rfl⟩ := ry
  exact rule i j t t' s _ _ ⟨.int (g i j), H, I.tok _, ⟨_, rfl⟩, q⟩
theorem opB0 {f : Value → Value → Sem Value} {g : Int → Int → Bool}
    (rule : ∀ (i j : Int) (t u : Tok) (s : Shared) (Q : Value → Shared → Prop) (E : Value → Shared → Prop), Q (.bool (g i j)) s → wpAny (model X.prog X.w) X.A (f (.int i t) (.int j u)) Q E s) :
    OpR X f (rI0 fun i j => .bl (g i j)) := by
  intro pins s σ H x y v u Q I rx ry h
  obtain ⟨i, j, rfl, rfl, q⟩ := h
  obtain ⟨t, rfl⟩ := rx
  obtain ⟨t', rfl⟩ := ry
  exact rule i j t t' s _ _ ⟨.bl (g i j), H, I, rfl, q⟩

def CDiv (i j : Int) : Prop := 0 < j ∧ j < 1073741824
def CDivN (i j : Int) : Prop := j ≠ 0 ∧ j.natAbs < 1073741824
def CPow (i j : Int) : Prop := 0 ≤ j ∧ j ≤ 1000000 ∧ i.natAbs < 2 ^ 64
def CMul (i j : Int) : Prop := (-(2 ^ 64) < i ∧ i < 2 ^ 64) ∨ (-(2 ^ 64) < j ∧ j < 2 ^ 64)
theorem CMul.ok {i j : Int} (h : CMul i j) : IntMulOk i j := by
  rcases h with ⟨h1, h2⟩ | ⟨h1, h2⟩
  · exact .of_left (intBits_le_64 h1 h2)
  · exact .of_right (intBits_le_64 h1 h2)
theorem op_add : OpR X (binaryOp .Add) (rI0 fun i j => .int (i + j)) := opI0 fun _ _ _ _ _ _ _ q => add_int q
theorem op_sub : OpR X (binaryOp .Sub) (rI0 fun i j => .int (i - j)) := opI0 fun _ _ _ _ _ _ _ q => sub_int q
theorem op_mul : OpR X (binaryOp .Mult) (rI CMul fun i j => .int (i * j)) := opI fun _ _ _ _ _ _ _ hc q => mul_int q hc.ok
/-- // by a positive divisor -/
theorem op_fdiv : OpR X (binaryOp .FloorDiv) (rI CDiv fun i j => .int (i / j)) := opI fun i j _ _ _ _ _ hc q => by
  have h1 : (0 : Int) < j := hc.1
  have h2 : j < 1073741824 := hc.2
  exact floordiv_int (by omega) (by rw [Int.fdiv_eq_ediv_of_nonneg i (by omega)]; exact q) (.inl (PyProof.noPylong_small (by omega)))
/-- % by a positive divisor of any size -/
theorem op_mod : OpR X (binaryOp .Mod) (rI (fun _ j => 0 < j) fun i j => .int (i % j)) := opI fun i j _ _ _ _ _ hc q => by
  have h1 : (0 : Int) < j := hc
  exact mod_int' (by omega) (by rw [Int.fmod_eq_emod_of_nonneg i (by omega)]; exact q)
theorem op_pow : OpR X (binaryOp .Pow) (rI CPow fun i j => .int (i ^ j.toNat)) := opI fun _ _ _ _ _ _ _ hc q => pow_int_small hc.1 hc.2.1 hc.2.2 q
/-! ### bools among ints: n += (a < b) -/
end

/-! ### comparisons -/
/-- the scalars that == tells apart as data does -/
def scal : V → V → Bool
  | .non, .non => true | .non, .int _ => true | .int _, .non => true | .non, .bl _ => true | .bl _, .non => true | .non, .str _ => true | .str _, .non => true
  | .int _, .int _ => true | .bl _, .bl _ => true | .str _, .str _ => true | .byt _, .byt _ => true
  | .int _, .str _ => true | .str _, .int _ => true | .bl _, .str _ => true | .str _, .bl _ => true
  | _, _ => false
def rEq : R2 := fun x y H Q => scal x y = true ∧ Q (.bl (decide (x = y))) H
def rNe : R2 := fun x y H Q => scal x y = true ∧ Q (.bl (!decide (x = y))) H

theorem dec_int {i j : Int} : decide (V.int i = V.int j) = (i == j) := by
  rw [Bool.eq_iff_iff]
  simp
theorem dec_bl {i j : Bool} : decide (V.bl i = V.bl j) = (i == j) := by
  rw [Bool.eq_iff_iff]
  simp
theorem dec_str {i j : Str} : decide (V.str i = V.str j) = (i == j) := by
  rw [Bool.eq_iff_iff]
  simp
theorem dec_byt {i j : Array UInt8} : decide (V.byt i = V.byt j) = (i.toList == j.toList) := by
  rw [Bool.eq_iff_iff]
  cases i
  cases j
  simp

section
variable {X : Cx} {a b c : Expr} {ta tb tc : TE} {pos : Pos}
theorem fin_bl {pins : List (Addr × Obj)} {σ : St} {H : Hp} {s : Shared} {Q : VK} {k k' : Bool} (I : Inv X pins σ H s) (q : Q (.bl k) H) (e : k = k') : EP X pins σ Q (.bool k') s := by
  subst e
  exact ⟨.bl k, H, I, rfl, q⟩
theorem op_eq : OpR X (compareOp .Eq) rEq := by
  intro pins s σ H x y v u Q I rx ry h
  obtain ⟨hs, q⟩ := h
  cases x with
  | non =>
    cases rx
    cases y with
    | non => cases ry; exact PySem.EqNone.eq_none_none (fin_bl I q (by simp))
    | bl j => cases ry; exact PySem.EqNone.eq_none_bool (fin_bl I q (by simp))
    | int j => obtain ⟨t', rfl⟩ := ry; exact PySem.EqNone.eq_none_int (fin_bl I q (by simp))
    | str j => obtain ⟨t', rfl⟩ := ry; exact PySem.EqNone.eq_none_str (fin_bl I q (by simp))
    | _ => exact absurd (show false = true from hs) Bool.false_ne_true
  | bl i =>
    cases rx
    cases y with
    | non => cases ry; exact PySem.EqNone.eq_bool_none (fin_bl I q (by simp))
    | bl j => cases ry; exact eq_bool (fin_bl I q dec_bl)
    | str j => obtain ⟨t', rfl⟩ := ry; exact PySem.EqMixed.eq_bool_str (fin_bl I q (by simp))
    | _ => exact absurd (show false = true from hs) Bool.false_ne_true
  | int i =>
    obtain ⟨t, rfl⟩ := rx
    cases y with
    | non => cases ry; exact PySem.EqNone.eq_int_none (fin_bl I q (by simp))
    | int j => obtain ⟨t', rfl⟩ := ry; exact eq_int (fin_bl I q dec_int)
    | str j => obtain ⟨t', rfl⟩ := ry; exact PySem.EqMixed.eq_int_str (fin_bl I q (by simp))
    | _ => exact absurd (show false = true from hs) Bool.false_ne_true
  | str i =>
    obtain ⟨t, rfl⟩ := rx
    cases y with
    | non => cases ry; exact PySem.EqNone.eq_str_none (fin_bl I q (by simp))
    | bl j => cases ry; exact PySem.EqMixed.eq_str_bool (fin_bl I q (by simp))
    | int j => obtain ⟨t', rfl⟩ := ry; exact PySem.EqMixed.eq_str_int (fin_bl I q (by simp))
    | str j => obtain ⟨t', rfl⟩ := ry; exact eq_str (fin_bl I q dec_str)
    | _ => exact absurd (show false = true from hs) Bool.false_ne_true
  | byt i =>
    obtain ⟨t, rfl⟩ := rx
    cases y with
    | byt j => obtain ⟨t', rfl⟩ := ry; exact PySem.W.eq_bytes (fin_bl I q dec_byt)
    | _ => exact absurd (show false = true from hs) Bool.false_ne_true
  | _ => cases y <;> exact absurd (show false = true from hs) Bool.false_ne_true
theorem op_ne : OpR X (compareOp .NotEq) rNe := by
  intro pins s σ H x y v u Q I rx ry h
  obtain ⟨hs, q⟩ := h
  cases x with
  | non =>
    cases rx
    cases y with
    | non => cases ry; exact PySem.EqNone.ne_none_none (fin_bl I q (by simp))
    | bl j => cases ry; exact PySem.EqNone.ne_none_bool (fin_bl I q (by simp))
    | int j => obtain ⟨t', rfl⟩ := ry; exact PySem.EqNone.ne_none_int (fin_bl I q (by simp))
    | str j => obtain ⟨t', rfl⟩ := ry; exact PySem.EqNone.ne_none_str (fin_bl I q (by simp))
    | _ => exact absurd (show false = true from hs) Bool.false_ne_true
  | bl i =>
    cases rx
    cases y with
    | non => cases ry; exact PySem.EqNone.ne_bool_none (fin_bl I q (by simp))
    | bl j => cases ry; exact ne_bool (fin_bl I q (congrArg not dec_bl))
    | str j => obtain ⟨t', rfl⟩ := ry; exact PySem.EqMixed.ne_bool_str (fin_bl I q (by simp))
    | _ => exact absurd (show false = true from hs) Bool.false_ne_true
  | int i =>
    obtain ⟨t, rfl⟩ := rx
    cases y with
    | non => cases ry; exact PySem.EqNone.ne_int_none (fin_bl I q (by simp))
    | int j => obtain ⟨t', rfl⟩ := ry; exact ne_int (fin_bl I q (congrArg not dec_int))
    | str j => obtain ⟨t', rfl⟩ := ry; exact PySem.EqMixed.ne_int_str (fin_bl I q (by simp))
    | _ => exact absurd (show false = true from hs) Bool.false_ne_true
  | str i =>
    obtain ⟨t, rfl⟩ := rx
    cases y with
    | non => cases ry; exact PySem.EqNone.ne_str_none (fin_bl I q (by simp))
    | bl j => cases ry; exact PySem.EqMixed.ne_str_bool (fin_bl I q (by simp))
    | int j => obtain ⟨t', rfl⟩ := ry; exact PySem.EqMixed.ne_str_int (fin_bl I q (by simp))
    | str j => obtain ⟨t', rfl⟩ := ry; exact ne_str (fin_bl I q (congrArg not dec_str))
    | _ => exact absurd (show false = true from hs) Bool.false_ne_true
  | byt i =>
    obtain ⟨t, rfl⟩ := rx
    cases y with
    | byt j => obtain ⟨t', rfl⟩ := ry; exact PySem.W.ne_bytes (fin_bl I q (congrArg not dec_byt))
    | _ => exact absurd (show false = true from hs) Bool.false_ne_true
  | _ => cases y <;> exact absurd (show false = true from hs) Bool.false_ne_true

theorem op_lt : OpR X (compareOp .Lt) (rI0 fun i j => .bl (decide (i < j))) := opB0 fun _ _ _ _ _ _ _ q => lt_int q
theorem op_le : OpR X (compareOp .LtE) (rI0 fun i j => .bl (decide (i ≤ j))) := opB0 fun _ _ _ _ _ _ _ q => le_int q
theorem op_gt : OpR X (compareOp .Gt) (rI0 fun i j => .bl (decide (j < i))) := opB0 fun _ _ _ _ _ _ _ q => gt_int q
theorem op_ge : OpR X (compareOp .GtE) (rI0 fun i j => .bl (decide (j ≤ i))) := opB0 fun _ _ _ _ _ _ _ q => ge_int q
theorem op_notN : OpR X (compareOp .IsNot) (fun x y H Q => y = .non ∧ Q (.bl (!decide (x = .non))) H) := by
  intro pins s σ H x y v u Q I rx ry h
  obtain ⟨rfl, q⟩ := h
  cases ry
  refine isnot_none_gen (fin_bl I q ?_)
  cases x <;> first
    | (cases rx; rfl)
    | (obtain ⟨t, rfl⟩ := rx; rfl)

theorem op_notin_str : OpR X (compareOp .NotIn) (fun x y H Q => ∃ i j, x = .str i ∧ y = .str j ∧ Q (.bl (!(!(Builtin.Str.occurrences j i 0 j.length 1).isEmpty))) H) := by
  intro pins s σ H x y v u Q I rx ry h
  obtain ⟨i, j, rfl, rfl, q⟩ := h
  obtain ⟨t, rfl⟩ := rx
  obtain ⟨t', rfl⟩ := ry
  exact notIn_str (fin_bl I q rfl)
/-- is, is not of two objects that are tracked lists or instances -/
def isObj : HO → Bool
  | .lst _ => true
  | .ins _ _ _ => true
  | _ => false
/-- two rules for one operation: by cases -/
theorem OpR.or {f : Value → Value → Sem Value} {r r' : R2} (h : OpR X f r) (h' : OpR X f r') : OpR X f (fun x y H Q => r x y H Q ∨ r' x y H Q) := by
  intro pins s σ H x y v u Q I rx ry q
  rcases q with q | q
  · exact h pins s σ H x y v u Q I rx ry q
  · exact h' pins s σ H x y v u Q I rx ry q

theorem nomark (b : Expr) {op : CmpOp} (h : op ≠ .In := by decide) (h2 : op ≠ .NotIn := by decide) : behindInMarks op b = false := by
  have e1 : (op == CmpOp.In) = false := by cases op <;> first | rfl | exact absurd rfl h
  have e2 : (op == CmpOp.NotIn) = false := by cases op <;> first | rfl | exact absurd rfl h2
  cases b <;> simp [behindInMarks, e1, e2]
/-- a comparison as a value; hm: nomark b, or (for in, not in) by with_unfolding_all rfl -/
theorem pe_cmpR {op : CmpOp} {r : R2} (ho : OpR X (compareOp op) r) (ha : PE X a ta) (hb : PE X b tb) (hm : behindInMarks op b = false) : PE X (.Compare a [op] [b] pos) (tOp r ta tb) := by
  intro pins s σ H Q I h
  exact wpAny_Compare1 (binT ha hb I h fun v u s2 x y H2 I2 rx ry q => ho pins s2 σ H2 x y v u Q I2 rx ry q) hm
/-- a reading of a value as a test -/
def tTest (t : TE) : TT := fun σ H Q => t σ H fun x H' => ∃ k, x = .bl k ∧ Q k H'
theorem pt_cmpR {op : CmpOp} {r : R2} (ho : OpR X (compareOp op) r) (ha : PE X a ta) (hb : PE X b tb) (hm : behindInMarks op b = false) : PT X (.Compare a [op] [b] pos) (tTest (tOp r ta tb)) := by
  intro pins s σ H Q I h
  refine wpAny_isTrue_Compare1 (thn (ha pins s σ H _ I h) fun v s1 ⟨x, H1, I1, r1, q1⟩ => thn (hb pins s1 σ H1 _ I1 q1) fun u s2 ⟨y, H2, I2, r2, q2⟩ =>
    thn (ho pins s2 σ H2 x y v u _ I2 r1 r2 q2) fun c s3 ⟨z, H3, I3, r3, k, e, q3⟩ => ?_) hm
  subst e
  cases r3
  exact wpAny_truthy_bool ⟨H3, I3, q3⟩
/-- a op1 b op2 c -/
def tChain (r r' : R2) (ta tb tc : TE) : TE := fun σ H Q => ta σ H fun x H1 => tb σ H1 fun y H2 => r x y H2 fun z H3 => ∃ k, z = .bl k ∧
  (if k = true then tc σ H3 fun w' H4 => r' y w' H4 Q else Q (.bl false) H3)
theorem pe_chain {op op' : CmpOp} {r r' : R2} (ho : OpR X (compareOp op) r) (ho' : OpR X (compareOp op') r') (ha : PE X a ta) (hb : PE X b tb) (hc : PE X c tc)
    (hm : lastMarks [op, op'] [b, c] = false := by with_unfolding_all rfl) : PE X (.Compare a [op, op'] [b, c] pos) (tChain r r' ta tb tc) := by
  intro pins s σ H Q I h
  refine Compare_chain (thn (ha pins s σ H _ I h) fun v s1 ⟨x, H1, I1, r1, q1⟩ => chain_link (thn (hb pins s1 σ H1 _ I1 q1) fun u s2 ⟨y, H2, I2, r2, q2⟩ =>
    thn (ho pins s2 σ H2 x y v u _ I2 r1 r2 q2) fun d s3 ⟨z, H3, I3, r3, k, e, q3⟩ => ?_)) hm
  subst e
  cases r3
  refine wpAny_truthy_bool ?_
  cases k with
  | false => exact ite_ff ⟨.bl false, H3, I3, rfl, q3⟩
  | true => exact ite_tt (chain_last (thn (hc pins s3 σ H3 _ I3 q3) fun w' s4 ⟨z', H4, I4, r4, q4⟩ => ho' pins s4 σ H4 y z' u w' Q I4 r2 r4 q4))
theorem pt_chain {op op' : CmpOp} {r r' : R2} (ho : OpR X (compareOp op) r) (ho' : OpR X (compareOp op') r') (ha : PE X a ta) (hb : PE X b tb) (hc : PE X c tc)
    (hm : lastMarks [op, op'] [b, c] = false := by with_unfolding_all rfl) : PT X (.Compare a [op, op'] [b, c] pos) (tTest (tChain r r' ta tb tc)) := by
  intro pins s σ H Q I h
  refine isTrue_chain (thn (ha pins s σ H _ I h) fun v s1 ⟨x, H1, I1, r1, q1⟩ => test_link (thn (hb pins s1 σ H1 _ I1 q1) fun u s2 ⟨y, H2, I2, r2, q2⟩ =>
    thn (ho pins s2 σ H2 x y v u _ I2 r1 r2 q2) fun d s3 ⟨z, H3, I3, r3, k, e, q3⟩ => ?_)) hm
  subst e
  cases r3
  refine wpAny_truthy_bool ?_
  cases k with
  | false =>
    obtain ⟨k', e', q'⟩ := q3
    cases e'
    exact ite_ff ⟨H3, I3, q'⟩
  | true =>
    refine ite_tt (test_last (thn (hc pins s3 σ H3 _ I3 q3) fun w' s4 ⟨z', H4, I4, r4, q4⟩ => thn (ho' pins s4 σ H4 y z' u w' _ I4 r2 r4 q4) fun d' s5 ⟨z2, H5, I5, r5, k2, e2, q5⟩ => ?_))
    subst e2
    cases r5
    exact wpAny_truthy_bool ⟨H5, I5, q5⟩

/-! ### truth -/
/-- a value's truth by the abstract heap -/
def TruV (K : PySem.W.Frag) (x : V) (H : Hp) (k : Bool) : Prop :=
  match x with
  | .non => k = false
  | .bl b => k = b
  | .int i => k = (i != 0)
  | .str y => y.length ≤ sizeLine ∧ k = ((y.length : Int) != 0)
  | .byt y => y.size ≤ sizeLine ∧ k = ((y.size : Int) != 0)
  | .ref p => (∃ xs, SqL K H p xs ∧ k = !xs.isEmpty) ∨ (∃ xs, SqT K H p xs ∧ k = !xs.isEmpty) ∨ ∃ kvs, H p = some (.dK kvs) ∧ k = !kvs.isEmpty
  | _ => False
theorem line63 : (sizeLine : Nat) < 2 ^ 63 := by rw [sizeLine_eq]; decide
/-! ### strs and bytes -/
theorem op_add_str : OpR X (binaryOp .Add) (fun x y H Q => ∃ i j, x = .str i ∧ y = .str j ∧ i.length + j.length ≤ sizeLine ∧ Q (.str (i ++ j)) H) := by
  intro pins s σ H x y v u Q I rx ry h
  obtain ⟨i, j, rfl, rfl, hz, q⟩ := h
  obtain ⟨t, rfl⟩ := rx
  obtain ⟨t', rfl⟩ := ry
  exact add_str (fun t' tk => ⟨.str (i ++ j), H, I.tok _, ⟨_, rfl⟩, q⟩) hz
def PlainIxT (b : Expr) : Prop := ∀ o i, subscripted b false o i = operate [o, i] (getItem o i)
/-! ### scalar builtins, by CallR -/
theorem vals1 {x : V} {us : List Value} (r : Vals [x] us) : ∃ u, us = [u] ∧ RelV x u := by
  cases r with
  | cons r1 r2 => cases r2; exact ⟨_, rfl, r1⟩
theorem vals2 {x y : V} {us : List Value} (r : Vals [x, y] us) : ∃ u w', us = [u, w'] ∧ RelV x u ∧ RelV y w' := by
  cases r with
  | cons r1 r2 =>
    cases r2 with
    | cons r3 r4 => cases r4; exact ⟨_, _, rfl, r1, r3⟩
theorem call_min2 (hc : X.calm = true) : CallR X (.builtin "min") (fun xs H Q => ∃ i j, xs = [.int i, .int j] ∧ Q (.int (if j < i then j else i)) H) := by
  intro pins s σ H xs us Q I r h
  obtain ⟨i, j, rfl, q⟩ := h
  obtain ⟨u, w', rfl, ⟨t, rfl⟩, ⟨t', rfl⟩⟩ := vals2 r
  refine min_two_ints (I.ok.hd hc) fun h' tk k => ⟨_, H, I.kept k, ?_, q⟩
  by_cases hj : j < i
  · rw [if_pos hj, if_pos hj]; exact ⟨_, rfl⟩
  · rw [if_neg hj, if_neg hj]; exact ⟨_, rfl⟩
/-- len of a str, a bytes, a list, a tuple -/
def LenV (K : PySem.W.Frag) (x : V) (H : Hp) (n : Nat) : Prop :=
  match x with
  | .str y => y.length ≤ sizeLine ∧ n = y.length
  | .byt y => y.size ≤ sizeLine ∧ n = y.size
  | .ref p => (∃ xs, SqL K H p xs ∧ n = xs.length) ∨ ∃ xs, SqT K H p xs ∧ n = xs.length
  | _ => False
end
end L2

namespace L2
open PySem PySem.Spec PyProof.Rows

/-! ### an instance, its attributes a map -/
structure ObjM (h : Heap) (x dx C : Addr) (mA : Str → Option Value) : Prop where
  obj : h.get? x = some (PySem.W.instObj C dx)
  ns : h.Ns1 dx mA
  ne : dx ≠ x

theorem lookIn_ns {h : Heap} {dx : Addr} {mA : Str → Option Value} (n : h.Ns1 dx mA) : ∃ od, h.get? dx = some od ∧ ∀ name, PySem.W.lookIn name od = some (mA name) := by
  obtain ⟨o, es, ep, ho, hd, hk, _, hm⟩ := n
  refine ⟨o, ho, fun name => ?_⟩
  have e := hm name
  unfold nsFind findBy at e
  rw [← Array.find?_toList] at e
  unfold PySem.W.lookIn
  rw [hd]
  dsimp only
  split
  · rename_i y q
    rw [q] at e
    exact congrArg some e
  · rename_i q
    rw [q] at e
    have a : es.toList.any (·.refKey) = false := by
      rw [List.any_eq_false]
      intro y hy
      obtain ⟨z, t, hkey⟩ := hk y (Array.mem_toList_iff.mp hy)
      simp [DictEntry.refKey, hkey]
    have a' : ¬ es.toList.any (·.refKey) = true := by rw [a]; exact Bool.false_ne_true
    rw [if_neg a']
    exact congrArg some e

theorem ObjM.look {h : Heap} {x dx C : Addr} {mA : Str → Option Value} (I : ObjM h x dx C mA) : ∃ od, PySem.W.InstAt h x (PySem.W.instObj C dx) C (some od) ∧ ∀ name, PySem.W.lookIn name od = some (mA name) :=
  let ⟨od, ho, hl⟩ := lookIn_ns I.ns
  ⟨od, ⟨I.obj, rfl, rfl, ho⟩, hl⟩

section
variable {prog : Program} {w : World} {A : Around} {E : Value → Shared → Prop} {s : Shared} {K : PySem.W.Frag} {x dx C f : Addr} {mA : Str → Option Value} {name : Str} {v : Value}

end

/-! ### the attributes as a list of pairs -/
def putF (f : Str) (v : V) : List (Str × V) → List (Str × V)
  | [] => [(f, v)]
  | (g, x) :: r => if g = f then (g, v) :: r else (g, x) :: putF f v r
section
variable {P : Program} {w : World} {H H' : Hp} {h h' : Heap} {a C dx : Addr} {fs fs' : List (Str × V)}
theorem ins_get (hok : HOk P w H h) (e : H a = some (.ins C dx fs)) : ∃ mA, ObjM h a dx C mA ∧ (∀ f, RelO (fs.lookup f) (mA f)) ∧ PySem.Within mA (fs.map (·.1)) ∧ fs.length ≤ 1000 ∧ H dx = some (.own a) := by
  obtain ⟨d, z, ne, ob, mA, n, r, q⟩ := (show ObjOk P w H h a (.ins C dx fs) from hok a _ e)
  exact ⟨mA, ⟨ob, n, ne⟩, r, q, z, d⟩
end

/-! ### what of the text a class must have -/
structure Cls (K : PySem.W.Frag) (C : Addr) : Prop where
  pg : PySem.W.plainGet K C Str.empty = true
  hd : PySem.W.hasDictIn K C = true
  po : PySem.W.plainOver K C = true
  sa : PySem.W.findIn K (.ref C) "__setattr__" = some (some (.builtin "object.__setattr__"))
theorem Cls.get {K : PySem.W.Frag} {C : Addr} (c : Cls K C) (f : Str) : PySem.W.plainGet K C f = true := c.pg
/-- no class of it has the name -/
def NoAttr (K : PySem.W.Frag) (C : Addr) (f : Str) : Prop := PySem.W.findIn K (.ref C) f = some none
/-- a constant of the class -/
structure Con (K : PySem.W.Frag) (C : Addr) (f : Str) (v : V) (u : Value) : Prop where
  at_ : PySem.W.findIn K (.ref C) f = some (some u)
  rel : RelV v u
  get : PySem.W.specialIn K u "__get__" = some none
  cp : PySem.W.copiedNames.contains f = false
/-- a method: a plain def of the class or of one above it -/
structure Meth (K : PySem.W.Frag) (C : Addr) (m : Str) (f : Addr) : Prop where
  at_ : PySem.W.findIn K (.ref C) m = some (some (.ref f))
  fn : PySem.W.isFn K (.ref f) = true
  kp : PySem.W.keepIn K (.ref f) = true

section
variable {X : Cx} {pins : List (Addr × Obj)} {σ : St} {H : Hp} {s : Shared} {a C dx : Addr} {fs : List (Str × V)} {f : Str} {v : V} {A : Around} {E : Value → Shared → Prop}

end

/-! ### readings and rules -/
/-- e.f, an attribute of the instance -/
def tFld (K : PySem.W.Frag) (ta : TE) (f : Str) : TE := fun σ H Q => ta σ H fun x H1 => ∃ a C dx fs v, x = .ref a ∧ H1 a = some (.ins C dx fs) ∧ Cls K C ∧ NoAttr K C f ∧ fs.lookup f = some v ∧ Q v H1
/-- e.f, a constant of the class -/
def tCon (K : PySem.W.Frag) (ta : TE) (f : Str) : TE := fun σ H Q => ta σ H fun x H1 => ∃ a C dx fs v u, x = .ref a ∧ H1 a = some (.ins C dx fs) ∧ Cls K C ∧ Con K C f v u ∧ fs.lookup f = none ∧ Q v H1
/-- e.f = value -/
def sFld (K : PySem.W.Frag) (ta tv : TE) (f : Str) : TS := fun D σ H => tv σ H fun y H1 => ta σ H1 fun x H2 => ∃ a C dx fs, x = .ref a ∧ H2 a = some (.ins C dx fs) ∧ Cls K C ∧ NoAttr K C f ∧ fs.length < 1000 ∧
  D.nx σ (upd H2 a (.ins C dx (putF f y fs)))
/-- an augmented operator on two values -/
def InOp (X : Cx) (op : Operator) (rd : V → V → Hp → VK → Prop) : Prop :=
  ∀ (pins : List (Addr × Obj)) (s : Shared) (σ : St) (H : Hp) (x y : V) (u v : Value) (Q : VK), Inv X pins σ H s → RelV x u → RelV y v → rd x y H Q → wpAny (model X.prog X.w) X.A (inplaceOp op u v) (EP X pins σ Q) X.xe s
/-- e.f op= value -/
def sFldAug (K : PySem.W.Frag) (ta tv : TE) (rd : V → V → Hp → VK → Prop) (f : Str) : TS := fun D σ H => ta σ H fun x H1 => ∃ a C dx fs v, x = .ref a ∧ H1 a = some (.ins C dx fs) ∧ Cls K C ∧ NoAttr K C f ∧ fs.lookup f = some v ∧
  tv σ H1 fun y H2 => rd v y H2 fun z H3 => ∃ dx' fs', H3 a = some (.ins C dx' fs') ∧ fs'.length < 1000 ∧ D.nx σ (upd H3 a (.ins C dx' (putF f z fs')))

section
variable {X : Cx} {o e value : Expr} {f : Str} {pos pos' tpos : Pos} {ta tv : TE}
def rAdd : V → V → Hp → VK → Prop := fun x y H Q => ∃ i j, x = .int i ∧ y = .int j ∧ Q (.int (i + j)) H
def rSub : V → V → Hp → VK → Prop := fun x y H Q => ∃ i j, x = .int i ∧ y = .int j ∧ Q (.int (i - j)) H
end

/-! ### isinstance -/
section
variable {X : Cx} {pins : List (Addr × Obj)} {σ : St} {H : Hp} {s : Shared} {A : Around} {E : Value → Shared → Prop} {Q : Value → Shared → Prop} {c : Value} {b : Bool}
/-- the type of a value, as the fragment's deciders take it; for an instance its class -/
inductive TyOf (K : PySem.W.Frag) (H : Hp) : V → Value → Prop where
  | non : TyOf K H .non (.type "NoneType")
  | bl (x : Bool) : TyOf K H (.bl x) (.type "bool")
  | int (i : Int) : TyOf K H (.int i) (.type "int")
  | str (x : Str) : TyOf K H (.str x) (.type "str")
  | flt (x : UInt64) : TyOf K H (.flt x) (.type "float")
  | lst {a : Addr} {xs : List V} (e : H a = some (.lst xs)) : TyOf K H (.ref a) (.type "list")
  | frz {a : Addr} {o : Obj} {xs : List V} (e : H a = some (.frz o (.lst xs))) : TyOf K H (.ref a) (.type "list")
  | tup {a : Addr} {xs : List V} (e : H a = some (.tup xs)) : TyOf K H (.ref a) (.type "tuple")
  | dK {a : Addr} {kvs : List (Key × V)} (e : H a = some (.dK kvs)) : TyOf K H (.ref a) (.type "dict")
  | dT {a : Addr} {kvs : List (List Key × V)} (e : H a = some (.dT kvs)) : TyOf K H (.ref a) (.type "dict")
  | ins {a C dx : Addr} {fs : List (Str × V)} (e : H a = some (.ins C dx fs)) (cl : Cls K C) (ha : PySem.W.findIn K (.ref C) "__class__" = some (some (.builtin "object.__class__")))
      (hn : PySem.W.specialIn K (.builtin "object.__class__") "__get__" = some (some (.builtin "getset_descriptor.__get__"))) (htk : PySem.W.takesIn K (.builtin "object.__class__") = some true)
      (hm : PySem.W.mroIn K C (.type "object") = some true) : TyOf K H (.ref a) (.ref C)
/-- isinstance(x, c) for one class c, a built-in or an own one: kitOne's answer -/
theorem isinst_ok {x : V} {u t : Value} (I : Inv X pins σ H s) (rx : RelV x u) (ty : TyOf X.K H x t) (e : PySem.W.kitOne X.K t c = some b) (h : ∀ tk, Q (.bool b) { s with toks := tk }) :
    wpAny (model X.prog X.w) A (call (.builtin "isinstance") [u, c]) Q E s := by
  cases ty with
  | non => cases (show u = Value.none from rx); exact PySem.W.kia_one PySem.W.kitx_none I.kIn True.intro e (fun z => nomatch z) h
  | bl y => cases (show u = Value.bool y from rx); exact PySem.W.kia_one PySem.W.kitx_bool I.kIn True.intro e (fun z => nomatch z) h
  | int i => obtain ⟨t, q⟩ := (show ∃ t, u = Value.int i t from rx); cases q; exact PySem.W.kia_one PySem.W.kitx_int I.kIn True.intro e (fun z => nomatch z) h
  | str y => obtain ⟨t, q⟩ := (show ∃ t, u = Value.str y t from rx); cases q; exact PySem.W.kia_one PySem.W.kitx_str I.kIn True.intro e (fun z => nomatch z) h
  | flt y => obtain ⟨t, q⟩ := (show ∃ t, u = Value.float y t from rx); cases q; exact PySem.W.kia_one PySem.W.kitx_float I.kIn True.intro e (fun z => nomatch z) h
  | @lst a xs ea =>
    cases (show u = Value.ref a from rx)
    obtain ⟨_, _, n, _, h1⟩ := (show ObjOk X.prog X.w H s.heap a (.lst xs) from I.hok a _ ea)
    exact PySem.W.kia_one PySem.W.kitx_list I.kIn ⟨_, h1, rfl⟩ e (fun z => nomatch z) h
  | @frz a ob xs ea =>
    cases (show u = Value.ref a from rx)
    obtain ⟨_, _, _, n, _, h1⟩ := (show ObjOk X.prog X.w H s.heap a (.frz ob (.lst xs)) from I.hok a _ ea)
    exact PySem.W.kia_one PySem.W.kitx_list I.kIn ⟨_, h1, rfl⟩ e (fun z => nomatch z) h
  | @tup a xs ea =>
    cases (show u = Value.ref a from rx)
    obtain ⟨_, _, _, p⟩ := (show ObjOk X.prog X.w H s.heap a (.tup xs) from I.hok a _ ea)
    obtain ⟨o, h1, h2, _⟩ := p
    exact PySem.W.kia_one PySem.W.kitx_tuple I.kIn ⟨o, h1, h2⟩ e (fun z => nomatch z) h
  | @dK a kvs ea =>
    cases (show u = Value.ref a from rx)
    obtain ⟨_, _, vs, _, p⟩ := (show ObjOk X.prog X.w H s.heap a (.dK kvs) from I.hok a _ ea)
    obtain ⟨o, es, ep, h1, h2, _⟩ := p
    exact PySem.W.kia_one PySem.W.kitx_dict I.kIn ⟨o, h1, h2.1⟩ e (fun z => nomatch z) h
  | @dT a kvs ea =>
    cases (show u = Value.ref a from rx)
    obtain ⟨_, _, xs, _, o, es, ep, h1, h2, _⟩ := (show ObjOk X.prog X.w H s.heap a (.dT kvs) from I.hok a _ ea)
    exact PySem.W.kia_one PySem.W.kitx_dict I.kIn ⟨o, h1, h2.1⟩ e (fun z => nomatch z) h
  | @ins a C dx fs ea cl ha hn htk hm =>
    cases (show u = Value.ref a from rx)
    obtain ⟨mA, O, _⟩ := ins_get I.hok ea
    obtain ⟨od, J, _⟩ := O.look
    exact PySem.W.kia_one (PySem.W.kitx_own (cl.get _) cl.hd ha hn htk hm) I.kIn J e (fun z => nomatch z) h
end
end L2

namespace L2
open PySem PySem.Spec PyProof.Rows

/-! ### room -/
structure Room (k : Nat) (A : Around) : Prop where
  hd : A.handled = none
  dp : A.depth + 3 * k + 5 < recursionLimit
  un : A.units + 16 * k + 200 < cLine
theorem Room.mono {j k : Nat} {A : Around} (r : Room k A) (h : j ≤ k) : Room j A := ⟨r.hd, by have := r.dp; omega, by have := r.un; omega⟩
theorem Room.deeper {k : Nat} {A : Around} (r : Room (k + 1) A) (env : Env) : Room k (A.deeper env) :=
  ⟨r.hd, by have := r.dp; show A.depth + 1 + 3 * k + 5 < _; omega, by have := r.un; show A.units + 3 + 16 * k + 200 < _; omega⟩
theorem Room.depth {k : Nat} {A : Around} (r : Room k A) : A.depth < recursionLimit := by have := r.dp; omega
theorem Room.units {k : Nat} {A : Around} (r : Room k A) : A.units + 64 < cLine := by have := r.un; omega
/-! ### argument lists and displays -/
def tNil : TA := fun _ H Q => Q [] H
def tCons (ta : TE) (tr : TA) : TA := fun σ H Q => ta σ H fun x H1 => tr σ H1 fun xs H2 => Q (x :: xs) H2
section
variable {X : Cx} {e : Expr} {es : List Expr} {te : TE} {t : TA} {pos : Pos}
theorem pa_nil : PA X [] tNil := fun _ _ _ _ H Q I h => Calls.spliced_nil ⟨[], H, I, .nil, h⟩
theorem pa_cons (ha : PE X e te) (hr : PA X es t) (hs : starEach (e :: es) X.env = (false, eval e X.env) :: starEach es X.env := by rfl) : PA X (e :: es) (tCons te t) := by
  intro pos pins s σ H Q I h
  rw [hs]
  show wpAny _ _ (spliced ((false, eval e X.env) :: backTo pos (starEach es X.env))) _ _ s
  refine Calls.spliced_cons (thn (ha pins s σ H _ I h) fun u s1 ⟨x, H1, I1, r1, q1⟩ => ?_)
  exact thn (hr pos pins s1 σ H1 _ I1 q1) fun us s2 ⟨xs, H2, I2, r2, q2⟩ => ⟨x :: xs, H2, I2, .cons r1 r2, q2⟩

/-- a tuple, a list of written items -/
def tTup (t : TA) : TE := fun σ H Q => t σ H fun xs H1 => xs.length ≤ sizeLine ∧ ∀ p, H1 p = none → Q (.ref p) (upd H1 p (.tup xs))
def tLst (t : TA) : TE := fun σ H Q => t σ H fun xs H1 => xs.length ≤ sizeLine ∧ ∀ p, H1 p = none → Q (.ref p) (upd H1 p (.lst xs))
theorem pe_tup {x1} (h : PA X es t) : PE X (.Tuple es x1 pos) (tTup t) := by
  intro pins s σ H Q I hq
  refine wpAny_Tuple_spliced (thn (h pos pins s σ H _ I hq) fun us s1 ⟨xs, H1, I1, r, z, q⟩ => ⟨by rw [← r.length]; exact z, ?_⟩)
  have hf : H1 s1.heap.objs.size = none := I1.hok.fresh (Nat.le_refl _)
  refine ⟨.ref s1.heap.objs.size, upd H1 s1.heap.objs.size (.tup xs), I1.laid (t' := s1.toks) (fun b u e => Heap.get?_push_of_some _ e) (Nat.le_refl _) ?_, rfl, q _ hf⟩
  exact ⟨z, us, r, ⟨_, Heap.get?_push_size _ rfl, rfl, _, rfl⟩⟩
theorem pe_lst (h : PA X es t) : PE X (.List es pos) (tLst t) := by
  intro pins s σ H Q I hq
  refine wpAny_List_spliced (thn (h pos pins s σ H _ I hq) fun us s1 ⟨xs, H1, I1, r, z, q⟩ => ⟨by rw [← r.length]; exact z, ?_⟩)
  have hf : H1 s1.heap.objs.size = none := I1.hok.fresh (Nat.le_refl _)
  refine ⟨.ref s1.heap.objs.size, upd H1 s1.heap.objs.size (.lst xs), I1.laid (t' := s1.toks) (fun b u e => Heap.get?_push_of_some _ e) (Nat.le_refl _) ?_, rfl, q _ hf⟩
  exact ⟨z, us, 0, r, Heap.get?_push_size _ rfl⟩
end

/-! ### what a def promises -/
/-- a def's promise: the bound arguments in the parameters' order, the heap, the wanted end, the wanted exception -/
abbrev Sp := List V → Hp → VK → XK → Prop
/-- how an exception lies behind a call (file 08 gives it): the callers' frames, abstract heap and state ahead of the call, the wish, the exception, the state -/
abbrev CXT := List Env → Hp → Shared → XK → Value → Shared → Prop

/-- the state at a call -/
structure Env0 (P : Program) (w : World) (K : PySem.W.Frag) (mg : Str → Option Value) (base : Heap) (A : Around) (outer : List Env) (s : Shared) (H : Hp) : Prop where
  frames : A.frames = some outer
  mod : Mod K mg base
  bs : ∀ b o, base.get? b = some o → s.heap.get? b = some o ∧ H b = none
  bsz : base.objs.size ≤ s.heap.objs.size
  funs : s.heap.FunFrames base outer
  frf : ∀ b ∈ frs outer, H b = none
  hok : HOk P w H s.heap
  bare : AllBare s.gens
/-- a call's end -/
def CE (outer : List Env) (P : Program) (w : World) (H : Hp) (s : Shared) (Q : VK) (u : Value) (s' : Shared) : Prop :=
  ∃ v H', s'.os = s.os ∧ AllBare s'.gens ∧ Un (frs outer) [] H H' s.heap s'.heap ∧ HOk P w H' s'.heap ∧ RelV v u ∧ Q v H'
def CR (CX : CXT) (outer : List Env) (P : Program) (w : World) (H : Hp) (s : Shared) (Q : VK) (E : XK) (r : Result) (s' : Shared) : Prop :=
  match r with
  | .ok (.ret u) => CE outer P w H s Q u s'
  | .ok _ => False
  | .error e => CX outer H s E e s'
structure FnOk (P : Program) (w : World) (K : PySem.W.Frag) (mg : Str → Option Value) (base : Heap) (CX : CXT) (k : Nat) (f : Addr) (fd : FuncData) (ps : List Str) (sp : Sp) : Prop where
  len : ∀ vs H Q E, sp vs H Q E → vs.length = ps.length
  run : ∀ (A : Around) (outer : List Env) (s : Shared) (H : Hp) (args : Args) (us : List Value) (vs : List V) (Q : VK) (E : XK), Room k A → Env0 P w K mg base A outer s H → BindsTo s fd args (ps.zip us) → Vals vs us → sp vs H Q E →
    codeAny (model P w) A (.call (.ref f) args) (CR CX outer P w H s Q E) s
section
variable {X : Cx} {pins : List (Addr × Obj)} {σ : St} {H : Hp} {s s' : Shared}
/-- from a body: what a callee wants -/
theorem Inv.env0 (I : Inv X pins σ H s) : Env0 X.prog X.w X.K X.mg X.base X.A X.stack s H :=
  ⟨I.ok.frames, I.ok.mod, I.bs, Nat.le_trans I.ok.bsz I.sz, I.stack, I.stkFree, I.hok, I.bare⟩
/-- behind a call -/
theorem Inv.after {Q : VK} {u : Value} (I : Inv X pins σ H s) (h : CE X.stack X.prog X.w H s Q u s') : EP X pins σ Q u s' := by
  obtain ⟨v, H', os, bare, un, hok, r, q⟩ := h
  obtain ⟨hh, g, d, t, os'⟩ := s'
  obtain rfl : os' = s.os := os
  exact ⟨v, H', I.call (h' := hh) (g' := g) (d' := d) (t' := t) (ch := []) un hok bare (fun b z => absurd z (by simp)), r, q⟩
end

/-! ### calls -/
/-- f(..): the written arguments, then the defaults dvs; E: what is wanted of an exception -/
def tCall (sp : Sp) (dvs : List V) (E : XK) (t : TA) : TE := fun σ H Q => t σ H fun vs H1 => sp (vs ++ dvs) H1 Q E
/-- o.m(..) of an instance of the class at C -/
def tMeth (C : Addr) (m : Str) (sp : Sp) (dvs : List V) (E : XK) (ta : TE) (t : TA) : TE := fun σ H Q => ta σ H fun x H1 => ∃ a dx fs, x = .ref a ∧ H1 a = some (.ins C dx fs) ∧ fs.lookup m = none ∧
  t σ H1 fun vs H2 => sp (x :: (vs ++ dvs)) H2 Q E
/-- C(..): a new instance and its dict, then __init__ -/
def tMake (C : Addr) (sp : Sp) (dvs : List V) (E : XK) (t : TA) : TE := fun σ H Q => t σ H fun vs H1 => ∀ x dx, H1 x = none → H1 dx = none → dx ≠ x →
  sp (.ref x :: (vs ++ dvs)) (upd (upd H1 dx (.own x)) x (.ins C dx [])) (fun v H2 => v = .non ∧ Q (.ref x) H2) E

/-- how the parameters are bound: us the positional arguments, kw the keywords' values by name, ds the defaults that fill up -/
def Binds (K : PySem.W.Frag) (fd : FuncData) (ps : List Str) (ds : List Value) : Prop :=
  ∀ (s : Shared) (us : List Value), K.In s.heap → (us ++ ds).length = ps.length → BindsTo s fd ⟨us, []⟩ (ps.zip (us ++ ds))
/-- every parameter is given -/
theorem Binds.all {K : PySem.W.Frag} {fd : FuncData} {ps : List Str} (h : ∀ us : List Value, us.length = ps.length → bindArgs fd ⟨us, []⟩ = pure (ps.zip us)) : Binds K fd ps [] := fun s us _ hl => by
  rw [List.append_nil] at hl ⊢
  exact .of_eq (h us hl)

/-- an exception of a callee reaches what this body wants of exceptions -/
def Passes (CX : CXT) (X : Cx) (E : XK) : Prop := ∀ (pins : List (Addr × Obj)) (σ : St) (H : Hp) (s : Shared) (e : Value) (s' : Shared), Inv X pins σ H s → CX X.stack H s E e s' → X.xe e s'

section
variable {X : Cx} {CX : CXT} {k : Nat} {f C : Addr} {fd : FuncData} {ps : List Str} {sp : Sp} {dvs : List V} {ds : List Value} {E : XK} {x m : Str} {p pos apos : Pos} {e o : Expr} {es : List Expr} {ta : TE} {t : TA}

/-- the callee runs -/
theorem run_fn {pins : List (Addr × Obj)} {σ : St} {H : Hp} {s : Shared} {Q : VK} {us : List Value} {vs : List V} (F : FnOk X.prog X.w X.K X.mg X.base CX k f fd ps sp) (hr : Room k X.A) (hb : Binds X.K fd ps ds) (hd : Vals dvs ds) (hx : Passes CX X E)
    (I : Inv X pins σ H s) (r : Vals vs us) (h : sp (vs ++ dvs) H Q E) : wpAny (model X.prog X.w) X.A (call (.ref f) us) (EP X pins σ Q) X.xe s := by
  have r2 : Vals (vs ++ dvs) (us ++ ds) := r.append hd
  have hl : (us ++ ds).length = ps.length := by rw [← r2.length]; exact F.len _ _ _ _ h
  refine wpAny_call (codeAny_mono (F.run X.A X.stack s H ⟨us, []⟩ (us ++ ds) (vs ++ dvs) Q E hr I.env0 (hb s us I.kIn hl) r2 h) fun r s' hq => ?_)
  cases r with
  | error e => exact hx pins σ H s e s' I hq
  | ok fl =>
    cases fl with
    | ret u => exact I.after hq
    | next => exact False.elim hq
    | brk => exact False.elim hq
    | cont => exact False.elim hq

theorem pe_call (F : FnOk X.prog X.w X.K X.mg X.base CX k f fd ps sp) (hr : Room k X.A) (hg : Gl X x) (hm : X.mg x = some (.ref f)) (hk : PySem.W.keepIn X.K (.ref f) = true) (hb : Binds X.K fd ps ds) (hd : Vals dvs ds) (hx : Passes CX X E)
    (ha : PA X (e :: es) t) (hdb : (x == ("__debug__" : Str)) = false := by decide) (he : starEach (e :: es) X.env = (false, eval e X.env) :: starEach es X.env := by rfl) (hpl : (backTo pos (starEach es X.env)).any (·.1) = false := by rfl) :
    PE X (.Call (.Name x p) (e :: es) [] pos) (tCall sp dvs E t) := by
  intro pins s σ H Q I h
  refine wpAny_Call_Name_kw (ld_glob I hg hm ?_ hdb)
  refine PySem.W.callWith_K (h₀ := X.base) I.ok.mod.kin hk (thn (ha pos pins s σ H _ I h) fun us s1 ⟨vs, H1, I1, r, q⟩ => ⟨I1.kIn, ?_⟩) he hpl
  exact run_fn F hr hb hd hx I1 r q
/-- what a class must have to be made -/
structure Mk (K : PySem.W.Frag) (C f : Addr) : Prop where
  makes : PySem.W.makesIn K C = true
  init : PySem.W.findIn K (.ref C) "__init__" = some (some (.ref f))
  fn : PySem.W.isFn K (.ref f) = true
  kp : PySem.W.keepIn K (.ref C) = true

end

/-! ### keywords -/
/-- the values of the keywords, from the left -/
def PK (X : Cx) (kws : List Keyword) (t : TA) : Prop :=
  ∀ (pos : Pos) (pins : List (Addr × Obj)) (s : Shared) (σ : St) (H : Hp) (Q : List V → Hp → Prop), Inv X pins σ H s → t σ H Q → wpAny (model X.prog X.w) X.A (evalAll ((backToKw pos (keywordEach kws X.env)).map (·.2))) (AP X pins σ Q) X.xe s
section
variable {X : Cx} {CX : CXT} {k : Nat} {f C : Addr} {fd : FuncData} {ps ks : List Str} {sp : Sp} {E : XK} {x m : Str} {p pos apos kpos : Pos} {e o : Expr} {es : List Expr} {kws : List Keyword} {te ta : TE} {t tk : TA} {nm : Option Str}
/-- how a call with keywords binds: g puts the positional values us and the keywords' values ws (names ks) in the parameters' order, defaults among them -/
structure KBinds (K : PySem.W.Frag) (fd : FuncData) (ps ks : List Str) (g : List Value → List Value → List Value) (gV : List V → List V → List V) : Prop where
  to : ∀ (s : Shared) (us ws : List Value), K.In s.heap → (g us ws).length = ps.length → BindsTo s fd ⟨us, ks.zip ws⟩ (ps.zip (g us ws))
  rel : ∀ {vs : List V} {us : List Value} {zs : List V} {ws : List Value}, Vals vs us → Vals zs ws → Vals (gV vs zs) (g us ws)
def tCallK (sp : Sp) (gV : List V → List V → List V) (E : XK) (t tk : TA) : TE := fun σ H Q => t σ H fun vs H1 => tk σ H1 fun zs H2 => sp (gV vs zs) H2 Q E
variable {g : List Value → List Value → List Value} {gV : List V → List V → List V}
end

/-! ### a def's body keeps its promise -/
/-- names: the parameters first -/
structure FnScope (N P : List Str) (sc : Scope) : Prop where
  kind : sc.kind = .function
  co : sc.isCoroutine = false
  gen : sc.isGenerator = false
  nd : N.Nodup
  pre : N.take P.length = P
  par : ∀ x ∈ P, sc.names.lookup x = some .local ∨ sc.names.lookup x = some .cell
  nofree : ∀ y ∈ sc.names, y.2 ≠ .free

theorem bindL_out {kindOf : Str → Option NameKind} {x : Str} : ∀ {binds : List (Str × Value)} {m : Str → Option Value}, (∀ v, (x, v) ∉ binds) → bindL kindOf binds m x = m x
  | [], _, _ => rfl
  | (n, v) :: r, m, h => by
    unfold bindL
    rw [bindL_out fun w hw => h w (List.mem_cons_of_mem _ hw)]
    split
    · have : x ≠ n := by rintro rfl; exact h v List.mem_cons_self
      simp [this]
    · rfl
theorem bindC_out {kindOf : Str → Option NameKind} {x : Str} : ∀ {binds : List (Str × Value)} {m : Str → Option Value}, (∀ v, (x, v) ∉ binds) → bindC kindOf binds m x = m x
  | [], _, _ => rfl
  | (n, v) :: r, m, h => by
    unfold bindC
    rw [bindC_out fun w hw => h w (List.mem_cons_of_mem _ hw)]
    split
    · rfl
    · have : x ≠ n := by rintro rfl; exact h v List.mem_cons_self
      simp [this]
theorem bindL_get {kindOf : Str → Option NameKind} {x : Str} {v : Value} : ∀ {P : List Str} {vs : List Value} {i : Nat} {m : Str → Option Value}, P.Nodup → P[i]? = some x → vs[i]? = some v → kindOf x = some .local →
    bindL kindOf (P.zip vs) m x = some v
  | [], _, _, _, _, h, _, _ => by simp at h
  | _ :: _, [], _, _, _, _, h, _ => by simp at h
  | p :: P, w :: vs, 0, m, nd, h1, h2, hk => by
    simp at h1 h2; subst h1; subst h2
    show bindL kindOf ((p, w) :: P.zip vs) m p = _
    unfold bindL
    rw [bindL_out fun v hv => (List.nodup_cons.mp nd).1 (List.of_mem_zip hv).1, if_pos hk]
    simp
  | p :: P, w :: vs, i + 1, m, nd, h1, h2, hk => by
    show bindL kindOf ((p, w) :: P.zip vs) m x = _
    unfold bindL
    exact bindL_get (i := i) (List.nodup_cons.mp nd).2 (by simpa using h1) (by simpa using h2) hk
theorem bindC_get {kindOf : Str → Option NameKind} {x : Str} {v : Value} : ∀ {P : List Str} {vs : List Value} {i : Nat} {m : Str → Option Value}, P.Nodup → P[i]? = some x → vs[i]? = some v → kindOf x ≠ some .local →
    bindC kindOf (P.zip vs) m x = some v
  | [], _, _, _, _, h, _, _ => by simp at h
  | _ :: _, [], _, _, _, _, h, _ => by simp at h
  | p :: P, w :: vs, 0, m, nd, h1, h2, hk => by
    simp at h1 h2; subst h1; subst h2
    show bindC kindOf ((p, w) :: P.zip vs) m p = _
    unfold bindC
    rw [bindC_out fun v hv => (List.nodup_cons.mp nd).1 (List.of_mem_zip hv).1, if_neg hk]
    simp
  | p :: P, w :: vs, i + 1, m, nd, h1, h2, hk => by
    show bindC kindOf ((p, w) :: P.zip vs) m x = _
    unfold bindC
    exact bindC_get (i := i) (List.nodup_cons.mp nd).2 (by simpa using h1) (by simpa using h2) hk

/-- the names' values at the entry -/
def start (N : List Str) (vs : List V) : St := vs.map some ++ List.replicate (N.length - vs.length) none

/-- the context of a def's body, at its entry; an exception leaves the frame, then lies as CX says -/
def cxOf (CX : CXT) (P : Program) (w : World) (K : PySem.W.Frag) (mg : Str → Option Value) (base : Heap) (N : List Str) (qual : Str) (scope : Scope) (f : Addr) (cd : Value) (A : Around) (outer : List Env) (s : Shared) (H : Hp) (E : XK) : Cx where
  prog := P
  w := w
  K := K
  mg := mg
  base := base
  A := A.deeper (envOfC qual scope s.heap.objs.size f cd)
  N := N
  s₀ := s
  H₀ := H
  env := envOfC qual scope s.heap.objs.size f cd
  outer := outer
  stack := envOfC qual scope s.heap.objs.size f cd :: outer
  ex := []
  calm := true
  fn := fun _ => true
  pn := []
  xe := fun e s' => wpAny (model P w) (A.deeper (envOfC qual scope s.heap.objs.size f cd)) (leaving (envOfC qual scope s.heap.objs.size f cd) e) (fun _ s'' => CX outer H s E e s'') (fun e' s'' => CX outer H s E e' s'') s'

theorem cell_has {sc : Scope} {n : Nat} {x : Str} (h : sc.names.lookup x = some .cell) : ∃ c, (cellsFrom n sc.names []).lookup x = some c := by
  have q := PySem.W.cellsFrom_some sc.names n [] (.inl h)
  exact Option.isSome_iff_exists.mp q

theorem inv_start {CX : CXT} {P : Program} {w : World} {K : PySem.W.Frag} {mg : Str → Option Value} {base : Heap} {N ps : List Str} {qual : Str} {scope : Scope} {f : Addr} {cd : Value} {A : Around} {outer : List Env} {s s1 : Shared} {H : Hp} {E : XK} {us : List Value} {vs : List V}
    (S : FnScope N ps scope) (hd : A.handled = none) (e0 : Env0 P w K mg base A outer s H) (hl : vs.length = ps.length) (r : Vals vs us)
    (x : InCallC s s.heap.objs.size (bindL (envOfC qual scope s.heap.objs.size f cd).kindOf (ps.zip us) fun _ => none) (cellsFrom (s.heap.objs.size + 1) scope.names []) (bindC (envOfC qual scope s.heap.objs.size f cd).kindOf (ps.zip us) fun _ => none) s1) :
    Inv (cxOf CX P w K mg base N qual scope f cd A outer s H E) [] (start N vs) H s1 := by
  have hpl : ps.length ≤ N.length := by have := congrArg List.length S.pre; rw [List.length_take] at this; omega
  obtain ⟨h1, tk, rfl, hk⟩ := x.done
  have noA : ∀ b : Addr, b ∉ (cxOf CX P w K mg base N qual scope f cd A outer s H E).ex := fun b z => absurd (show b ∈ ([] : List Addr) from z) (by simp)
  refine ⟨⟨e0.mod, S.kind, rfl, rfl, Nat.le_refl _, fun y z c h1 h2 => ?_, fun y hy => ?_, fun y c _ h => ?_, fun _ => hd, Around.frames_deeper e0.frames, .inr ⟨rfl, rfl⟩, fun b z => absurd z (noA b), e0.bs, e0.bsz, fun b _ _ => noA b, fun b z => absurd z (noA b), e0.funs, e0.frf⟩,
    rfl, e0.bare, Un.kept hk, ⟨_, x.toInCall.ns, fun i y v h1 h2 h3 => ?_⟩, fun y c h => ⟨_, x.cell y c h⟩, e0.hok.fresh (Nat.le_refl _), fun y c h => ?_, fun p hp => absurd (show p ∈ ([] : List (Addr × Obj)) from hp) (by simp), e0.hok.kept hk, ?_⟩
  · exact name_of_addr x.apart (PySem.mem_of_lookup h1) (PySem.mem_of_lookup h2)
  · have hy : scope.names.lookup y = some .cell ∨ scope.names.lookup y = some .free := hy
    rcases hy with hy | hy
    · exact cell_has hy
    · exact absurd rfl (S.nofree _ (PySem.mem_of_lookup hy))
  · exact Nat.le_of_lt (x.above y c (PySem.mem_of_lookup h))
  · have hi : i < vs.length := by
      unfold start at h2
      by_cases hi : i < vs.length
      · exact hi
      · rw [List.getElem?_append_right (by simpa using hi)] at h2
        rw [List.getElem?_replicate] at h2
        split at h2 <;> cases h2
    have ha : vs[i]? = some v := by
      unfold start at h2
      rw [List.getElem?_append_left (by simpa using hi), List.getElem?_map] at h2
      cases e : vs[i]? with
      | none => rw [e] at h2; cases h2
      | some a => rw [e] at h2; cases h2; rfl
    obtain ⟨u, hu, rv⟩ := r.get ha
    have hp : ps[i]? = some y := by
      rw [← S.pre, List.getElem?_take_of_lt (by omega)]; exact h1
    have ndP : ps.Nodup := by rw [← S.pre]; exact S.nd.sublist (List.take_sublist _ _)
    refine ⟨u, rv, ?_⟩
    rcases S.par y (List.mem_of_getElem? hp) with k | k
    · exact .inl ⟨k, bindL_get ndP hp hu k⟩
    · obtain ⟨c, e⟩ := cell_has (n := s.heap.objs.size + 1) k
      refine .inr ⟨.inl k, c, e, ?_⟩
      have q := x.cell y c e
      rw [bindC_get ndP hp hu (by show scope.names.lookup y ≠ _; rw [k]; decide)] at q
      exact q
  · exact e0.hok.fresh (Nat.le_of_lt (x.above y c (PySem.mem_of_lookup h)))
  · unfold start
    show _ = N.length
    rw [List.length_append, List.length_map, List.length_replicate]
    omega

/-- THE RULE: a def (or a method) of the text, by its body. The body's reading t is chosen for each entry; it is run at the parameters' values -/
theorem fn_of {CX : CXT} {P : Program} {w : World} {K : PySem.W.Frag} {mg : Str → Option Value} {base : Heap} {k : Nat} {f : Addr} {name qual : Str} {params : Arguments} {body : List Stmt} {scope : Scope} {dV kV doc pm cdv ct oc : Value} {an od : Option Addr}
    {osl : Array (Option Value)} {N ps : List Str} {sp : Sp} (lk : K.lookup f = some ⟨oc, od, .func (PySem.W.fnOf name qual params body scope dV kV doc pm an cdv ct), osl⟩) (hcd : PySem.W.codeIn K cdv qual = true) (S : FnScope N ps scope)
    (len : ∀ vs H Q E, sp vs H Q E → vs.length = ps.length)
    (hbody : ∀ (A : Around) (outer : List Env) (s : Shared) (H : Hp) (vs : List V) (Q : VK) (E : XK), Room k (A.deeper (envOfC qual scope s.heap.objs.size f cdv)) → sp vs H Q E →
      ∃ t, PSs (cxOf CX P w K mg base N qual scope f cdv A outer s H E) body t ∧ t { nx := fun _ H' => Q .non H', rt := Q } (start N vs) H) :
    FnOk P w K mg base CX (k + 1) f (PySem.W.fnOf name qual params body scope dV kV doc pm an cdv ct) ps sp := by
  refine ⟨len, fun A outer s H args us vs Q E hr e0 hb r hsp => ?_⟩
  have hl := len _ _ _ _ hsp
  have KX : K.In s.heap := e0.mod.kin.keeps fun b o e => (e0.bs b o e).1
  have lim : s.heap.NoLimit := e0.mod.nolimit.keeps fun b o e => (e0.bs b o e).1
  have hkind : ∀ y ∈ ps.zip us, scope.names.lookup y.1 = some .local ∨ (scope.names.lookup y.1 = some .cell ∧ ((cellsFrom (s.heap.objs.size + 1) scope.names []).lookup y.1).isSome = true) := fun ⟨n, v⟩ hy => by
    rcases S.par n (List.of_mem_zip hy).1 with q | q
    · exact .inl q
    · exact .inr ⟨q, PySem.W.cellsFrom_some _ _ _ (.inl q)⟩
  refine codeAny_call_function hr.depth (KX _ _ lk) rfl S.co S.gen rfl (PySem.W.codeRec_of KX hcd) (hb _ _ _ _ ?_)
  refine wpAny_newFunctionEnv_cells S.kind hkind fun env he s1 x => ?_
  subst he
  refine ⟨lim.keeps x.toInCall.keep, codeAny_func ?_⟩
  obtain ⟨t, ht, hq⟩ := hbody A outer s H vs Q E (hr.deeper _) hsp
  have I : Inv (cxOf CX P w K mg base N qual scope f cdv A outer s H E) [] (start N vs) H s1 := inv_start S hr.hd e0 hl r x
  refine wpAny_mono (ht [] s1 (start N vs) H _ I hq) (fun fl s' hs => ?_) fun e s' hs => hs
  have fin : ∀ {σ' : St} {H' : Hp} {v : V} {u : Value}, Inv (cxOf CX P w K mg base N qual scope f cdv A outer s H E) [] σ' H' s' → RelV v u → Q v H' → CE outer P w H s Q u s' :=
    fun {σ' H' v u} J rv q => ⟨v, H', J.os, J.bare, J.base, J.hok, rv, q⟩
  cases fl with
  | ret u =>
    obtain ⟨v, σ', H', J, rv, q⟩ := hs
    exact fin J rv q
  | next =>
    obtain ⟨σ', H', J, q⟩ := hs
    exact fin (v := V.non) (u := Value.none) J rfl q
  | brk =>
    obtain ⟨_, _, _, q⟩ := hs
    exact False.elim q
  | cont =>
    obtain ⟨_, _, _, q⟩ := hs
    exact False.elim q
end L2

namespace L2
open PySem PySem.Spec PyProof.Rows
section
variable {X : Cx} {x : Str} {p pos : Pos} {e : Expr} {es : List Expr} {t : TA} {id T : String} {r : List V → Hp → VK → Prop}

def tCB (r : List V → Hp → VK → Prop) (t : TA) : TE := fun σ H Q => t σ H fun vs H1 => r vs H1 Q
/-- f(e, ..), f a built-in function -/
theorem pe_callB (hc : CallR X (.builtin id) r) (hg : Gl X x) (hm : X.mg x = none) (hv : bootBuiltins x = some (.builtin id)) (ha : PA X (e :: es) t) (hn : x ≠ "__name__" := by decide) (hdb : (x == ("__debug__" : Str)) = false := by decide)
    (he : starEach (e :: es) X.env = (false, eval e X.env) :: starEach es X.env := by rfl) (hpl : (backTo pos (starEach es X.env)).any (·.1) = false := by rfl) : PE X (.Call (.Name x p) (e :: es) [] pos) (tCB r t) := by
  intro pins s σ H Q I h
  refine wpAny_Call_Name_kw (ld_blt I hg hm hv ?_ hn hdb)
  exact PyProof.Rows.callWith_builtin1 (thn (ha pos pins s σ H _ I h) fun us s1 ⟨vs, H1, I1, r1, q1⟩ => hc pins s1 σ H1 vs us Q I1 r1 q1) he hpl
/-- T(e, ..), T a built-in type -/
theorem pe_callTy (hc : CallR X (.type T) r) (hg : Gl X x) (hm : X.mg x = none) (hv : bootBuiltins x = some (.type T)) (ha : PA X (e :: es) t) (hn : x ≠ "__name__" := by decide) (hdb : (x == ("__debug__" : Str)) = false := by decide)
    (he : starEach (e :: es) X.env = (false, eval e X.env) :: starEach es X.env := by rfl) (hpl : (backTo pos (starEach es X.env)).any (·.1) = false := by rfl) : PE X (.Call (.Name x p) (e :: es) [] pos) (tCB r t) := by
  intro pins s σ H Q I h
  refine wpAny_Call_Name_kw (ld_blt I hg hm hv ?_ hn hdb)
  exact PyProof.Rows.callWith_type1 (thn (ha pos pins s σ H _ I h) fun us s1 ⟨vs, H1, I1, r1, q1⟩ => hc pins s1 σ H1 vs us Q I1 r1 q1) he hpl
end
end L2

namespace HT
open PySem PyProof.Rows

/-- t < u of tuples of ints -/
def lexLt : List Int → List Int → Bool
  | [], [] => false
  | [], _ :: _ => true
  | _ :: _, [] => false
  | x :: xs, y :: ys => if x = y then lexLt xs ys else decide (x < y)
section
open PySem.SeqAt
open PySem.AutoSeq1 (wpAny_loadPart')
open PySem.MeetsSeq PySem.MeetsSeq2 PySem.MeetsSeq3

end

section
variable {prog : Program} {w : World} {A : Around} {E : Value → Shared → Prop} {s : Shared}

/-! ### t[a:b], not the whole -/
/-- a slice's bound as a place among n (d where it is left out) -/
def sIx (n d : Nat) : Option Int → Nat
  | none => d
  | some v => if v < 0 then (v + (n : Int)).toNat else min v.toNat n
theorem sIx_none (n d : Nat) : sIx n d none = d := rfl
theorem sIx_nat (n d k : Nat) : sIx n d (some (k : Int)) = min k n := by
  show (if (k : Int) < 0 then ((k : Int) + (n : Int)).toNat else min (k : Int).toNat n) = min k n
  rw [if_neg (by omega), Int.toNat_natCast]
end
end HT

namespace L2
open PySem PySem.Spec PyProof.Rows

/-! ### the parts of a slice -/
abbrev TO := St → Hp → (Option Int → Hp → Prop) → Prop
/-- a slice's part (left out, or an int) -/
def PO (X : Cx) (e : Option Expr) (t : TO) : Prop :=
  ∀ (pins : List (Addr × Obj)) (s : Shared) (σ : St) (H : Hp) (Q : Option Int → Hp → Prop), Inv X pins σ H s → t σ H Q →
    wpAny (model X.prog X.w) X.A (evalPart e X.env) (fun u s' => ∃ o H', Inv X pins σ H' s' ∧ IsPart u o ∧ Q o H') X.xe s
def tNoPart : TO := fun _ H Q => Q none H
def tPart (t : TE) : TO := fun σ H Q => t σ H fun x H1 => ∃ i, x = .int i ∧ Q (some i) H1

theorem intsAre_of {ns : List Int} : ∀ {us : List Value}, Vals (ns.map V.int) us → IntsAre us ns := by
  induction ns with
  | nil => intro us r; rw [List.map_nil] at r; cases r; exact .nil
  | cons n ns ih =>
    intro us r
    rw [List.map_cons] at r
    cases r with
    | cons r1 r2 =>
      obtain ⟨t, e⟩ := r1
      subst e
      exact .cons n t (ih r2)

section
variable {X : Cx} {e : Expr} {te : TE} {lo hi : Option Expr} {tl th : TO} {pos p2 : Pos}

theorem po_none : PO X none tNoPart := by
  intro pins s σ H Q I h
  rw [evalPart_none]
  exact wpAny_pure ⟨none, H, I, .none, h⟩
theorem po_some (h : PE X e te) : PO X (some e) (tPart te) := by
  intro pins s σ H Q I hw
  rw [evalPart_some]
  refine thn (h pins s σ H _ I hw) fun u s1 ⟨x, H1, I1, r1, q1⟩ => ?_
  obtain ⟨i, rfl, q⟩ := q1
  obtain ⟨t, rfl⟩ := r1
  exact ⟨some i, H1, I1, .int i t, q⟩

/-- what a slice of a value is, by values: the slice object stands at sl -/
def SlR (X : Cx) (r : V → Option Int → Option Int → Hp → VK → Prop) : Prop :=
  ∀ (pins : List (Addr × Obj)) (s : Shared) (σ : St) (H : Hp) (x : V) (v vl vu : Value) (lo hi : Option Int) (sl : Addr) (Q : VK), Inv X pins σ H s → RelV x v → s.heap.IsSliceOf sl vl vu .none → IsPart vl lo → IsPart vu hi → r x lo hi H Q →
    ∃ T id, typeLookup (.type T) "__getitem__" = pure (some (.builtin id)) ∧ s.TypeIs v T ∧ wpAny (model X.prog X.w) X.A (getItem v (.ref sl)) (EP X pins σ Q) X.xe s
def tSl (r : V → Option Int → Option Int → Hp → VK → Prop) (te : TE) (tl th : TO) : TE := fun σ H Q => te σ H fun x H1 => tl σ H1 fun l H2 => th σ H2 fun u H3 => r x l u H3 Q
/-- a[lo:hi], any a -/
theorem pe_slice {r : V → Option Int → Option Int → Hp → VK → Prop} (hr : SlR X r) (he : PE X e te) (hl : PO X lo tl) (hu : PO X hi th) : PE X (.Subscript e (.Slice lo hi none p2) pos) (tSl r te tl th) := by
  intro pins s σ H Q I h
  refine Subscript_ (thn (he pins s σ H _ I h) fun v s1 ⟨x, H1, I1, r1, q1⟩ => ?_)
  refine wpAny_Slice (thn (hl pins s1 σ H1 _ I1 q1) fun vl s2 ⟨l, H2, I2, pl, q2⟩ => thn (hu pins s2 σ H2 _ I2 q2) fun vu s3 ⟨u, H3, I3, pu, q3⟩ => ?_)
  rw [evalPart_none]
  refine wpAny_pure ?_
  have I4 : Inv X pins σ H3 { s3 with heap := s3.heap.push { cls := .type "slice", data := .fields #[vl, vu, .none] } } := I3.kept (t' := s3.toks) fun b ob q => Heap.get?_push_of_some _ q
  obtain ⟨T, id, hT, ht, hg⟩ := hr pins { s3 with heap := s3.heap.push { cls := .type "slice", data := .fields #[vl, vu, .none] } } σ H3 x v vl vu l u s3.heap.objs.size Q I4 r1 (Heap.IsSliceOf.new ..) pl pu q3
  show wpAny (model X.prog X.w) X.A (subscriptTail e (.Slice lo hi none p2) v (.ref s3.heap.objs.size)) (EP X pins σ Q) X.xe { s3 with heap := s3.heap.push { cls := .type "slice", data := .fields #[vl, vu, .none] } }
  exact tail_any (ops := [.ref s3.heap.objs.size, v]) ht hT hg (by with_unfolding_all rfl)

/-- the items of xs[lo:hi] -/
def cutV (xs : List V) (lo hi : Option Int) : List V := (xs.drop (HT.sIx xs.length 0 lo)).take (HT.sIx xs.length xs.length hi - HT.sIx xs.length 0 lo)
theorem cutV_length (xs : List V) (lo hi : Option Int) : (cutV xs lo hi).length ≤ xs.length := by
  unfold cutV
  rw [List.length_take, List.length_drop]
  omega
/-- t[lo:hi], not the whole of it (the whole would be t itself) -/
def rSlT (K : PySem.W.Frag) : V → Option Int → Option Int → Hp → VK → Prop := fun x lo hi H Q => ∃ a xs, x = .ref a ∧ SqT K H a xs ∧
  ¬ (HT.sIx xs.length 0 lo = 0 ∧ HT.sIx xs.length xs.length hi = xs.length) ∧ ∀ p, H p = none → Q (.ref p) (upd H p (.tup (cutV xs lo hi)))
/-! ### t < u, t + u -/
def rLtT (K : PySem.W.Frag) : R2 := fun x y H Q => ∃ a b ns ms, x = .ref a ∧ y = .ref b ∧ SqT K H a (ns.map V.int) ∧ SqT K H b (ms.map V.int) ∧ Q (.bl (HT.lexLt ns ms)) H
/-- t + u, t not empty: u empty gives t itself -/
def rCatT (K : PySem.W.Frag) : R2 := fun x y H Q => ∃ a b xs ys, x = .ref a ∧ y = .ref b ∧ SqT K H a xs ∧ SqT K H b ys ∧ xs ≠ [] ∧ xs.length + ys.length ≤ sizeLine ∧
  (ys = [] → Q (.ref a) H) ∧ (ys ≠ [] → ∀ p, H p = none → Q (.ref p) (upd H p (.tup (xs ++ ys))))
end
end L2

namespace L2
open PySem PySem.Spec PyProof.Rows

/-! ### places -/
/-- the place that an index of any sign means -/
def ixN (n : Nat) (i : Int) : Option Nat := if 0 ≤ i then (if i < n then some i.toNat else none) else if -(n : Int) ≤ i then some (i + n).toNat else none
def atI {α : Type} (xs : List α) (i : Int) : Option α := (ixN xs.length i).bind fun j => xs[j]?
theorem ixN_seq {n : Nat} {i : Int} {j : Nat} (h : ixN n i = some j) : seqIndex? i n = some j ∧ j < n ∧ -(n : Int) ≤ i ∧ i < n := by
  unfold ixN at h
  by_cases h0 : 0 ≤ i
  · rw [if_pos h0] at h
    by_cases h1 : i < n
    · rw [if_pos h1] at h
      have e : i.toNat = j := Option.some.inj h
      exact ⟨by rw [seqIndex_of h0 h1, e], by omega, by omega, h1⟩
    · rw [if_neg h1] at h; cases h
  · rw [if_neg h0] at h
    by_cases h1 : -(n : Int) ≤ i
    · rw [if_pos h1] at h
      have e : (i + n).toNat = j := Option.some.inj h
      exact ⟨by rw [seqIndex_neg (by omega) h1, e], by omega, h1, by omega⟩
    · rw [if_neg h1] at h; cases h
theorem atI_get {α : Type} {xs : List α} {i : Int} {v : α} (h : atI xs i = some v) : ∃ j, seqIndex? i xs.length = some j ∧ xs[j]? = some v ∧ j < xs.length ∧ -(xs.length : Int) ≤ i ∧ i < xs.length := by
  unfold atI at h
  cases e : ixN xs.length i with
  | none => rw [e] at h; cases h
  | some j =>
    rw [e] at h
    obtain ⟨h1, h2, h3, h4⟩ := ixN_seq e
    exact ⟨j, h1, h, h2, h3, h4⟩
theorem atI_nat {α : Type} {xs : List α} {j : Nat} {v : α} (h : xs[j]? = some v) : atI xs (j : Int) = some v := by
  have hj : j < xs.length := (List.getElem?_eq_some_iff.mp h).1
  have e : ixN xs.length (j : Int) = some j := by
    unfold ixN
    rw [if_pos (by omega), if_pos (by omega)]; simp
  unfold atI; rw [e]; exact h
/-! ### what may be subscripted -/
/-- what stands as an index of a plain subscript -/
def PlainIx (b : Expr) : Prop := ∀ o i, subscripted b false o i = operate [o, i] (getItem o i)
/-- a subscript by values -/
def IxR (X : Cx) (r : R2) : Prop :=
  ∀ (value slice : Expr) (pins : List (Addr × Obj)) (s : Shared) (σ : St) (H : Hp) (x y : V) (v u : Value) (Q : VK), Inv X pins σ H s → RelV x v → RelV y u → r x y H Q →
    subscripted slice false v u = operate [v, u] (getItem v u) → wpAny (model X.prog X.w) X.A (subscriptTail value slice v u) (EP X pins σ Q) X.xe s
/-- a call of a builtin's method by values: the receiver, the arguments -/
def MtR (X : Cx) (id : String) (r : V → List V → Hp → VK → Prop) : Prop :=
  ∀ (pins : List (Addr × Obj)) (s : Shared) (σ : St) (H : Hp) (x : V) (xs : List V) (v : Value) (us : List Value) (Q : VK), Inv X pins σ H s → RelV x v → Vals xs us → r x xs H Q →
    wpAny (model X.prog X.w) X.A (call (.builtin id) (v :: us)) (EP X pins σ Q) X.xe s
section
variable {X : Cx} {a b : Expr} {ta tb : TE} {pos : Pos}
/-- a[b] -/
theorem pe_ix {r : R2} (hr : IxR X r) (ha : PE X a ta) (hb : PE X b tb) (hs : PlainIx b) : PE X (.Subscript a b pos) (tOp r ta tb) := by
  intro pins s σ H Q I h
  exact Subscript_ (binT ha hb I h fun v u s2 x y H2 I2 rx ry q => hr a b pins s2 σ H2 x y v u Q I2 rx ry q (hs _ _))

def rIxL (K : PySem.W.Frag) : R2 := fun x y H Q => ∃ p xs i v, x = .ref p ∧ y = .int i ∧ SqL K H p xs ∧ atI xs i = some v ∧ Q v H
def rIxT (K : PySem.W.Frag) : R2 := fun x y H Q => ∃ p xs i v, x = .ref p ∧ y = .int i ∧ SqT K H p xs ∧ atI xs i = some v ∧ Q v H
def rIxS : R2 := fun x y H Q => ∃ z i c, x = .str z ∧ y = .int i ∧ z.length ≤ sizeLine ∧ atI z.cps.toList i = some c ∧ Q (.str ⟨#[c]⟩) H
theorem ix_list : IxR X (rIxL X.K) := by
  intro value slice pins s σ H x y v u Q I rx ry h hs
  obtain ⟨p, xs, i, z, rfl, rfl, hq, he, q⟩ := h
  cases rx
  obtain ⟨t, rfl⟩ := ry
  obtain ⟨its, r, pl, hz⟩ := I.list hq
  obtain ⟨j, h1, h2, h3, h4, h5⟩ := atI_get he
  obtain ⟨w, ew, rw'⟩ := r.get h2
  have hl := r.length
  have hn := line63
  have fin : EP X pins σ Q w s := ⟨z, H, I, rw', q⟩
  by_cases h0 : 0 ≤ i
  · have hj : i.toNat = j := by
      rw [seqIndex_of h0 h5] at h1
      exact Option.some.inj h1
    exact item_listR pl.isList h0 (by omega) (by rw [hj]; simpa using ew) fin hs
  · have hj : (i + (its.toArray.size : Int)).toNat = j := by
      rw [seqIndex_neg (by omega) h4] at h1
      rw [List.size_toArray, ← hl]
      exact Option.some.inj h1
    exact subscriptTail_builtinR (x := w) pl.isList.typeIs slot_list_getitem.lookup
      (wpAny_getItem_list_neg (Q := fun r s' => r = w ∧ EP X pins σ Q r s') pl.isList (by omega) (by rw [List.size_toArray] <;> omega) (by omega) (by rw [hj]; simpa using ew) ⟨rfl, fin⟩) hs
theorem ix_tup : IxR X (rIxT X.K) := by
  intro value slice pins s σ H x y v u Q I rx ry h hs
  obtain ⟨p, xs, i, z, rfl, rfl, hq, he, q⟩ := h
  cases rx
  obtain ⟨t, rfl⟩ := ry
  obtain ⟨its, r, pl, hz⟩ := I.tuple hq
  obtain ⟨j, h1, h2, h3, h4, h5⟩ := atI_get he
  obtain ⟨w, ew, rw'⟩ := r.get h2
  have hl := r.length
  have hn := line63
  have fin : EP X pins σ Q w s := ⟨z, H, I, rw', q⟩
  exact subscriptTail_builtinR (x := w) pl.typeIs slot_tuple_getitem.lookup
    (getItem_tuple (j := j) (Q := fun r s' => r = w ∧ EP X pins σ Q r s') pl (by omega) (by omega) (by rw [List.size_toArray, ← hl]; exact h1) (by simpa using ew) ⟨rfl, fin⟩) hs
theorem ix_str : IxR X rIxS := by
  intro value slice pins s σ H x y v u Q I rx ry h hs
  obtain ⟨z, i, c, rfl, rfl, hz, he, q⟩ := h
  obtain ⟨t, rfl⟩ := rx
  obtain ⟨t', rfl⟩ := ry
  obtain ⟨j, h1, h2, h3, h4, h5⟩ := atI_get he
  have hl : z.cps.toList.length = z.length := by simp [Str.length]
  rw [hl] at h1 h4 h5
  have hn := line63
  exact tail_any (typeIs_str s z t) slot_str_getitem.lookup (getItem_str (c := c) (by
    have e1 : decide (i < -(2 ^ 63 : Int)) = false := decide_eq_false (by omega)
    have e2 : decide (i ≥ 2 ^ 63) = false := decide_eq_false (by omega)
    rw [e1, e2, Bool.or_false]) (by rw [h1]; simpa using h2) ⟨.str ⟨#[c]⟩, H, I.tok _, ⟨_, rfl⟩, q⟩) hs
/-- list, tuple or str -/
def rIx (K : PySem.W.Frag) : R2 := fun x y H Q => rIxL K x y H Q ∨ rIxT K x y H Q ∨ rIxS x y H Q
/-! ### xs[i] = v, any sign -/
def rSetL : V → V → V → Hp → (Hp → Prop) → Prop := fun o i v H Q => ∃ p xs k j, o = .ref p ∧ i = .int k ∧ H p = some (.lst xs) ∧ ixN xs.length k = some j ∧ Q (upd H p (.lst (xs.set j v)))
/-! ### slices -/
theorem slice_bounds (lo hi : Option Int) (n : Nat) : (sliceBounds lo hi none n).1 = ((HT.sIx n 0 lo : Nat) : Int) ∧ (sliceBounds lo hi none n).2.1 = ((HT.sIx n n hi : Nat) : Int) ∧ (sliceBounds lo hi none n).2.2 = 1 := by
  refine ⟨?_, ?_, rfl⟩
  · cases lo with
    | none => simp [sliceBounds, HT.sIx]
    | some i =>
      simp only [sliceBounds, HT.sIx, Option.getD_none, show (1 : Int) > 0 by decide, if_true]
      by_cases h : i < 0
      · simp only [h, if_true] <;> omega
      · simp only [h, if_false] <;> omega
  · cases hi with
    | none => simp [sliceBounds, HT.sIx]
    | some i =>
      simp only [sliceBounds, HT.sIx, Option.getD_none, show (1 : Int) > 0 by decide, if_true]
      by_cases h : i < 0
      · simp only [h, if_true] <;> omega
      · simp only [h, if_false] <;> omega
theorem slicePick_cut (its : List Value) (lo hi : Option Int) : slicePick its.toArray lo hi none = ((its.drop (HT.sIx its.length 0 lo)).take (HT.sIx its.length its.length hi - HT.sIx its.length 0 lo)).toArray := by
  obtain ⟨h1, h2, h3⟩ := slice_bounds lo hi its.toArray.size
  unfold slicePick
  rw [h1, h2, h3]
  simp only [sliceRange_one, pick_run, List.size_toArray] <;> rfl
/-- xs[lo:hi] of a list: a new list -/
def rSlL (K : PySem.W.Frag) : V → Option Int → Option Int → Hp → VK → Prop := fun x lo hi H Q => ∃ a xs, x = .ref a ∧ SqL K H a xs ∧ ∀ p, H p = none → Q (.ref p) (upd H p (.lst (cutV xs lo hi)))
theorem sl_list : SlR X (rSlL X.K) := by
  intro pins s σ H x v vl vu lo hi sl Q I rx hs pl pu h
  obtain ⟨a, xs, rfl, hx, q⟩ := h
  cases rx
  obtain ⟨its, r, ht, hz⟩ := I.list hx
  have hlen := r.length
  refine ⟨"list", _, slot_list_getitem.lookup, ht.isList.typeIs, ?_⟩
  refine wpAny_getItem_list_slice ht.isList hs pl pu .none (by simp) ?_ (by rw [List.size_toArray] <;> omega)
  rw [slicePick_cut, ← hlen]
  refine ⟨.ref s.heap.objs.size, _, I.laid (t' := s.toks) (o := .lst (cutV xs lo hi)) (fun b ob q => Heap.get?_push_of_some _ q) (Nat.le_refl _) ?_, rfl, q _ (I.hok.fresh (Nat.le_refl _))⟩
  exact ⟨Nat.le_trans (cutV_length xs lo hi) hz, _, 0, (r.drop (HT.sIx xs.length 0 lo)).take (HT.sIx xs.length xs.length hi - HT.sIx xs.length 0 lo), Heap.get?_push_size _ rfl⟩

/-! ### in, not in: flat items -/
def flatV : V → Bool
  | .non => true
  | .bl _ => true
  | .int _ => true
  | .str _ => true
  | _ => false
/-- == of flat values -/
def eqV : V → V → Bool
  | .non, .non => true
  | .bl a, .bl b => a == b
  | .bl a, .int b => (if a then 1 else 0) == b
  | .int a, .bl b => a == (if b then 1 else 0)
  | .int a, .int b => a == b
  | .str a, .str b => a == b
  | _, _ => false
theorem eqAt_V {A : Around} {s : Shared} {y x : V} {u v : Value} (ry : RelV y u) (rx : RelV x v) (fy : flatV y = true) (fx : flatV x = true) : SeqAt.EqAt A s u v (eqV y x) := by
  cases y with
  | non =>
    cases ry
    cases x with
    | non => cases rx; exact SeqAt.EqAt.same _
    | bl b => cases rx; exact SeqAt.EqAt.none_bool b
    | int b => obtain ⟨t, rfl⟩ := rx; exact SeqAt.EqAt.none_int b t
    | str b => obtain ⟨t, rfl⟩ := rx; exact SeqAt.EqAt.none_str b t
    | _ => exact absurd (show false = true from fx) Bool.false_ne_true
  | bl a =>
    cases ry
    cases x with
    | non => cases rx; exact SeqAt.EqAt.bool_none a
    | bl b => cases rx; exact SeqAt.EqAt.bool_bool a b
    | int b => obtain ⟨t, rfl⟩ := rx; exact SeqAt.EqAt.bool_int a b t
    | str b => obtain ⟨t, rfl⟩ := rx; exact SeqAt.EqAt.bool_str a b t
    | _ => exact absurd (show false = true from fx) Bool.false_ne_true
  | int a =>
    obtain ⟨t', rfl⟩ := ry
    cases x with
    | non => cases rx; exact SeqAt.EqAt.int_none a t'
    | bl b => cases rx; exact SeqAt.EqAt.int_bool a t' b
    | int b => obtain ⟨t, rfl⟩ := rx; exact SeqAt.EqAt.int_int a t' b t
    | str b => obtain ⟨t, rfl⟩ := rx; exact SeqAt.EqAt.int_str a t' b t
    | _ => exact absurd (show false = true from fx) Bool.false_ne_true
  | str a =>
    obtain ⟨t', rfl⟩ := ry
    cases x with
    | non => cases rx; exact SeqAt.EqAt.str_none a t'
    | bl b => cases rx; exact SeqAt.EqAt.str_bool a t' b
    | int b => obtain ⟨t, rfl⟩ := rx; exact SeqAt.EqAt.str_int a t' b t
    | str b => obtain ⟨t, rfl⟩ := rx; exact SeqAt.EqAt.str_str a t' b t
    | _ => exact absurd (show false = true from fx) Bool.false_ne_true
  | _ => exact absurd (show false = true from fy) Bool.false_ne_true
/-- the items' answers, read off the values (a value's own answer does not lean on its token) -/
def eqU (x : V) (u : Value) : Bool := match u with
  | .none => eqV .non x
  | .bool b => eqV (.bl b) x
  | .int i _ => eqV (.int i) x
  | .str z _ => eqV (.str z) x
  | _ => false
theorem eqU_of {x y : V} {u : Value} (r : RelV y u) (f : flatV y = true) : eqU x u = eqV y x := by
  cases y with
  | non => cases r; rfl
  | bl b => cases r; rfl
  | int i => obtain ⟨t, rfl⟩ := r; rfl
  | str z => obtain ⟨t, rfl⟩ := r; rfl
  | _ => exact absurd (show false = true from f) Bool.false_ne_true
theorem any_eqU {x : V} : ∀ {xs : List V} {us : List Value}, Vals xs us → xs.all flatV = true → us.any (eqU x) = xs.any fun y => eqV y x
  | _, _, .nil, _ => rfl
  | y :: xs, u :: us, .cons r t, f => by
    rw [List.all_cons, Bool.and_eq_true] at f
    rw [List.any_cons, List.any_cons, eqU_of r f.1, any_eqU t f.2]
theorem mem_eqAt {A : Around} {s : Shared} {x : V} {v : Value} (rx : RelV x v) (fx : flatV x = true) : ∀ {xs : List V} {us : List Value}, Vals xs us → xs.all flatV = true → ∀ u ∈ us, SeqAt.EqAt A s u v (eqU x u)
  | _, _, .nil, _ => fun u hu => by cases hu
  | y :: xs, u :: us, .cons r t, f => fun u' hu => by
    rw [List.all_cons, Bool.and_eq_true] at f
    rcases List.mem_cons.mp hu with rfl | hu
    · rw [eqU_of r f.1]; exact eqAt_V r rx f.1 fx
    · exact mem_eqAt rx fx t f.2 u' hu
def inV (x : V) (xs : List V) : Bool := xs.any fun y => eqV y x
/-- x in a list or tuple of flat items -/
def rIn (K : PySem.W.Frag) (neg : Bool) : R2 := fun x y H Q => ∃ p xs, y = .ref p ∧ (SqL K H p xs ∨ SqT K H p xs) ∧ flatV x = true ∧ xs.all flatV = true ∧ Q (.bl (if neg then !inV x xs else inV x xs)) H
theorem op_in_seq : OpR X (compareOp .In) (rIn X.K false) := by
  intro pins s σ H x y v u Q I rx ry h
  obtain ⟨p, xs, rfl, hq, fx, fs, q⟩ := h
  cases ry
  rcases hq with hq | hq
  · obtain ⟨its, r, pl, hz⟩ := I.list hq
    refine SeqAt.in_listAt (eqU x) pl.isList (fun w hw => mem_eqAt rx fx r fs w (by simpa using hw)) ⟨.bl _, H, I, rfl, ?_⟩
    rw [show its.toArray.any (eqU x) = its.any (eqU x) by simp, any_eqU r fs]
    exact q
  · obtain ⟨its, r, pl, hz⟩ := I.tuple hq
    refine SeqAt.in_tupleAt (eqU x) pl (fun w hw => mem_eqAt rx fx r fs w (by simpa using hw)) ⟨.bl _, H, I, rfl, ?_⟩
    rw [show its.toArray.any (eqU x) = its.any (eqU x) by simp, any_eqU r fs]
    exact q
/-! ### len, list(x), tuple(x) of any list or tuple that is read -/
theorem call_len_seq : CallR X (.builtin "len") (fun xs H Q => ∃ p ys, xs = [.ref p] ∧ (SqL X.K H p ys ∨ SqT X.K H p ys) ∧ Q (.int ys.length) H) := by
  intro pins s σ H xs us Q I r h
  obtain ⟨p, ys, rfl, hq, q⟩ := h
  obtain ⟨u, rfl, rx⟩ := vals1 r
  cases rx
  have hn := line63
  rcases hq with hq | hq
  · obtain ⟨its, r', pl, hz⟩ := I.list hq
    have hlen := r'.length
    exact Calls.call_len_list pl.isList (by simp only [List.size_toArray] <;> omega) ⟨.int ys.length, H, I.tok _, ⟨s.toks + 1, by rw [List.size_toArray, hlen]⟩, q⟩
  · obtain ⟨its, r', pl, hz⟩ := I.tuple hq
    have hlen := r'.length
    exact len_tuple pl (by simp only [List.size_toArray] <;> omega) ⟨.int ys.length, H, I.tok _, ⟨s.toks + 1, by rw [List.size_toArray, hlen]⟩, q⟩
theorem call_len_str : CallR X (.builtin "len") (fun xs H Q => ∃ z, xs = [.str z] ∧ z.length ≤ sizeLine ∧ Q (.int z.length) H) := by
  intro pins s σ H xs us Q I r h
  obtain ⟨z, rfl, hz, q⟩ := h
  obtain ⟨u, rfl, t, rfl⟩ := vals1 r
  have hn := line63
  exact len_str (by omega) ⟨.int z.length, H, I.tok _, ⟨_, rfl⟩, q⟩
theorem call_tuple_of : CallR X (.type "tuple") (fun xs H Q => ∃ p ys, xs = [.ref p] ∧ ((SqL X.K H p ys ∧ ∀ l, H l = none → Q (.ref l) (upd H l (.tup ys))) ∨ (SqT X.K H p ys ∧ Q (.ref p) H))) := by
  intro pins s σ H xs us Q I r h
  obtain ⟨p, ys, rfl, h⟩ := h
  obtain ⟨u, rfl, rx⟩ := vals1 r
  cases rx
  rcases h with ⟨hq, q⟩ | ⟨hq, q⟩
  · obtain ⟨its, r', pl, hz⟩ := I.list hq
    have hlen := r'.length
    refine call_tuple_list pl.isList (fun h' kp => ?_) (by simp only [List.size_toArray] <;> omega)
    have I1 : Inv X pins σ H { s with heap := h' } := I.kept (t' := s.toks) kp
    have I2 : Inv X pins σ (upd H h'.objs.size (.tup ys)) { s with heap := h'.push { cls := .type "tuple", data := .seq its.toArray } } :=
      I1.laid (t' := s.toks) (fun b o e => Heap.get?_push_of_some _ e) (Nat.le_refl _) (show ObjOk X.prog X.w _ _ _ (.tup ys) from ⟨hz, its, r', IsTup.new _ _⟩)
    exact ⟨.ref h'.objs.size, _, I2, rfl, q _ (I1.hok.fresh (Nat.le_refl _))⟩
  · obtain ⟨its, r', pl, hz⟩ := I.tuple hq
    exact call_tuple_same pl ⟨.ref p, H, I, rfl, q⟩

/-! ### the call of a builtin's method: o.m(..) -/
/-- the value is of that builtin type -/
def tyV (K : PySem.W.Frag) (T : String) (x : V) (H : Hp) : Prop := match x with
  | .str _ => T = "str"
  | .int _ => T = "int"
  | .ref p => (T = "list" ∧ ∃ xs, SqL K H p xs) ∨ (T = "tuple" ∧ ∃ o, K.lookup p = some o ∧ o.cls = .type "tuple" ∧ o.dict = none) ∨
      (T = "dict" ∧ ((∃ kvs, H p = some (.dK kvs)) ∨ ∃ kvs, H p = some (.dT kvs))) ∨ (T = "set" ∧ ∃ S n, H p = some (.set S n))
  | _ => False
theorem tyV_is {pins : List (Addr × Obj)} {σ : St} {H : Hp} {s : Shared} {T : String} {x : V} {v : Value} (I : Inv X pins σ H s) (r : RelV x v) (ty : tyV X.K T x H) :
    s.TypeIs v T ∧ ∀ a, v = .ref a → ∃ ob, s.heap.get? a = some ob ∧ ob.dict = none := by
  cases x with
  | str z =>
    obtain ⟨t, rfl⟩ := r
    cases (show T = "str" from ty)
    exact ⟨typeIs_str s z t, fun _ e => nomatch e⟩
  | int i =>
    obtain ⟨t, rfl⟩ := r
    cases (show T = "int" from ty)
    exact ⟨typeIs_int s i t, fun _ e => nomatch e⟩
  | ref p =>
    cases r
    rcases ty with ⟨rfl, xs, hq⟩ | ⟨rfl, o, hk, hc, hd⟩ | ⟨rfl, hk⟩ | ⟨rfl, S, n, hk⟩
    · obtain ⟨its, _, pl, _⟩ := I.list hq
      refine ⟨pl.isList.typeIs, fun a e => ?_⟩
      cases e
      obtain ⟨o, n, e, c, hd, _⟩ := pl
      exact ⟨o, e, hd⟩
    · refine ⟨⟨o, I.kIn p o hk, hc⟩, fun a e => ?_⟩
      cases e
      exact ⟨o, I.kIn _ o hk, hd⟩
    · have z : ∃ o, s.heap.get? p = some o ∧ o.ExactDict := by
        rcases hk with ⟨kvs, hk⟩ | ⟨kvs, hk⟩
        · obtain ⟨_, _, _, _, o, _, _, e, ex, _⟩ := I.hok p _ hk
          exact ⟨o, e, ex⟩
        · obtain ⟨_, _, _, _, o, _, _, e, ex, _⟩ := I.hok p _ hk
          exact ⟨o, e, ex⟩
      obtain ⟨o, e, ex⟩ := z
      refine ⟨⟨o, e, ex.1⟩, fun a e2 => ?_⟩
      cases e2
      exact ⟨o, e, ex.2.1⟩
    · obtain ⟨o, _, _, _, e, ex, _⟩ := I.hok p _ hk
      refine ⟨⟨o, e, ex.1⟩, fun a e2 => ?_⟩
      cases e2
      exact ⟨o, e, ex.2.1⟩
  | _ => exact False.elim ty
def tBM0 (K : PySem.W.Frag) (T : String) (r : V → List V → Hp → VK → Prop) (to : TE) : TE := fun σ H Q => to σ H fun x H1 => tyV K T x H1 ∧ r x [] H1 Q
def tBM (K : PySem.W.Frag) (T : String) (r : V → List V → Hp → VK → Prop) (to : TE) (t : TA) : TE := fun σ H Q => to σ H fun x H1 => tyV K T x H1 ∧ t σ H1 fun xs H2 => r x xs H2 Q
variable {o e : Expr} {es : List Expr} {to : TE} {t : TA} {name : Str} {apos cpos : Pos} {T id : String} {r : V → List V → Hp → VK → Prop}
theorem pe_bm0 (pa : PlainAttrs T) (slot : Slot T name id) (hty : typeOf (.builtin id) = pure (.type "method_descriptor")) (hm : MtR X id r) (ho : PE X o to)
    (hbase : attributeBase o name X.env (eval o X.env) = eval o X.env := by rfl) (hline : (apos.endLine == cpos.line) = true := by rfl) : PE X (.Call (.Attribute o name apos) [] [] cpos) (tBM0 X.K T r to) := by
  intro pins s σ H Q I h
  refine wpAny_Call_method0_late hbase hline (thn (ho pins s σ H _ I h) fun v s1 ⟨x, H1, I1, r1, ty, q1⟩ => ?_)
  obtain ⟨h1, h2⟩ := tyV_is I1 r1 ty
  exact ⟨T, id, pa, slot, hty, h1, h2, Calls.callWith_builtin rfl (PySem.evalArgs_none (hm pins s1 σ H1 x [] v [] Q I1 r1 .nil q1))⟩
theorem pe_bm (pa : PlainAttrs T) (slot : Slot T name id) (hty : typeOf (.builtin id) = pure (.type "method_descriptor")) (hm : MtR X id r) (ho : PE X o to) (ha : PA X (e :: es) t)
    (hbase : attributeBase o name X.env (eval o X.env) = eval o X.env := by rfl)
    (hfew : ((backTo cpos (starEach (e :: es) X.env)).all (fun x => !x.1) && (backToKw cpos (keywordEach [] X.env)).all (fun x => x.1.isSome)
      && decide ((e :: es).length + ([] : List Keyword).length + (if ([] : List Keyword).isEmpty then 0 else 1) < 30)) = true := by rfl)
    (hline : (apos.endLine == cpos.line) = true := by rfl) (hs : starEach (e :: es) X.env = (false, eval e X.env) :: starEach es X.env := by rfl) (hplain : (backTo cpos (starEach es X.env)).any (·.1) = false := by rfl) :
    PE X (.Call (.Attribute o name apos) (e :: es) [] cpos) (tBM X.K T r to t) := by
  intro pins s σ H Q I h
  refine wpAny_Call_method_late hbase hfew hline rfl (thn (ho pins s σ H _ I h) fun v s1 ⟨x, H1, I1, r1, ty, q1⟩ => ?_)
  obtain ⟨h1, h2⟩ := tyV_is I1 r1 ty
  refine ⟨T, id, pa, slot, hty, h1, h2, ?_⟩
  have hA := ha cpos pins s1 σ H1 _ I1 q1
  rw [hs] at hA ⊢
  refine Calls.callWith_builtin (by show (false || (backTo cpos (starEach es X.env)).any (·.1)) = false; rw [hplain] <;> rfl) (Calls.evalArgs_plain ?_)
  exact thn hA fun us s2 ⟨vs, H2, I2, r2, q2⟩ => hm pins s2 σ H2 x vs v us Q I2 r1 r2 q2
/- xs.append(e), list.index on a module's tuple .. are MtR facts of 06m -/
end
end L2

namespace L2
open PySem PySem.Spec PyProof.Rows

def MtM (X : Cx) (id : String) (r : V → List V → Hp → VK → Prop) : Prop :=
  ∀ (pins : List (Addr × Obj)) (s : Shared) (σ : St) (H : Hp) (x : V) (xs : List V) (v : Value) (us : List Value) (Q : VK), Inv X pins σ H s → RelV x v → Vals xs us → r x xs H Q →
    wpAny (model X.prog X.w) X.A (call (.builtin id) (v :: us)) (EP X pins σ Q) X.xe s

/-! ### lists of values -/
theorem Vals.one : ∀ {x : V} {us : List Value}, Vals [x] us → ∃ u, us = [u] ∧ RelV x u
  | _, _, .cons r .nil => ⟨_, rfl, r⟩
theorem Vals.eraseIdx : ∀ {xs : List V} {us : List Value} (i : Nat), Vals xs us → Vals (xs.eraseIdx i) (us.eraseIdx i)
  | _, _, _, .nil => .nil
  | _, _, 0, .cons _ t => t
  | _, _, i + 1, .cons r t => .cons r (Vals.eraseIdx i t)
theorem len_erase {α : Type} : ∀ (l : List α) (i : Nat), (l.eraseIdx i).length ≤ l.length
  | [], _ => Nat.le_refl _
  | _ :: _, 0 => Nat.le_succ _
  | _ :: r, i + 1 => Nat.succ_le_succ (len_erase r i)
section
variable {X : Cx} {pins : List (Addr × Obj)} {σ : St} {H : Hp} {s : Shared} {l b : Addr} {xs ys zs : List V}

/-! ### the two steps: a tracked list is rewritten, a new list is laid -/
theorem Inv.lset {its its' : List Value} {n : Nat} {f : Array Value → Array Value} {t' : Nat} (I : Inv X pins σ H s) (hH : H l = some (.lst xs))
    (e : s.heap.get? l = some { cls := .type "list", data := .seq its.toArray n }) (hf : f its.toArray = its'.toArray) (hv : Vals ys its') (hz : ys.length ≤ sizeLine) :
    Inv X pins σ (upd H l (.lst ys)) { s with heap := s.heap.update l (Obj.mapSeq f), toks := t' } := by
  have q := PySem.IsL.update e f
  rw [hf] at q
  refine I.write (x := l) (e := l) (by rw [hH]; exact trivial) (.inl rfl) (fun b' u hb hu => (Heap.get?_update_other s.heap (Obj.mapSeq f) (Ne.symm hb)).trans hu) ⟨_, q⟩ ?_
  exact ⟨hz, its', _, hv, q⟩
theorem Inv.lnew {its : List Value} {t' : Nat} (I : Inv X pins σ H s) (hv : Vals ys its) (hz : ys.length ≤ sizeLine) :
    Inv X pins σ (upd H s.heap.objs.size (.lst ys)) { s with heap := s.heap.push { cls := .type "list", data := .seq its.toArray }, toks := t' } :=
  I.laid (fun _ _ q => Heap.get?_push_of_some _ q) (Nat.le_refl _) ⟨hz, its, 0, hv, Heap.get?_push_size _ rfl⟩
theorem Inv.fresh (I : Inv X pins σ H s) : H s.heap.objs.size = none := I.hok.fresh (Nat.le_refl _)
theorem Inv.lstM (I : Inv X pins σ H s) (hH : H l = some (.lst xs)) : xs.length ≤ sizeLine ∧ ∃ (its : List Value) (n : Nat), Vals xs its ∧ xs.length = its.length ∧ s.heap.get? l = some { cls := .type "list", data := .seq its.toArray n } := by
  obtain ⟨z, its, n, r, e⟩ := I.hok l _ hH
  exact ⟨z, its, n, r, r.length, e⟩

end

section
variable {X : Cx}

/-! ### methods -/
def rAppend : V → List V → Hp → VK → Prop := fun x vs H Q => ∃ l xs y, x = .ref l ∧ vs = [y] ∧ H l = some (.lst xs) ∧ xs.length < sizeLine ∧ Q .non (upd H l (.lst (xs ++ [y])))
theorem mt_append : MtM X "list.append" rAppend := by
  intro pins s σ H x vs v us Q I rx rv h
  obtain ⟨l, xs, y, rfl, rfl, hH, hz, q⟩ := h
  cases rx
  obtain ⟨u, rfl, ru⟩ := rv.one
  obtain ⟨z, its, n, r, hl, e⟩ := I.lstM hH
  refine call_meets F.slot_list_append ⟨_, e, rfl⟩ F.entry_list_append (F.args_list_append_2 _ _) (PySem.list_append l its.toArray n u (by rw [List.size_toArray]; omega)) ⟨e, ?_⟩
  refine ⟨.non, _, I.lset (its' := its ++ [u]) hH e (by simp) (r.append (.cons ru .nil)) ?_, rfl, q⟩
  rw [List.length_append, List.length_singleton]
  omega

def rExtend : V → List V → Hp → VK → Prop := fun x vs H Q => ∃ l b xs zs, x = .ref l ∧ vs = [.ref b] ∧ H l = some (.lst xs) ∧ H b = some (.lst zs) ∧ xs.length + zs.length ≤ sizeLine ∧ Q .non (upd H l (.lst (xs ++ zs)))
def rPop : V → List V → Hp → VK → Prop := fun x vs H Q => ∃ l xs y, x = .ref l ∧ vs = [] ∧ H l = some (.lst xs) ∧ xs[xs.length - 1]? = some y ∧ Q y (upd H l (.lst xs.dropLast))
def rPopAt : V → List V → Hp → VK → Prop := fun x vs H Q => ∃ l xs i k y, x = .ref l ∧ vs = [.int i] ∧ H l = some (.lst xs) ∧ -(2 ^ 63) ≤ i ∧ i < 2 ^ 63 ∧ seqIndex? i xs.length = some k ∧ xs[k]? = some y ∧ Q y (upd H l (.lst (xs.eraseIdx k)))
theorem mt_popAt : MtM X "list.pop" rPopAt := by
  intro pins s σ H x vs v us Q I rx rv h
  obtain ⟨l, xs, i, k, y, rfl, rfl, hH, h1, h2, hk, hy, q⟩ := h
  cases rx
  obtain ⟨u, rfl, ru⟩ := rv.one
  obtain ⟨t, rfl⟩ := ru
  obtain ⟨z, its, n, r, hl, e⟩ := I.lstM hH
  obtain ⟨w, hw, rw'⟩ := r.get hy
  refine call_meets F.slot_list_pop ⟨_, e, rfl⟩ F.entry_list_pop (F.args_list_pop_2 _ _)
    (MeetsSeq.list_pop_at l its.toArray n i t k w (fitsIndex_both h1 h2) (by rw [List.size_toArray, ← hl]; exact hk) (by rw [← Array.getElem?_toList]; exact hw) (by rw [List.size_toArray]; omega)) ⟨e, ?_⟩
  refine ⟨y, _, I.lset (its' := its.eraseIdx k) hH e ?_ (r.eraseIdx k) ?_, rw', q⟩
  · show its.toArray.eraseIdxIfInBounds k = (its.eraseIdx k).toArray
    rw [List.eraseIdxIfInBounds_toArray]
  · have := len_erase xs k
    omega

def rReverse : V → List V → Hp → VK → Prop := fun x vs H Q => ∃ l xs, x = .ref l ∧ vs = [] ∧ H l = some (.lst xs) ∧ Q .non (upd H l (.lst xs.reverse))
def rClear : V → List V → Hp → VK → Prop := fun x vs H Q => ∃ l xs, x = .ref l ∧ vs = [] ∧ H l = some (.lst xs) ∧ Q .non (upd H l (.lst []))
/-! ### list + list, list += list, list * int -/
def rCat : R2 := fun x y H Q => ∃ l b xs zs, x = .ref l ∧ y = .ref b ∧ H l = some (.lst xs) ∧ H b = some (.lst zs) ∧ xs.length + zs.length ≤ sizeLine ∧ ∀ p, H p = none → Q (.ref p) (upd H p (.lst (xs ++ zs)))
theorem op_cat : OpR X (binaryOp .Add) rCat := by
  intro pins s σ H x y v u Q I rx ry h
  obtain ⟨l, b, xs, zs, rfl, rfl, hH, hB, hz, q⟩ := h
  cases rx
  cases ry
  obtain ⟨z, its, n, r, hl, e⟩ := I.lstM hH
  obtain ⟨z2, its2, n2, r2, hl2, e2⟩ := I.lstM hB
  refine PySem.P.add_list e e2 ?_ (by rw [List.size_toArray, List.size_toArray]; omega)
  have ea : its.toArray ++ its2.toArray = (its ++ its2).toArray := by simp
  rw [ea]
  exact ⟨.ref _, _, I.lnew (t' := s.toks) (r.append r2) (by rw [List.length_append]; omega), rfl, q _ I.fresh⟩
/-- a list times an int (a negative one is nothing) -/
def rRep : R2 := fun x y H Q => ∃ l k xs, x = .ref l ∧ y = .int k ∧ H l = some (.lst xs) ∧ -(2 ^ 63) ≤ k ∧ k < 2 ^ 63 ∧ xs.length * k.toNat ≤ sizeLine ∧
  ∀ p, H p = none → Q (.ref p) (upd H p (.lst (List.replicate k.toNat xs).flatten))
/-! ### del xs[i] -/
end

/-! ### xs[a:b] = ys -/
section
variable {prog : Program} {w : World} {A : Around} {E : Value → Shared → Prop} {s : Shared}
end

section
variable {X : Cx}
end
end L2

namespace Att
open PySem PySem.W PySem.Calls PyProof.Rows

/-! ### the script -/
theorem ints_of_wellAll {P : Params} {h : Heap} : ∀ (ns : List Int) (vs : List Value), WellAll P h vs (ns.map WData.int) → IntsAre vs ns := by
  intro ns
  induction ns with
  | nil =>
    intro vs w
    rw [List.map_nil] at w
    cases w
    exact .nil
  | cons n ns ih =>
    intro vs w
    rw [List.map_cons] at w
    cases w with
    | cons a b =>
      cases a
      exact .cons _ _ (ih _ b)

theorem script_of {l : OpenLaw} {n : Nat} (hn : l.most = some n) {P : Params} {h : Heap} {args : List WData} {vals : List Value}
    (hpre : l.row.toRowW.claim.pre args = true) (hwl : WellAll P h vals args) :
    ∃ a vs ns, vals = [Value.ref a] ∧ args = [WData.list (ns.map WData.int)] ∧ h.get? a = some { cls := .type "list", data := .seq vs.toArray } ∧ IntsAre vs ns ∧ ns.length ≤ n := by
  have hsh : WShape.hasAll [] args [.list .int] = true := (pre_splitW hpre).1
  have hc : l.pre.holds [] { args := args } = true := (pre_splitW hpre).2
  obtain ⟨d, r, rfl, h1, h2⟩ := hasAllW_cons hsh
  obtain rfl := hasAllW_nil h2
  obtain ⟨xs, rfl, h3⟩ := hasW_list h1
  obtain ⟨ns, rfl⟩ := items_int h3
  have hlen : ns.length ≤ n := by
    unfold OpenLaw.pre at hc
    have h4 : (WTm.not (.lt (.lit (.int (n : Int))) (.len (.arg 0)))).holds [] { args := [.list (ns.map .int)] } = true := by
      have h4 := (holds_andW hc).1
      rw [hn] at h4
      exact h4
    have h5 := condW_of h4 (w_not (w_lt w_lit (w_len_list (w_arg rfl))))
    rw [List.length_map] at h5
    refine Nat.le_of_not_lt fun q => ?_
    have q' : (n : Int) < ((ns.length : Nat) : Int) := by omega
    first
      | (rw [decide_eq_true q'] at h5; exact absurd h5 (by decide))
      | (simp at h5; omega)
  cases hwl with
  | cons w1 w2 =>
    cases w2
    cases w1 with
    | list ho hall => exact ⟨_, _, ns, rfl, rfl, ho, ints_of_wellAll ns _ hall, hlen⟩

theorem post_true (l : OpenLaw) (args : List WData) : l.row.toRowW.claim.post args (.bool true) args = true :=
  postW_of (r := l.row.toRowW) (X := (true == true))
    (show WShape.has [] (.bool true) .bool = true by first | rfl | decide | simp [WShape.has, WShape.arms, WShape.armsAll])
    (show (WTm.eq .res (.lit (.bool true))).value [] { args := args, res := some (.bool true), after := args } = some (.bool (true == true)) from w_eq_bool (w_res rfl) w_lit) rfl

/-! ### the attachment: holds_open's last premise (the goal 'hc' behind k_head) from a wpAny of the law's body -/
/-- the same from a codeAny of the CALL (for a layer whose function contracts speak of calls) -/
theorem attach_call {l : OpenLaw} {n : Nat} {q : Program} {loose : List Str} {XP : (Str → Option Value) → Heap → Prop} {YP : World → Heap → Prop} {d : DefRec}
    (hn : l.most = some n) (hdf : d.params.defaults = [])
    (call : ∀ (w : World) (s₀ s₁ : Shared) (mg mb : Str → Option Value) (fa : Addr) (o : Obj) (pm cd doc : Value) (a : Addr) (vs : List Value) (ns : List Int),
      Ground q loose [] XP w s₀ mg mb s₁.heap → YP w s₁.heap →
      s₁.heap.get? fa = some o → o.data = .func (docDef d.name d.params d.body d.scope pm cd doc) → s₁.heap.CodeRec cd d.name → mg d.name = some (.ref fa) →
      s₁.heap.get? a = some { cls := .type "list", data := .seq vs.toArray } → IntsAre vs ns → ns.length ≤ n → s₁.gens = #[] →
      codeAny (model l.prog w) callerA (.call (.ref fa) ⟨[.ref a], []⟩) (fun r s' => r = .ok (.ret (.bool true)) ∧ OldK s₁.heap s'.heap ∧ s'.os = s₁.os ∧ AllBare s'.gens) s₁) :
    WalkO q loose XP YP l.row.toRowW d [] (fun f vs => PySem.call f vs) := by
  intro w s₀ s₁ mg mb G Y fa o pm cd doc dV kV ho hd hcd hD hmg hg args vals as hpre hlay hrd hwl hlo
  obtain rfl : dV = .none := Dflts.none hD hdf
  obtain rfl : kV = .none := Dflts.noKw hD
  obtain ⟨a, vs, ns, rfl, rfl, hobj, hints, hlen⟩ := script_of hn hpre hwl
  refine enter_call (codeAny_mono (call w s₀ s₁ mg mb fa o pm cd doc a vs ns G Y ho (fd_plain hd) hcd hmg hobj hints hlen hg) fun r s' hq => ?_)
  obtain ⟨rfl, h2, h3, h4⟩ := hq
  exact ⟨.inl ⟨.bool true, .bool true, [], rfl, fun _ => rfl, .bool true, post_true l _, fun _ => ⟨List.Pairwise.nil, fun _ hm => (nomatch hm)⟩⟩, h2, h3, h4⟩

/-! ### rules over ANY heap (no ledger) from facts about the written part K: the library's own take a ledger (News) for what they write -/
section
variable {prog : Program} {w : World} {A : Around} {E : Value → Shared → Prop} {s : Shared} {K : Frag}

/-! the whole heap as the ledger: makes every rule that writes through a ledger a rule over any heap -/
def noObjs (h : Heap) : Heap := { h with objs := #[] }
def ledger (h : Heap) (L d : Addr) : List (Addr × Obj) := (List.range h.objs.size).filterMap fun a => if a = L ∨ a = d then none else (h.get? a).map fun o => (a, o)
end
end Att

namespace L2
open PySem PySem.Spec PyProof.Rows

theorem vals_ints : ∀ {vs : List Value} {ns : List Int}, IntsAre vs ns → Vals (ns.map V.int) vs
  | _, _, .nil => .nil
  | _, _, .cons n t h => .cons ⟨t, rfl⟩ (vals_ints h)

/-- nothing is tracked but the script, known to the object (or it is an object of the module) -/
def Only (H : Hp) : Prop := ∀ b, H b = none ∨ ∃ o xs, H b = some (.frz o (.lst xs))

/-- THE HEAD: the law's promise, at the heap behind the top. F, the promise of the law's def, may use that base is part of the heap (so K.In base, base.Ns mainGlobals mg stand in Mod) -/
theorem law_call {P : Program} {w : World} {K : PySem.W.Frag} {mg mb : Str → Option Value} {CX : CXT} {k : Nat} {fa a : Addr} {fd : FuncData} {x : Str} {sp : Sp} {s₁ : Shared} {vs : List Value} {ns : List Int}
    (KX : K.In s₁.heap) (hns : s₁.heap.Ns mainGlobals mg) (hb : s₁.heap.Ns builtinsNs mb) (hbb : ∀ x : Str, x ≠ "__name__" → mb x = bootBuiltins x) (hlim : s₁.heap.NoLimit) (hg : s₁.gens = #[])
    (ha : s₁.heap.get? a = some { cls := .type "list", data := .seq vs.toArray }) (hi : IntsAre vs ns) (hl : ns.length ≤ sizeLine) (hr : Room k callerA)
    (F : ∀ base : Heap, K.In base → base.Ns mainGlobals mg → FnOk P w K mg base CX k fa fd [x] sp) (hbind : ∀ (s : Shared) (u : Value), BindsTo s fd ⟨[u], []⟩ [(x, u)])
    (hsp : ∀ H : Hp, Only H → SqL K H a (ns.map V.int) → sp [.ref a] H (fun v _ => v = .bl true) fun _ _ _ => False)
    (hCX : ∀ H e s', CX [] H s₁ (fun _ _ _ => False) e s' → False) :
    codeAny (model P w) callerA (.call (.ref fa) ⟨[.ref a], []⟩) (fun r s' => r = .ok (.ret (.bool true)) ∧ OldK s₁.heap s'.heap ∧ s'.os = s₁.os ∧ AllBare s'.gens) s₁ := by
  have rv := vals_ints hi
  have lenV := hi.length
  -- from an abstract heap in which nothing but the script may be tracked
  have core : ∀ H : Hp, Only H → SqL K H a (ns.map V.int) → HOk P w H s₁.heap → (∀ b, H b ≠ none → b = a) → (H a ≠ none → K.lookup a = none) →
      codeAny (model P w) callerA (.call (.ref fa) ⟨[.ref a], []⟩) (fun r s' => r = .ok (.ret (.bool true)) ∧ OldK s₁.heap s'.heap ∧ s'.os = s₁.os ∧ AllBare s'.gens) s₁ := by
    intro H hO hS hok hA hK
    have base_of : ∀ {b : Addr} {o : Obj}, s₁.heap.get? b = some o → H b = none → (hidT s₁.heap H).get? b = some o := fun e n => hidT_get e n
    have noA : ∀ {b : Addr} {o : Obj} {es : Array DictEntry} {ep : Nat}, s₁.heap.get? b = some o → o.data = .dict es ep → H b = none := fun {b o es ep} e d => by
      cases q : H b with
      | none => rfl
      | some u =>
        have e' : b = a := hA b (by rw [q]; simp)
        subst e'
        rw [ha] at e; cases e
        have d' : Data.seq vs.toArray _ = Data.dict es ep := d
        cases d'
    have nsK : ∀ {b : Addr} {m : Str → Option Value}, s₁.heap.Ns b m → (hidT s₁.heap H).Ns b m := fun {b m} ⟨o, es, ep, e, d, r⟩ => ⟨o, es, ep, base_of e (noA e d), d, r⟩
    have hKb : K.In (hidT s₁.heap H) := fun b o e => base_of (KX b o e) (by
      cases q : H b with
      | none => rfl
      | some u =>
        have e' : b = a := hA b (by rw [q]; simp)
        subst e'
        rw [hK (by rw [q]; simp)] at e; cases e)
    have hM : Mod K mg (hidT s₁.heap H) := ⟨hKb, nsK hns, ⟨mb, nsK hb, hbb⟩, let ⟨mc, h1, h2⟩ := hlim; ⟨mc, nsK h1, h2⟩⟩
    have e0 : Env0 P w K mg (hidT s₁.heap H) callerA [] s₁ H := ⟨rfl, hM, fun b o e => of_hidT e, Nat.le_of_eq (hidT_size _ _), trivial, fun b hb => absurd (show b ∈ ([] : List Addr) from hb) (by simp), hok, .of_eq hg⟩
    refine codeAny_mono ((F _ hKb (nsK hns)).run callerA [] s₁ H ⟨[.ref a], []⟩ [.ref a] [.ref a] _ _ hr e0 (hbind s₁ (.ref a)) (.cons rfl .nil) (hsp H hO hS)) fun r s' h => ?_
    cases r with
    | error e => exact (hCX H e s' h).elim
    | ok fl =>
      cases fl with
      | next => exact False.elim h
      | brk => exact False.elim h
      | cont => exact False.elim h
      | ret u =>
        obtain ⟨v, H', os, bare, un, hok', r', q⟩ := h
        have q' : v = .bl true := q
        subst q'
        obtain rfl : u = Value.bool true := r'
        refine ⟨rfl, OldK.of_keep fun b o e => ?_, os, bare⟩
        cases q : H b with
        | none => exact un.keep b o e q (by intro z; exact absurd (show b ∈ ([] : List Addr) from z) (by simp)) (by simp)
        | some u =>
          rcases hO b with z | ⟨ob, xs, z⟩
          · rw [q] at z; cases z
          · have z2 := un.frzs b ob _ z
            obtain ⟨e1, _⟩ := hok b _ z
            obtain ⟨e2, _⟩ := hok' b _ z2
            rw [e] at e1; cases e1
            exact e2
  cases hk : K.lookup a with
  | some o =>
    -- the script is one of the module's own objects
    have e := KX a o hk
    rw [ha] at e
    cases e
    refine core (fun _ => none) (fun _ => .inl rfl) (.inr ⟨_, vs.toArray, _, hk, rfl, rfl, rfl, by rw [List.size_toArray, lenV]; exact hl, by simpa using rv⟩) (fun b u z => by have z' : (none : Option HO) = some u := z; cases z') (fun b z => absurd rfl z) fun z => absurd rfl z
  | none =>
    refine core (fun b => if b = a then some (.frz { cls := .type "list", data := .seq vs.toArray } (.lst (ns.map V.int))) else none) (fun b => ?_) (.inl (.inr ⟨{ cls := .type "list", data := .seq vs.toArray }, if_pos rfl⟩)) (fun b u z => ?_) (fun b z => ?_) fun _ => hk
    · by_cases hb : b = a
      · exact .inr ⟨_, _, if_pos hb⟩
      · exact .inl (if_neg hb)
    · by_cases hb : b = a
      · have z' := (if_pos hb).symm.trans z
        cases z'
        subst hb
        exact ⟨ha, by rw [List.length_map]; exact hl, vs, _, rv, ha⟩
      · have z' := (if_neg hb).symm.trans z
        cases z'
    · by_cases hb : b = a
      · exact hb
      · exact absurd (if_neg hb) z
end L2

namespace L2
open PySem PySem.Spec PyProof.Rows

abbrev KOf {K : PySem.W.Frag} {h : Heap} (_ : K.In h) : PySem.W.Frag := K

/-- the goal that k_head leaves (case hc), from the law's promise. F gives the function object fd (K's own) once, then the promise over every base -/
theorem walk_of {l : PySem.W.OpenLaw} {n k : Nat} {q : Program} {loose : List Str} {XP : (Str → Option Value) → Heap → Prop} {YP : World → Heap → Prop} {d : DefRec} {K : Params → PySem.W.Frag} {CX : World → CXT} {sp : World → Sp} {x : Str}
    (hn : l.most = some n) (hn2 : n ≤ sizeLine) (hdf : d.params.defaults = []) (hr : Room k callerA)
    (hY : ∀ (w : World) (h : Heap), YP w h → (K w.params).In h)
    (F : ∀ (w : World) (mg : Str → Option Value) (fa : Addr) (h : Heap), (K w.params).In h → h.Ns mainGlobals mg → mg d.name = some (.ref fa) →
      ∃ fd : FuncData, (∀ (s : Shared) (u : Value), BindsTo s fd ⟨[u], []⟩ [(x, u)]) ∧
        ∀ base : Heap, (K w.params).In base → base.Ns mainGlobals mg → FnOk l.prog w (K w.params) mg base (CX w) k fa fd [x] (sp w))
    (hsp : ∀ (w : World) (H : Hp) (a : Addr) (ns : List Int), ns.length ≤ n → Only H → SqL (K w.params) H a (ns.map V.int) → sp w [.ref a] H (fun v _ => v = .bl true) fun _ _ _ => False)
    (hCX : ∀ (w : World) (H : Hp) (s : Shared) (e : Value) (s' : Shared), CX w [] H s (fun _ _ _ => False) e s' → False) :
    PySem.W.WalkO q loose XP YP l.row.toRowW d [] (fun f vs => PySem.call f vs) := by
  refine Att.attach_call hn hdf fun w s₀ s₁ mg mb fa o pm cd doc a vs ns G Y ho hd hcd hmg hobj hints hlen hg => ?_
  have KX := hY w _ Y
  obtain ⟨fd, hb, hF⟩ := F w mg fa _ KX G.T.g hmg
  exact law_call KX G.T.g G.T.b G.T.builtins G.T.nolimit hg hobj hints (Nat.le_trans hlen hn2) hr hF hb (fun H hO hS => hsp w H a ns hlen hO hS) fun H e s' => hCX w H s₁ e s'
end L2

/- THE LAST THEOREM (shape; LID, My.* are yours):
   My.Adr: a structure of the addresses that your layer names (classes, functions); My.Txt K t: a structure (Prop) of the equations over K;
   My.txt_mk : {K} {implicit addresses ..} (e1 : nsIn K mainGlobals "law" = some (some (.ref f))) (e2 : K.lookup f = some ⟨oc, od, .func (fnOf "law" "law" params body scope dV kV doc pm an cdv ct), sl⟩) (e3 : codeIn K cdv "law" = true) .. : ∃ t, My.Txt K t

set_option maxRecDepth 100000 in
set_option maxHeartbeats 0 in
theorem PySem.Challenge.cw_LID_holds : PySem.Challenge.rw_LID.Holds := by
  w_on; o_law; k_head; (case hw => w_witness2)
  k_fill
  refine L2.walk_of (l := PySem.Challenge.rw_LID) (n := 63) (k := 40) (x := "script") (CX := fun w => ..) (sp := fun _ => My.sp_law) rfl (by decide) rfl ⟨rfl, by decide, by decide⟩ (fun w h Y => PySem.W.kIn_of Y) ?F ?S ?C
  case F =>
    intro w mg fa h KX G hmg
    have T : ∃ t, My.Txt (L2.KOf KX) t := by
      dsimp only [L2.KOf]                          -- K must stand as «<heap const> w.params» for k_is
      refine' My.txt_mk ?e1 ?e2 ?e3 ..
      (case e1 => PySem.W.k_is)                    -- in the order: a name -> its address -> its object -> its parts
      (case e2 => PySem.W.k_is)
      ..
    obtain ⟨t, T⟩ := T
    have e0 := hmg.symm.trans (PySem.W.mg_of KX G T.law)
    cases e0                                       -- fa is the law's own address
    exact ⟨_, fun s u => .of_eq rfl, fun base kb nb => My.law_fn T kb nb⟩     -- if «.of_eq rfl» comes too early: refine' ⟨_, ?b, fun base kb nb => My.law_fn T kb nb⟩; exact fun s u => .of_eq rfl
  case S => exact fun w H a ns hl hO hS => ..
  case C => exact ..
(the tactic k_is has no namespace: write k_is) -/

/-! SHORT WORDS over the layer: a def of the text, its body, what a loop and a test want. -/
namespace L2
open PySem PySem.Spec PyProof.Rows

/-! ### the text by places -/
/-- the j-th statement of a class's body -/
def inClass (s : Stmt) (j : Nat) : Stmt := match s with
  | .ClassDef _ _ _ body _ _ _ _ _ _ _ => body.getD j (.Pass ⟨0, 0, 0, 0⟩)
  | _ => .Pass ⟨0, 0, 0, 0⟩
def defArgs (s : Stmt) : Arguments := match s with
  | .FunctionDef _ a _ _ _ _ _ _ _ _ => a
  | _ => { posonlyargs := [], args := [], vararg := none, kwonlyargs := [], kw_defaults := [], kwarg := none, defaults := [] }
def defBody (s : Stmt) : List Stmt := match s with
  | .FunctionDef _ _ b _ _ _ _ _ _ _ => b
  | _ => []
def defScope (s : Stmt) : Scope := match s with
  | .FunctionDef _ _ _ _ _ _ sc _ _ _ => sc
  | _ => { kind := .function, names := [], isGenerator := false, isCoroutine := false }

/-! ### no exception leaves a def -/
abbrev CX0 : CXT := fun _ _ _ _ _ _ => False
abbrev E0 : XK := fun _ _ _ => False
theorem pass0 {X : Cx} : Passes CX0 X E0 := fun _ _ _ _ _ _ _ h => h.elim

/-! ### a def (or method) of the text as it stands behind the top -/
structure Fun (K : PySem.W.Frag) (x qual : Str) (st : Stmt) (f : Addr) (fd : FuncData) : Prop where
  ex : ∃ (oc : Value) (od : Option Addr) (kV doc pm : Value) (an : Option Addr) (cdv ct : Value) (osl : Array (Option Value)),
    fd = PySem.W.fnOf x qual (defArgs st) (defBody st) (defScope st) .none kV doc pm an cdv ct ∧ K.lookup f = some ⟨oc, od, .func fd, osl⟩ ∧ PySem.W.codeIn K cdv qual = true
  kp : PySem.W.keepIn K (.ref f) = true
section
variable {P : Program} {w : World} {K : PySem.W.Frag} {mg : Str → Option Value} {base : Heap}
/-- THE RULE for a def: its body as a term of rules, and the reading of that term -/
theorem Fun.ok {x qual : Str} {st : Stmt} {f : Addr} {fd : FuncData} {N ps : List Str} {k : Nat} {sp : Sp} (F : Fun K x qual st f fd) (S : FnScope N ps (defScope st)) (len : ∀ vs H Q E, sp vs H Q E → vs.length = ps.length)
    (hbody : ∀ (cdv : Value) (A : Around) (outer : List Env) (s : Shared) (H : Hp) (vs : List V) (Q : VK) (E : XK), Room k (A.deeper (envOfC qual (defScope st) s.heap.objs.size f cdv)) → sp vs H Q E →
      ∃ t, PSs (cxOf CX0 P w K mg base N qual (defScope st) f cdv A outer s H E).nox (defBody st) t ∧ t { nx := fun _ H' => Q .non H', rt := Q } (start N vs) H) : FnOk P w K mg base CX0 (k + 1) f fd ps sp := by
  obtain ⟨oc, od, kV, doc, pm, an, cdv, ct, osl, rfl, lk, hcd⟩ := F.ex
  refine fn_of lk hcd S len fun A outer s H vs Q E hr hsp => ?_
  obtain ⟨t, h, q⟩ := hbody cdv A outer s H vs Q E hr hsp
  exact ⟨t, h.nox, q⟩
/-- how its arguments bind (no defaults): h is «fun _ _ _ _ _ _ us hl => match us, hl with | [_, _], _ => rfl», one _ a parameter -/
theorem Fun.binds {x qual : Str} {st : Stmt} {f : Addr} {fd : FuncData} {ps : List Str} (F : Fun K x qual st f fd)
    (h : ∀ (kV doc pm : Value) (an : Option Addr) (cdv ct : Value) (us : List Value), us.length = ps.length → bindArgs (PySem.W.fnOf x qual (defArgs st) (defBody st) (defScope st) .none kV doc pm an cdv ct) ⟨us, []⟩ = pure (ps.zip us)) : Binds K fd ps [] := by
  obtain ⟨oc, od, kV, doc, pm, an, cdv, ct, osl, rfl, lk, hcd⟩ := F.ex
  exact .all (h kV doc pm an cdv ct)
theorem fun_mk {x qual : Str} {st : Stmt} {f : Addr} {oc : Value} {od an : Option Addr} {osl : Array (Option Value)} {kV doc pm cdv ct : Value} (l : K.lookup f = some ⟨oc, od, .func (PySem.W.fnOf x qual (defArgs st) (defBody st) (defScope st) .none kV doc pm an cdv ct), osl⟩)
    (c : PySem.W.codeIn K cdv qual = true) (k : PySem.W.keepIn K (.ref f) = true) : Fun K x qual st f (PySem.W.fnOf x qual (defArgs st) (defBody st) (defScope st) .none kV doc pm an cdv ct) := ⟨⟨oc, od, kV, doc, pm, an, cdv, ct, osl, rfl, l, c⟩, k⟩
end
/-! ### expressions in short: the name that stands in the i-th slot -/
section
variable {X : Cx}
theorem pv (i : Nat) {x : Str} {pos : Pos} (hN : X.N[i]? = some x := by rfl) (hv : Vis X.env.scope x := by first | exact Or.inl rfl | exact Or.inr (Or.inl rfl) | exact Or.inr (Or.inr rfl)) (hd : (x == ("__debug__" : Str)) = false := by decide)
    (hcd : (x == ("__classdict__" : Str)) = false := by decide) : PE X (.Name x pos) (tVar i) := pe_var hN hv hd hcd
end

/-! ### tests -/
theorem iteF {A B : Prop} (h : B) : if false = true then A else B := by
  rw [if_neg Bool.false_ne_true]
  exact h
theorem iteT {A B : Prop} (h : A) : if true = true then A else B := by
  rw [if_pos rfl]
  exact h
theorem ite2 {c A B : Prop} [Decidable c] (h1 : c → A) (h2 : ¬ c → B) : if c then A else B := by
  by_cases h : c
  · rw [if_pos h]
    exact h1 h
  · rw [if_neg h]
    exact h2 h
/-! ### heaps -/
/-- all that was tracked is as it was -/
def Same (H H' : Hp) : Prop := ∀ b o, H b = some o → H' b = some o
theorem Same.trans {H H1 H2 : Hp} (a : Same H H1) (b : Same H1 H2) : Same H H2 := fun c o h => b c o (a c o h)
theorem Same.free {H H' : Hp} (e : Same H H') {l : Addr} (h : H' l = Option.none) : H l = Option.none := by
  cases q : H l with
  | none => rfl
  | some o =>
    rw [e l o q] at h
    cases h
theorem Same.seq {K : PySem.W.Frag} {H H' : Hp} {a : Addr} {xs : List V} (e : Same H H') (h : SqL K H a xs) : SqL K H' a xs := by
  rcases h with (h | ⟨o, h⟩) | h
  · exact .inl (.inl (e _ _ h))
  · exact .inl (.inr ⟨o, e _ _ h⟩)
  · exact .inr h

end L2

section
set_option maxHeartbeats 3999000
namespace L2
open PySem PySem.Spec PyProof.Rows

/-! ### comprehensions: the closure -/
def closOf (cs : List (Str × Addr)) : List (Str × NameKind) → List (Str × Addr) → List (Str × Addr)
  | [], acc => acc
  | (n, k) :: r, acc => if k == .free then closOf cs r ((n, (cs.lookup n).getD 0) :: acc) else closOf cs r acc

theorem closureFor_eq {scope : Scope} {env : Env} (h : ∀ y ∈ scope.names, y.2 = .free → ∃ c, env.cells.lookup y.1 = some c) :
    closureFor scope env = pure (closOf env.cells scope.names []) := by
  have go : ∀ (names : List (Str × NameKind)) (acc : List (Str × Addr)), (∀ y ∈ names, y.2 = .free → ∃ c, env.cells.lookup y.1 = some c) →
      (forIn names acc (fun (x : Str × NameKind) (cs : List (Str × Addr)) => (if (x.2 == NameKind.free) = true then do
        let a ← cellOf env x.1
        pure (ForInStep.yield ((x.1, a) :: cs)) else pure (ForInStep.yield cs) : Sem (ForInStep (List (Str × Addr)))))) = (pure (closOf env.cells names acc) : Sem _) := by
    intro names
    induction names with
    | nil => intro acc _; rfl
    | cons y r ih =>
      intro acc hy
      obtain ⟨n, k⟩ := y
      rw [List.forIn_cons]
      cases hk : (k == NameKind.free) with
      | true =>
        obtain ⟨c, hc⟩ := hy (n, k) List.mem_cons_self (by simpa using hk)
        have hcell : cellOf env n = pure c := by
          unfold cellOf
          have hc' : env.cells.lookup n = some c := hc
          rw [hc']
        simp only [hk, if_true, hcell]
        have e := ih ((n, c) :: acc) fun y hy' => hy y (List.mem_cons_of_mem _ hy')
        have hc' : env.cells.lookup n = some c := hc
        simp only [closOf, hk, if_true, hc', Option.getD_some]
        exact e
      | false =>
        simp only [hk, Bool.false_eq_true, if_false]
        have e := ih acc fun y hy' => hy y (List.mem_cons_of_mem _ hy')
        simp only [closOf, hk, Bool.false_eq_true, if_false]
        exact e
  have e := go scope.names [] h
  unfold closureFor
  show (forIn scope.names [] _ >>= fun cs => pure cs) = _
  first
    | (rw [e]; rfl)
    | (simp only []; rw [e]; rfl)
    | (have e' := e; simp at e' ⊢; exact e')

theorem closOf_lookup {cs : List (Str × Addr)} : ∀ (names : List (Str × NameKind)) (acc : List (Str × Addr)),
    (∀ y ∈ names, y.2 = .free → ∃ c, cs.lookup y.1 = some c) → (∀ x c, acc.lookup x = some c → cs.lookup x = some c) →
    ∀ x c, (closOf cs names acc).lookup x = some c → cs.lookup x = some c
  | [], acc, _, h, x, c, e => h x c e
  | (n, k) :: r, acc, hy, h, x, c, e => by
    have hr : ∀ y ∈ r, y.2 = .free → ∃ c, cs.lookup y.1 = some c := fun y hy' => hy y (List.mem_cons_of_mem _ hy')
    unfold closOf at e
    cases hk : (k == NameKind.free) with
    | false =>
      rw [hk] at e
      exact closOf_lookup r acc hr h x c e
    | true =>
      rw [hk] at e
      obtain ⟨d, hd⟩ := hy (n, k) List.mem_cons_self (by simpa using hk)
      have hd' : cs.lookup n = some d := hd
      refine closOf_lookup r _ hr (fun x c e' => ?_) x c e
      rw [hd', Option.getD_some, List.lookup_cons] at e'
      cases hx : (x == n) with
      | true =>
        rw [hx] at e'
        have : x = n := by simpa using hx
        subst this
        rw [hd']
        exact e'
      | false =>
        rw [hx] at e'
        exact h x c e'

theorem closOf_has {cs : List (Str × Addr)} : ∀ (names : List (Str × NameKind)) (acc : List (Str × Addr)) (x : Str),
    ((∃ c, acc.lookup x = some c) ∨ (x, NameKind.free) ∈ names) → ∃ c, (closOf cs names acc).lookup x = some c
  | [], acc, x, h => by
    rcases h with h | h
    · exact h
    · cases h
  | (n, k) :: r, acc, x, h => by
    unfold closOf
    cases hk : (k == NameKind.free) with
    | false =>
      refine closOf_has r acc x ?_
      rcases h with h | h
      · exact .inl h
      · rcases List.mem_cons.mp h with h | h
        · cases h
          exact absurd hk (by decide)
        · exact .inr h
    | true =>
      refine closOf_has r _ x ?_
      cases hx : (x == n) with
      | true => exact .inl ⟨_, by rw [List.lookup_cons, hx]⟩
      | false =>
        rcases h with ⟨c, h⟩ | h
        · exact .inl ⟨c, by rw [List.lookup_cons, hx]; exact h⟩
        · rcases List.mem_cons.mp h with h | h
          · cases h
            simp at hx
          · exact .inr h
theorem lookup_mem {α : Type} : ∀ {l : List (Str × α)} {x : Str} {k : α}, l.lookup x = some k → (x, k) ∈ l
  | [], x, k, h => by simp at h
  | (n, j) :: r, x, k, h => by
    rw [List.lookup_cons] at h
    cases hx : (x == n) with
    | true =>
      rw [hx] at h
      have : x = n := by simpa using hx
      subst this
      cases h
      exact List.mem_cons_self
    | false =>
      rw [hx] at h
      exact List.mem_cons_of_mem _ (lookup_mem h)
theorem lookup_relabel_free {env : Env} : ∀ {names : List (Str × NameKind)} {x : Str}, names.lookup x = some .free →
    (names.map fun (n, k) => if (k == NameKind.free && env.scope.kind == .function && env.kindOf n == some .cell) then (n, NameKind.cell) else (n, k)).lookup x = some .cell ∨
    (names.map fun (n, k) => if (k == NameKind.free && env.scope.kind == .function && env.kindOf n == some .cell) then (n, NameKind.cell) else (n, k)).lookup x = some .free
  | [], _, h => by simp at h
  | (n, k) :: r, x, h => by
    have ih := @lookup_relabel_free env r x
    simp only [List.map_cons]
    cases hx : x == n with
    | true =>
      simp only [List.lookup_cons, hx] at h; cases h
      by_cases hc : (NameKind.free == NameKind.free && env.scope.kind == .function && env.kindOf n == some .cell) = true
      · rw [if_pos hc]; left; simp only [List.lookup_cons, hx]
      · rw [if_neg hc]; right; simp only [List.lookup_cons, hx]
    | false =>
      simp only [List.lookup_cons, hx] at h; rcases Classical.em ((k == NameKind.free && env.scope.kind == .function && env.kindOf n == some .cell) = true) with hc | hc
      · exact (by rw [if_pos hc]; simp only [List.lookup_cons, hx]; exact ih h)
      · exact (by rw [if_neg hc]; simp only [List.lookup_cons, hx]; exact ih h)
theorem relabel_cell {env : Env} : ∀ {names : List (Str × NameKind)} {x : Str},
    ((names.map fun (n, k) => if (k == NameKind.free && env.scope.kind == .function && env.kindOf n == some .cell) then (n, NameKind.cell) else (n, k)).lookup x = some .cell ∨
    (names.map fun (n, k) => if (k == NameKind.free && env.scope.kind == .function && env.kindOf n == some .cell) then (n, NameKind.cell) else (n, k)).lookup x = some .free) →
    names.lookup x = some .free ∨ names.lookup x = some .cell
  | [], _, h => by simp at h
  | (n, k) :: r, x, h => by
    have ih := @relabel_cell env r x
    simp only [List.map_cons] at h
    cases hx : x == n with
    | true =>
      rcases Classical.em ((k == NameKind.free && env.scope.kind == .function && env.kindOf n == some .cell) = true) with hc | hc
      · have hk : k = .free := by
          simp only [Bool.and_eq_true] at hc; simpa using hc.1.1
        subst hk
        exact .inl (by simp only [List.lookup_cons, hx])
      · rw [if_neg hc] at h
        simp only [List.lookup_cons, hx] at h ⊢
        rcases h with h | h
        · exact .inr h
        · exact .inl h
    | false =>
      rcases Classical.em ((k == NameKind.free && env.scope.kind == .function && env.kindOf n == some .cell) = true) with hc | hc
      · rw [if_pos hc] at h
        simp only [List.lookup_cons, hx] at h ⊢
        exact ih h
      · rw [if_neg hc] at h
        simp only [List.lookup_cons, hx] at h ⊢
        exact ih h
end L2

end
section
set_option maxHeartbeats 3999000
namespace L2
open PySem PySem.Spec PyProof.Rows

abbrev compCx (X : Cx) (N' : List Str) (scope : Scope) (s₃ : Shared) (H₃ : Hp) (ex : List Addr) (pins : List (Addr × Obj)) : Cx :=
  { X with N := N', s₀ := s₃, H₀ := H₃, env := compEnvC scope (closOf X.env.cells scope.names []) s₃.heap.objs.size X.env, outer := X.stack, stack := X.stack, ex := ex, fn := fun _ => false, pn := X.pn ++ pins, xe := fun _ _ => False }

def ifsSem (ifs : List Expr) (env : Env) : Sem Bool :=
  forIn ifs true fun c r => if r = true then do let ok ← isTrue c env (eval c env); pure (ForInStep.yield ok) else pure (ForInStep.yield r)
def PIfs (X : Cx) (ifs : List Expr) (t : TT) : Prop :=
  ∀ (pins : List (Addr × Obj)) (s : Shared) (σ : St) (H : Hp) (Q : Bool → Hp → Prop), Inv X pins σ H s → t σ H Q → wpAny (model X.prog X.w) X.A (ifsSem ifs X.env) (TP X pins σ Q) X.xe s
def tYes : TT := fun _ H Q => Q true H
theorem pifs_nil {X : Cx} : PIfs X [] tYes := fun _ _ _ H _ I h => wpAny_pure ⟨H, I, h⟩
theorem pifs_one {X : Cx} {c : Expr} {t : TT} (h : PT X c t) : PIfs X [c] t := by
  intro pins s σ H Q I hw
  unfold ifsSem
  rw [List.forIn_cons]
  simp only [if_true]
  exact wpAny_bind (wpAny_bind (thn (h pins s σ H _ I hw) fun b s1 q => wpAny_pure (wpAny_pure q)))

/-! ### what a comprehension's scope must be -/
structure CompSc (X : Cx) (N' : List Str) (ix : List (Option Nat)) (scope : Scope) : Prop where
  kind : scope.kind = .function
  nocell : ∀ y ∈ scope.names, y.2 ≠ .cell
  names : ∀ y ∈ scope.names, y.2 = .local → scope.names.lookup y.1 = some .local
  free : ∀ y ∈ scope.names, y.2 = .free → X.env.kindOf y.1 = some .cell ∨ X.env.kindOf y.1 = some .free
  len : N'.length = ix.length
  cap : ∀ j i : Nat, ix[j]? = some (some i) → ∃ x, N'[j]? = some x ∧ X.N[i]? = some x ∧ scope.names.lookup x = some .free

def compScB (osc : Scope) (oN N' : List Str) (ix : List (Option Nat)) (scope : Scope) : Bool :=
  (scope.kind == .function) && (scope.names.all fun y => y.2 != .cell) && (scope.names.all fun y => y.2 != .local || scope.names.lookup y.1 == some .local) &&
  (scope.names.all fun y => y.2 != .free || (osc.names.lookup y.1 == some .cell || osc.names.lookup y.1 == some .free)) && (N'.length == ix.length) &&
  ((List.range ix.length).all fun j => match ix[j]? with
    | some (some i) => (match N'[j]? with
      | some x => oN[i]? == some x && scope.names.lookup x == some .free
      | none => false)
    | _ => true)
theorem CompSc.of {X : Cx} {N' : List Str} {ix : List (Option Nat)} {scope : Scope} (osc : Scope) (oN : List Str) (h1 : X.env.scope = osc) (h2 : X.N = oN) (hb : compScB osc oN N' ix scope = true) : CompSc X N' ix scope := by
  unfold compScB at hb
  simp only [Bool.and_eq_true, List.all_eq_true] at hb
  obtain ⟨⟨⟨⟨⟨a, b⟩, c⟩, d⟩, e⟩, f⟩ := hb
  refine ⟨?_, fun y hy => ?_, fun y hy hl => ?_, fun y hy hf => ?_, by simpa using e, fun j i hj => ?_⟩
  · revert a
    cases scope.kind <;> first | (intro _; rfl) | (intro h; exact absurd h (by decide))
  · have := b y hy
    simpa using this
  · have := c y hy
    rw [hl] at this
    simpa using this
  · have := d y hy
    rw [hf] at this
    have e1 : X.env.kindOf y.1 = osc.names.lookup y.1 := by rw [← h1]; rfl
    rw [e1]
    simpa using this
  · have hlt : j < ix.length := (List.getElem?_eq_some_iff.mp hj).1
    have := f j (List.mem_range.mpr hlt)
    rw [hj] at this
    cases hN : N'[j]? with
    | none =>
      rw [hN] at this
      simp at this
    | some x =>
      rw [hN] at this
      refine ⟨x, rfl, ?_⟩
      rw [h2]
      simpa using this

def capSt (ix : List (Option Nat)) (σ : St) : St := ix.map fun o => match o with
  | none => none
  | some i => (σ[i]?).join

/-- an object that was not told of is told of -/
theorem Inv.track {X : Cx} {pins : List (Addr × Obj)} {σ : St} {H : Hp} {s : Shared} {D : Addr} {o : HO} (I : Inv X pins σ H s) (hn : H D = none) (hs : X.s₀.heap.objs.size ≤ D) (hL : X.env.locals ≠ D)
    (hC : ∀ x c, X.env.cells.lookup x = some c → c ≠ D) (hp : ∀ p ∈ X.pn ++ pins, p.1 ≠ D) (ok : ObjOk X.prog X.w (upd H D o) s.heap D o) : Inv X pins σ (upd H D o) s := by
  have ne : ∀ b u, H b = some u → b ≠ D := fun b u e => ne_of_none e hn
  refine ⟨I.ok, I.os, I.bare, ⟨I.base.keep, I.base.slot, fun b u e n hx => ?_, I.base.there, fun b xs e => ?_, fun b u xs e => ?_, fun b ps e => ?_⟩, I.loc, I.cell, ?_, fun x c e => ?_, fun p hp' => ?_, fun b u e => ?_, I.len⟩
  · have : b ≠ D := Nat.ne_of_lt (Nat.lt_of_lt_of_le (Heap.lt_size e) hs)
    rw [upd_ne this]
    exact I.base.free b u e n hx
  · have := I.base.tups b xs e
    rw [upd_ne (ne b _ this)]
    exact this
  · have := I.base.frzs b u xs e
    rw [upd_ne (ne b _ this)]
    exact this
  · obtain ⟨more, q⟩ := I.base.tbls b ps e
    exact ⟨more, by rw [upd_ne (ne b _ q)]; exact q⟩
  · rw [upd_ne hL]
    exact I.free
  · rw [upd_ne (hC x c e)]
    exact I.freeC x c e
  · obtain ⟨a1, a2, a3⟩ := I.pin p hp'
    exact ⟨a1, by rw [upd_ne (hp p hp')]; exact a2, a3⟩
  · by_cases hb : b = D
    · subst hb
      rw [upd_same] at e
      cases e
      exact ok
    · rw [upd_ne hb] at e
      exact (I.hok b u e).stay (fun c v _ q => q) (fun c q => by rw [upd_ne (ne c _ q)]; exact q) fun c xs q => by rw [upd_ne (ne c _ q)]; exact q

theorem codeAny_compLoop_gen {prog : Program} {w : World} {A : Around} {R : Result → Shared → Prop} {s : Shared} {elt target iter : Expr} {ifs : List Expr} {scope : Scope} {pos : Pos} {it acc : Value} {env : Env} (I : Nat → Shared → Prop) (turn : ∀ n s, I n s → wpAny (model prog w) A (pyNext it) (fun r s₁ => match r with
      | none => R (.ok .next) s₁
      | some v => wpAny (model prog w) A (letOwnedTupleGo target it v) (fun _ s₁' => wpAny (model prog w) A (assign target env v) (fun _ s₂ =>
          wpAny (model prog w) A (ifsSem ifs env) (fun ok s₃ => if ok = true then wpAny (model prog w) A (eval elt env) (fun x s₄ =>
              wpAny (model prog w) A (call (.builtin "list.append") [acc, x]) (fun _ s₅ => ∃ m, m < n ∧ I m s₅) (fun _ _ => False) s₄) (fun _ _ => False) s₃
            else ∃ m, m < n ∧ I m s₃) (fun _ _ => False) s₂) (fun _ _ => False) s₁') (fun _ _ => False) s₁) (fun _ _ => False) s)
    (n : Nat) (h : I n s) : codeAny (model prog w) A (.compLoop (.ListComp elt [⟨target, iter, ifs, 0⟩] scope pos) 0 it acc env) R s := by
  refine codeAny_loop rfl I (fun n s hI => ?_) n h; show wpAny _ A ((compTurn (.ListComp elt [⟨target, iter, ifs, 0⟩] scope pos) 0 it acc env).onRaise (fun x => do noteFrame x env; theTreesLotGoes x)) _ _ s
  refine wpAny_noted ?_
  rw [compTurn_list]
  refine wpAny_bind (wpAny_standAt (wpAny_bind (wpAny_mono (turn n s hI) (fun r s₁ h₁ => ?_) fun _ _ z => False.elim z)))
  cases r with
  | none => exact wpAny_pure h₁
  | some v =>
    refine wpAny_bind (wpAny_mono h₁ (fun _ s₁' h₁' => ?_) fun _ _ z => False.elim z)
    refine wpAny_bind (wpAny_mono h₁' (fun _ s₂ h₂ => wpAny_bind (wpAny_mono h₂ (fun ok s₃ h₃ => ?_) fun _ _ z => False.elim z)) fun _ _ z => False.elim z)
    cases ok with
    | false => exact (wpAny_pure ⟨rfl, h₃⟩)
    | true =>
      exact wpAny_bind (wpAny_bind (wpAny_mono h₃ (fun x s₄ h₄ => wpAny_bind (wpAny_mono h₄ (fun _ s₅ h₅ => wpAny_pure (wpAny_pure ⟨rfl, h₅⟩)) fun _ _ z => False.elim z)) fun _ _ z => False.elim z))


def Wk (σ0 σ1 : St) : Prop := σ1.length = σ0.length ∧ ∀ (j : Nat) v, σ0[j]? = some (some v) → σ1[j]? = some (some v)
theorem Wk.refl (σ : St) : Wk σ σ := ⟨rfl, fun _ _ h => h⟩
theorem Wk.set {ix : List (Option Nat)} {σ σ1 : St} {i : Nat} {v : Option V} (hi : ix[i]? = some none) (h : Wk (capSt ix σ) σ1) : Wk (capSt ix σ) (σ1.set i v) := by
  refine ⟨by rw [List.length_set]; exact h.1, fun j w e => ?_⟩
  have hj : j ≠ i := by
    rintro rfl
    unfold capSt at e
    rw [List.getElem?_map, hi] at e
    simp at e
  rw [List.getElem?_set_ne (Ne.symm hj)]
  exact h.2 j w e
/-- a target stores into the block's own slots alone -/
def GK (ix : List (Option Nat)) (g : TG) : Prop := ∀ (σ σ1 : St) (x : V) (H : Hp) (Q : St → Hp → Prop), Wk (capSt ix σ) σ1 → g x σ1 H Q → g x σ1 H fun σ2 H2 => Wk (capSt ix σ) σ2 ∧ Q σ2 H2
def GKs (ix : List (Option Nat)) (g : TGs) : Prop := ∀ (σ σ1 : St) (xs : List V) (H : Hp) (Q : St → Hp → Prop), Wk (capSt ix σ) σ1 → g xs σ1 H Q → g xs σ1 H fun σ2 H2 => Wk (capSt ix σ) σ2 ∧ Q σ2 H2
theorem gk_name {ix : List (Option Nat)} {i : Nat} (hi : ix[i]? = some none) : GK ix (gName i) := fun σ σ1 x H Q hw h => ⟨hw.set hi, h⟩
/-- the reading of a comprehension behind its iterator: W by the turn, a measure, what was put, the heap -/
def cGo (g : TG) (ts : TT) (te : TE) (σ0 : St) (J : It) (Q : VK) (H1 : Hp) : Prop :=
  ∃ W : Nat → Nat → List V → Hp → Prop, (∃ m, W 0 m [] H1) ∧ ∀ i m ys H, W i m ys H →
    (J.stop i H ∧ ∀ D, H D = none → Q (.ref D) (upd H D (.lst ys))) ∨
    (J.go i H ∧ ∃ N : List V → Hp → Prop, (∀ ys' H', N ys' H' → ∃ m', m' < m ∧ W (i + 1) m' ys' H') ∧ ∀ x H', J.yld i H x H' → g x σ0 H' fun σ2 H2 => ts σ2 H2 fun b H3 =>
      if b = true then te σ2 H3 fun y H4 => ys.length < sizeLine ∧ N (ys ++ [y]) H4 else N ys H3)
def tComp (ix : List (Option Nat)) (wi : TI) (g : TG) (ts : TT) (te : TE) : TE := fun σ H Q => wi σ H fun J H1 => cGo g ts te (capSt ix σ) J Q H1

section
variable {X : Cx} {elt tg iter : Expr} {ifs : List Expr} {scope : Scope} {pos : Pos} {N' : List Str} {ix : List (Option Nat)} {g : TG} {ts : TT} {te : TE}

theorem comp_loop {pins : List (Addr × Obj)} {σ : St} {H2 : Hp} {s2 : Shared} {it : Addr} {fp : List Addr} {tn : Nat → Heap → Prop} {J : It} {Q : VK} {E : Value → Shared → Prop} {RR : Value → Addr → Result → Shared → Prop}
    (SC : CompSc X N' ix scope) (hc : X.calm = true) (hk : GK ix g)
    (hg : ∀ s₃ H₃ ex pins, PG (compCx X N' scope s₃ H₃ ex pins) tg g) (ht : ∀ s₃ H₃ ex pins, PIfs (compCx X N' scope s₃ H₃ ex pins) ifs ts) (he : ∀ s₃ H₃ ex pins, PE (compCx X N' scope s₃ H₃ ex pins) elt te)
    (I2 : Inv X pins σ H2 s2) (T : Turn X.prog X.w X.K tg J fp it tn) (st2 : tn 0 s2.heap) (f2 : ∀ b ∈ fp, FpOk X pins H2 b) (q : cGo g ts te (capSt ix σ) J Q H2)
    (hRR : ∀ (D C : Addr) (s' : Shared) (ys : List V) (H' : Hp) (m : Str → Option Value), Inv X pins σ (upd H' D (.lst ys)) s' → FpOk X pins (upd H' D (.lst ys)) C → s'.heap.Ns C m → Q (.ref D) (upd H' D (.lst ys)) → RR (.ref D) C (.ok .next) s') :
    wpAny (model X.prog X.w) X.A (newList []) (fun acc s₃ => wpAny (model X.prog X.w) X.A (newFunctionEnv scope X.env.globals (closOf X.env.cells scope.names []) [] X.env.qual none .none (some X.env)) (fun cenv s₄ =>
      codeAny (model X.prog X.w) X.A (.compStart (.ListComp elt [⟨tg, iter, ifs, 0⟩] scope pos) 0 (.ref it) acc { cenv with scope := relabel scope X.env }) (RR acc cenv.locals) s₄) E s₃) E s2 := by
  have hfr : ∀ y ∈ scope.names, y.2 = .free → ∃ c, X.env.cells.lookup y.1 = some c := fun y hy hf => I2.ok.has y.1 (SC.free y hy hf)
  have hcl : ∀ x c, (closOf X.env.cells scope.names []).lookup x = some c → X.env.cells.lookup x = some c := closOf_lookup scope.names [] hfr (fun x c e => by simp at e)
  refine wpAny_newObj_type (wpAny_newFunctionEnv SC.nocell (by intro y hy; simp at hy) (fun h₁ hns₁ hsb₁ => ?_) SC.kind)
  dsimp only at hns₁ hsb₁ ⊢
  have I3 : Inv X pins σ H2 { s2 with heap := s2.heap.push { cls := .type "list", dict := none, data := .seq ([] : List Value).toArray } } := I2.kept (t' := s2.toks) fun b o e => Heap.get?_push_of_some _ e
  have hD3 : (s2.heap.push { cls := .type "list", dict := none, data := .seq ([] : List Value).toArray }).get? s2.heap.objs.size = some { cls := .type "list", dict := none, data := .seq ([] : List Value).toArray } := Heap.get?_push_size _ rfl
  have hst3 : tn 0 (s2.heap.push { cls := .type "list", dict := none, data := .seq ([] : List Value).toArray }) := T.keep _ _ _ st2 fun b hb o e => Heap.get?_push_of_some _ e
  have hsz3 : (s2.heap.push { cls := .type "list", dict := none, data := .seq ([] : List Value).toArray }).objs.size = s2.heap.objs.size + 1 := Heap.size_push _ _
  generalize hh3 : s2.heap.push { cls := .type "list", dict := none, data := .seq ([] : List Value).toArray } = h3 at *
  have hfpO := T.obj _ _ st2
  have hfpLt : ∀ b ∈ fp, b < s2.heap.objs.size := fun b hb => by obtain ⟨o, e, _⟩ := hfpO b hb; exact Heap.lt_size e
  -- static facts
  have stk : ∀ b ∈ frs X.stack, b = X.env.locals ∨ b ∈ X.fs := fun b hb => List.mem_cons.mp (I2.stkSub b hb)
  have hDok : FpOk X pins H2 s2.heap.objs.size := I2.fpOk (Nat.le_refl _) I2.fresh
  have exOk : ∀ b ∈ s2.heap.objs.size :: fp, FpOk X pins H2 b := fun b hb => by
    rcases (List.mem_cons.mp hb) with e | hb
    · rw [e]; exact hDok
    · exact f2 b hb
  have exLt : ∀ b ∈ s2.heap.objs.size :: fp, b < h3.objs.size := fun b hb => by
    rw [hsz3]
    rcases (List.mem_cons.mp hb) with e | hb; · rw [e]; exact Nat.lt_succ_self _
    · exact Nat.lt_succ_of_lt (hfpLt b hb)
  have exStk : ∀ b ∈ s2.heap.objs.size :: fp, b ∉ frs X.stack := fun b hb z => by
    obtain ⟨_, a1, a2, _⟩ := exOk b hb
    rcases stk b z with e | e
    · exact a1 e
    · exact a2 e
  have old : ∀ b o, h3.get? b = some o → h₁.get? b = some o := fun b o e => hsb₁.extBut b o (Nat.ne_of_lt (Heap.lt_size e)) (Heap.get?_push_of_some _ e)
  -- the block's context
  let s3 : Shared := { s2 with heap := h3 }
  let Y : Cx := compCx X N' scope s3 H2 (s2.heap.objs.size :: fp) pins
  have I3' : Inv X pins σ H2 s3 := I3
  have okY : Y.Ok := by
    refine ⟨I2.ok.mod, SC.kind, I2.ok.glob, I2.ok.blt, Nat.le_refl _, fun x y c h1 h2 => I2.ok.inj x y c (hcl x c h1) (hcl y c h2), fun x hx => ?_, fun x c z => (by cases z), I2.ok.hd, I2.ok.frames, .inl rfl, fun b hb => ?_, fun b o e => I3'.bs b o e, ?_, fun b o e hb => ?_, exStk, I3'.stack, I3'.stkFree⟩
    · have hx' := relabel_cell (env := X.env) (names := scope.names) (x := x) hx
      rcases hx' with hx' | hx'
      · exact closOf_has scope.names [] x (.inr (lookup_mem hx'))
      · exact absurd rfl (SC.nocell _ (lookup_mem hx'))
    · exact ⟨Nat.ne_of_lt (exLt b hb), fun x c e => (exOk b hb).2.2.2.2.1 x c (hcl x c e)⟩
    · exact Nat.le_trans I2.ok.bsz I3'.sz
    · obtain ⟨_, _, _, a3, _⟩ := exOk b hb
      rcases a3 with z | z
      · exact I2.ok.noex b o e z
      · have := (I2.ok.bs b o e).1
        exact absurd (Nat.lt_of_lt_of_le (Heap.lt_size this) z) (Nat.lt_irrefl _)
  have inv4 : Inv Y [] (capSt ix σ) H2 { s3 with heap := h₁, toks := s2.toks + ([] : List (Str × Value)).length } := by
    refine ⟨okY, rfl, I2.bare, Un.kept old, ⟨_, hns₁, fun j x v e1 e2 e3 => ?_⟩, fun x c e => ?_, I3'.fresh, fun x c e => I2.freeC x c (hcl x c e), fun p hp => ?_, I3'.hok.kept old, ?_⟩
    · unfold capSt at e2
      rw [List.getElem?_map] at e2
      cases hj : ix[j]? with
      | none => rw [hj] at e2; simp at e2
      | some oi =>
        rw [hj] at e2
        cases oi with
        | none => simp at e2
        | some i =>
          obtain ⟨y, h1, h2, h3'⟩ := SC.cap j i hj
          have hxy : y = x := by
            have e1' : N'[j]? = some x := e1
            rw [h1] at e1'
            exact Option.some.inj e1'
          subst hxy
          have e2' : (σ[i]?).join = some v := by simpa using e2
          have e2'' : σ[i]? = some (some v) := by
            cases hs : σ[i]? with
            | none => rw [hs] at e2'; simp at e2'
            | some w => rw [hs] at e2'; simp at e2'; rw [e2']
          obtain ⟨m, hn, hl⟩ := I3'.loc
          have hk := SC.free (y, .free) (lookup_mem h3') rfl
          have hvis : Vis X.env.scope y := hk.elim (fun z => .inr (.inl z)) fun z => .inr (.inr z)
          obtain ⟨u, r, l⟩ := hl i y v h2 e2'' hvis
          refine ⟨u, r, .inr ⟨lookup_relabel_free h3', ?_⟩⟩
          obtain ⟨c, hcc⟩ := closOf_has (cs := X.env.cells) scope.names [] y (.inr (lookup_mem h3'))
          refine ⟨c, hcc, ?_⟩
          rcases l with ⟨hk', _⟩ | ⟨_, c', hc', hcell⟩
          · rcases hk with hk | hk
            · have hk2 : X.env.kindOf y = some .cell := hk
              rw [hk2] at hk'; cases hk'
            · have hk2 : X.env.kindOf y = some .free := hk
              rw [hk2] at hk'; cases hk'
          · have := hcl y c hcc
            rw [hc'] at this
            cases this
            obtain ⟨o, ho, hd⟩ := hcell
            exact ⟨o, old _ _ ho, hd⟩
    · obtain ⟨v, o, ho, hd⟩ := I3'.cell x c (hcl x c e)
      exact ⟨v, o, old _ _ ho, hd⟩
    · have hp' : p ∈ X.pn ++ pins := by
        have : p ∈ (X.pn ++ pins) ++ ([] : List (Addr × Obj)) := hp
        simpa using this
      obtain ⟨a1, a2, a3, a4, a5⟩ := I3'.pin p hp'
      exact ⟨old _ _ a1, a2, Nat.ne_of_lt (Heap.lt_size a1), fun z => (stk _ z).elim a3 a4, a5⟩
    · unfold capSt
      rw [List.length_map]
      exact SC.len.symm
  obtain ⟨W, ⟨m0, w0⟩, turn⟩ := q
  have fpY : ∀ {H' : Hp} {pl : List (Addr × Obj)}, (∀ b ∈ fp, H' b = none) → (∀ p ∈ pl, p.1 = s2.heap.objs.size) → ∀ b ∈ fp, FpOk Y pl H' b := fun {H' pl} hn hpl b hb => by
    obtain ⟨_, a1, a2, a3, a4, a5⟩ := f2 b hb
    refine ⟨hn b hb, Nat.ne_of_lt (exLt b (List.mem_cons_of_mem _ hb)), exStk b (List.mem_cons_of_mem _ hb), .inl (List.mem_cons_of_mem _ hb), fun x c e => a4 x c (hcl x c e), fun p hp => ?_⟩; rcases List.mem_append.mp hp with hp | hp
    · exact a5 p hp
    · rw [hpl p hp]
      exact (Nat.ne_of_lt (hfpLt b hb)).symm
  have dOk : ∀ {its : List Value} {nn : Nat} {H' : Hp} {σ' : St} {s' : Shared}, Inv Y [] σ' H' s' → H' s2.heap.objs.size = none → s'.heap.get? s2.heap.objs.size = some { cls := .type "list", data := .seq its.toArray nn } →
      Inv Y [(s2.heap.objs.size, { cls := .type "list", data := .seq its.toArray nn })] σ' H' s' := fun {its nn H' σ' s'} I' hn e => I'.pins_of fun p hp => by
    obtain rfl : p = (s2.heap.objs.size, { cls := .type "list", data := .seq its.toArray nn }) := by simpa using hp
    exact ⟨e, hn, Nat.ne_of_lt (exLt _ List.mem_cons_self), exStk _ List.mem_cons_self, fun v z => by cases z⟩
  have loop : ∀ s₅ : Shared, s₅ = { s2 with heap := h₁, toks := s2.toks + ([] : List (Str × Value)).length } →
      codeAny (model X.prog X.w) X.A (.compLoop (.ListComp elt [⟨tg, iter, ifs, 0⟩] scope pos) 0 (.ref it) (.ref s2.heap.objs.size) (compEnvC scope (closOf X.env.cells scope.names []) h3.objs.size X.env)) (RR (.ref s2.heap.objs.size) h3.objs.size) s₅ := by
    rintro s₅ rfl
    refine codeAny_compLoop_gen (fun n s' => ∃ i ys H' its nn, Inv Y [] (capSt ix σ) H' s' ∧ tn i s'.heap ∧ (∀ b ∈ fp, H' b = none) ∧ H' s2.heap.objs.size = none ∧ s'.heap.get? s2.heap.objs.size = some { cls := .type "list", data := .seq its.toArray nn } ∧ Vals ys its ∧ ys.length ≤ sizeLine ∧ W i n ys H') ?_ m0
      ⟨0, [], H2, [], 0, inv4, T.keep _ _ _ hst3 fun b hb o e => old b o e, fun b hb => (f2 b hb).1, I2.fresh, old _ _ hD3, .nil, Nat.zero_le _, w0⟩
    rintro n s5 ⟨i, ys, H5, its, nn, I5, st5, fr5, dn5, d5, v5, z5, w5⟩
    have I5p := dOk I5 dn5 d5
    rcases turn i n ys H5 w5 with ⟨stop, qn⟩ | ⟨go, N, hN, step⟩
    · refine thn (T.done Y rfl rfl rfl hc i _ s5 _ H5 (fun _ _ => False) I5p (fpY fr5 (fun p hp => by
        obtain rfl : p = (s2.heap.objs.size, { cls := .type "list", data := .seq its.toArray nn }) := by simpa using hp
        rfl)) st5 stop) fun r s6 ⟨hr, I6⟩ => ?_
      subst hr
      have d6 : s6.heap.get? s2.heap.objs.size = some { cls := .type "list", data := .seq its.toArray nn } := (I6.pin (s2.heap.objs.size, _) (List.mem_append_right _ List.mem_cons_self)).1
      have I7 : Inv X pins σ H5 s6 := by
        refine I3'.call' (s' := s6) (ch := s2.heap.objs.size :: fp) I6.os I6.base I6.hok I6.bare fun b hb => ?_
        obtain ⟨_, a1, a2, a3, a4, a5⟩ := exOk b hb
        exact ⟨a3, a1, a4, a5⟩
      have I8 : Inv X pins σ (upd H5 s2.heap.objs.size (.lst ys)) s6 := by
        obtain ⟨_, a1, a2, a3, a4, a5⟩ := hDok
        exact I7.track dn5 I2.sz (Ne.symm a1) a4 a5 ⟨z5, its, nn, v5, d6⟩
      obtain ⟨mm, hmm, _⟩ := I6.loc
      have dne : h3.objs.size ≠ s2.heap.objs.size := by rw [hsz3]; exact Nat.succ_ne_self _
      refine hRR _ _ s6 ys H5 mm I8 (I3'.fpOk (H' := upd H5 s2.heap.objs.size (.lst ys)) (Nat.le_refl _) ?_) hmm (qn _ dn5)
      show upd H5 s2.heap.objs.size (.lst ys) h3.objs.size = none
      rw [upd_ne dne]
      exact I6.free
    · have hpl : ∀ p ∈ [(s2.heap.objs.size, ({ cls := .type "list", data := .seq its.toArray nn } : Obj))], p.1 = s2.heap.objs.size := fun p hp => by
        obtain rfl : p = (s2.heap.objs.size, { cls := .type "list", data := .seq its.toArray nn }) := by simpa using hp
        rfl
      refine thn (T.item Y rfl rfl rfl hc i _ s5 _ H5 (fun _ _ => False) I5p (fpY fr5 hpl) st5 go) fun r s6 ⟨u, hr, h6⟩ => ?_
      subst hr
      refine thn h6 fun _ s7 ⟨x, H7, I7, r7, y7, st7, fr7⟩ => ?_
      have I7' := I7.pinned (fpY fr7 hpl) (T.obj _ _ st7)
      -- what is kept behind: the list, the iterator
      have back : ∀ {σ8 : St} {H8 : Hp} {s8 : Shared}, Inv Y ([(s2.heap.objs.size, ({ cls := .type "list", data := .seq its.toArray nn } : Obj))] ++ pinsAt fp s7.heap) σ8 H8 s8 → Wk (capSt ix σ) σ8 →
          Inv Y [] (capSt ix σ) H8 s8 ∧ tn (i + 1) s8.heap ∧ (∀ b ∈ fp, H8 b = none) ∧ H8 s2.heap.objs.size = none ∧ s8.heap.get? s2.heap.objs.size = some { cls := .type "list", data := .seq its.toArray nn } := fun {σ8 H8 s8} I8 wk => by
        have pD := I8.pin (s2.heap.objs.size, _) (List.mem_append_right _ (List.mem_append_left _ List.mem_cons_self))
        have I8a : Inv Y [] σ8 H8 s8 := I8.pins_of fun p hp => by cases hp
        refine ⟨I8a.weak wk.1.symm wk.2, T.keep _ _ _ st7 fun b hb o e => (I8.pin (b, o) (List.mem_append_right _ (List.mem_append_right _ (mem_pinsAt hb e)))).1, fun b hb => ?_, pD.2.1, pD.1⟩
        obtain ⟨o, e, d⟩ := T.obj _ _ st7 b hb
        exact (I8.pin (b, o) (List.mem_append_right _ (List.mem_append_right _ (mem_pinsAt hb e)))).2.1
      refine thn (hg s3 H2 (s2.heap.objs.size :: fp) pins _ s7 _ H7 x u _ I7' r7 (hk σ _ x H7 _ (Wk.refl _) (step x H7 y7))) fun _ s8 ⟨σ8, H8, I8, wk8, q8⟩ => ?_
      refine thn (ht s3 H2 (s2.heap.objs.size :: fp) pins _ s8 σ8 H8 _ I8 q8) fun ok s9 ⟨H9, I9, q9⟩ => ?_
      cases ok with
      | false =>
        rw [if_neg Bool.false_ne_true] at q9 ⊢
        obtain ⟨m', hm, w9⟩ := hN _ _ q9
        obtain ⟨a1, a2, a3, a4, a5⟩ := back I9 wk8
        exact ⟨m', hm, i + 1, ys, H9, its, nn, a1, a2, a3, a4, a5, v5, z5, w9⟩
      | true =>
        rw [if_pos rfl] at q9 ⊢
        refine thn (he s3 H2 (s2.heap.objs.size :: fp) pins _ s9 σ8 H9 _ I9 q9) fun yv s10 ⟨y, H10, I10, r10, hz, n10⟩ => ?_
        obtain ⟨m', hm, w10⟩ := hN _ _ n10
        obtain ⟨a1, a2, a3, a4, a5⟩ := back I10 wk8
        have hvl := v5.length
        refine call_meets F.slot_list_append ⟨_, a5, rfl⟩ F.entry_list_append (F.args_list_append_2 _ _) (PySem.list_append s2.heap.objs.size its.toArray nn yv (by rw [List.size_toArray]; omega)) ⟨a5, ?_⟩
        have q := PySem.IsL.update a5 (·.push yv)
        have k10 : ∀ b o, b ≠ s2.heap.objs.size → s10.heap.get? b = some o → (s10.heap.update s2.heap.objs.size (Obj.mapSeq (·.push yv))).get? b = some o := fun b o hb e => (Heap.get?_update_other s10.heap (Obj.mapSeq (·.push yv)) (Ne.symm hb)).trans e
        obtain ⟨_, b1, b2, b3, b4, b5⟩ := hDok
        have I11 : Inv Y [] (capSt ix σ) H10 { s10 with heap := s10.heap.update s2.heap.objs.size (Obj.mapSeq (·.push yv)) } :=
          a1.turned (t' := s10.toks) k10 a4 (Nat.ne_of_lt (exLt _ List.mem_cons_self)) (.inl List.mem_cons_self) (fun x c e => b4 x c (hcl x c e)) (fun p hp => by
            have : p ∈ (X.pn ++ pins) ++ ([] : List (Addr × Obj)) := hp
            exact b5 p (by simpa using this))
        have e1 : its.toArray.push yv = (its ++ [yv]).toArray := by simp
        rw [e1] at q
        refine ⟨m', hm, i + 1, ys ++ [y], H10, its ++ [yv], _, I11, T.keep _ _ _ a2 fun b hb o e => k10 b o (Nat.ne_of_lt (hfpLt b hb)) e, a3, a4, q, v5.append (.cons r10 .nil), ?_, w10⟩
        rw [List.length_append, List.length_singleton]
        omega
  exact codeAny_compStart_list (loop _ rfl) (T.self _ 0 _ _ _ (T.keep _ _ _ hst3 fun b hb o e => old b o e) (loop _ rfl))

/-- [elt for tg in iter if ..] -/
theorem pe_comp {wi : TI} (SC : CompSc X N' ix scope) (hc : X.calm = true) (hk : GK ix g) (hi : PI X tg iter wi)
    (hg : ∀ s₃ H₃ ex pins, PG (compCx X N' scope s₃ H₃ ex pins) tg g) (ht : ∀ s₃ H₃ ex pins, PIfs (compCx X N' scope s₃ H₃ ex pins) ifs ts) (he : ∀ s₃ H₃ ex pins, PE (compCx X N' scope s₃ H₃ ex pins) elt te)
    (hs : ∀ x, foldedSetIterable iter X.env x = pure x := by intro _; rfl) : PE X (.ListComp elt [⟨tg, iter, ifs, 0⟩] scope pos) (tComp ix wi g ts te) := by
  intro pins s σ H Q I h
  rw [eval_ListComp]
  have hfr : ∀ y ∈ scope.names, y.2 = .free → ∃ c, X.env.cells.lookup y.1 = some c := fun y hy hf => I.ok.has y.1 (SC.free y hy hf)
  refine wpAny_comprehension_free (use := none) rfl hs (closureFor_eq hfr) SC.kind SC.names (thn (hi pins s σ H _ I h) fun v s1 h1 => thn h1 fun itv s2 h2 => ?_)
  obtain ⟨it, fp, tn, J, H2, e, I2, T, st2, f2, q⟩ := h2
  subst e
  refine comp_loop (RR := fun acc C => compPost (model X.prog X.w) X.A X.xe none (EP X pins σ Q) acc C) SC hc hk hg ht he I2 T st2 f2 q ?_
  intro D C s' ys H' m I' fpC hm q'
  refine ⟨m, hm, fun h'' hs'' => ⟨.ref D, _, ?_, rfl, q'⟩⟩
  obtain ⟨f0, f1, f2', f3, f4, f5⟩ := fpC
  exact I'.turned (t' := s'.toks) (fun b o hb e => hs''.extBut b o hb e) f0 f1 f3 f4 f5

/-- name = [elt for ..], the stores exchanged -/
theorem ps_setComp {wi : TI} {i : Nat} {x : Str} {pos' spos : Pos} (hN : X.N.Nodup) (hxi : X.N[i]? = some x) (hx : Loc X.env.scope x) (SC : CompSc X N' ix scope) (hc : X.calm = true) (hk : GK ix g) (hi : PI X tg iter wi)
    (hg : ∀ s₃ H₃ ex pins, PG (compCx X N' scope s₃ H₃ ex pins) tg g) (ht : ∀ s₃ H₃ ex pins, PIfs (compCx X N' scope s₃ H₃ ex pins) ifs ts) (he : ∀ s₃ H₃ ex pins, PE (compCx X N' scope s₃ H₃ ex pins) elt te)
    (hsw : swapsWith (.ListComp elt [⟨tg, iter, ifs, 0⟩] scope pos) (some (.Name x pos')) spos.line X.env = pure true := by rfl)
    (hs : ∀ x, foldedSetIterable iter X.env x = pure x := by intro _; rfl) (hf : X.fn x = true ∨ X.env.scope.names.lookup x = some .local := by first | exact .inl rfl | exact .inr rfl | assumption) :
    PS X (.Assign [.Name x pos'] (.ListComp elt [⟨tg, iter, ifs, 0⟩] scope pos) spos) (tAsg (tComp ix wi g ts te) (gName i)) := by
  intro pins s σ H D I h
  have hfr : ∀ y ∈ scope.names, y.2 = .free → ∃ c, X.env.cells.lookup y.1 = some c := fun y hy hf => I.ok.has y.1 (SC.free y hy hf)
  rw [exec_Assign_Name_used _ _ _ _ hsw]; refine wpAny_bind (wpAny_standAt (wpAny_bind ?_))
  show wpAny _ X.A (do let _ ← comprehension (.ListComp elt [⟨tg, iter, ifs, 0⟩] scope pos) scope X.env _ (newList []) false (eval iter X.env) (some (assign (.Name x pos') X.env))) _ _ s
  refine wpAny_bind (wpAny_mono (wpAny_comprehension_free (use := some (assign (.Name x pos') X.env)) (Q := fun _ s' => SP X pins D .next s') rfl hs (closureFor_eq hfr) SC.kind SC.names
    (thn (hi pins s σ H _ I h) fun v s1 h1 => thn h1 fun itv s2 h2 => ?_)) (fun _ s' hq => wpAny_pure (wpAny_pure hq)) fun _ _ e => e)
  obtain ⟨it, fp, tn, J, H2, e, I2, T, st2, f2, q⟩ := h2
  subst e
  refine comp_loop (RR := fun acc C => compPost (model X.prog X.w) X.A X.xe (some (assign (.Name x pos') X.env)) (fun _ s' => SP X pins D .next s') acc C) SC hc hk hg ht he I2 T st2 f2 q ?_
  intro Da C s' ys H' m I' fpC hm q'
  show wpAny _ X.A (assign (.Name x pos') X.env (.ref Da)) _ _ _
  refine wpAny_assign_Name (store_ok2 I' hN hxi hx (show RelV (.ref Da) (.ref Da) from rfl) (fun s'' I'' ⟨a, hsb, ha⟩ => ?_) hf)
  obtain ⟨f0, f1, f2', f3, f4, f5⟩ := fpC
  have hCa : C ≠ a := by
    rcases ha with e | e
    · rw [e]; exact f1
    · exact Ne.symm (f4 x a e)
  refine ⟨m, hm.sameBut hsb hCa, fun h₃ hs₃ => ⟨_, _, ?_, q'⟩⟩
  exact I''.turned (t' := s''.toks) (fun b o hb e => hs₃.extBut b o hb e) f0 f1 f3 f4 f5
end
/-- a comprehension by a word of the turn, what was put, the heap -/
theorem comp_by {J : It} {n : Nat} {g : TG} {ts : TT} {te : TE} {σ0 : St} {Q : VK} {H : Hp} (Pv : Nat → List V → Hp → Prop) (h0 : Pv 0 [] H) (hgo : ∀ i ys H, i < n → Pv i ys H → J.go i H) (hst : ∀ ys H, Pv n ys H → J.stop n H)
    (hs : ∀ i x ys H H', i < n → Pv i ys H → J.yld i H x H' → g x σ0 H' fun σ2 H2 => ts σ2 H2 fun b H3 => if b = true then te σ2 H3 fun y H4 => ys.length < sizeLine ∧ Pv (i + 1) (ys ++ [y]) H4 else Pv (i + 1) ys H3)
    (hd : ∀ ys H D, Pv n ys H → H D = none → Q (.ref D) (upd H D (.lst ys))) : cGo g ts te σ0 J Q H := by
  refine ⟨fun i m ys H => m = n - i ∧ i ≤ n ∧ Pv i ys H, ⟨n, by simp, Nat.zero_le _, h0⟩, ?_⟩
  rintro i m ys H ⟨rfl, hi, p⟩
  by_cases hlt : i < n
  · exact .inr ⟨hgo i ys H hlt p, Pv (i + 1), fun ys' H' p' => ⟨n - (i + 1), by omega, rfl, hlt, p'⟩, fun x H' y => hs i x ys H H' hlt p y⟩
  · have e : i = n := by omega
    subst e
    exact .inl ⟨hst ys H p, fun D hD => hd ys H D p hD⟩
end L2

end
section
set_option maxHeartbeats 3999000
namespace L2
open PySem PySem.Spec PyProof.Rows

section
variable {X : Cx} {pins : List (Addr × Obj)} {σ : St} {H : Hp} {s : Shared} {h' : Heap}
end

/-! ### enumerate(a list) with a tuple of targets -/
/-- at turn i: a new tuple of the number and the item -/
def ItEn (Sq : Hp → Addr → List V → Prop) (a : Addr) : It :=
  ⟨fun i H => ∃ xs x, Sq H a xs ∧ xs[i]? = some x, fun i H x H' => ∃ T v, H T = none ∧ x = .ref T ∧ H' = upd H T (.tup [.int i, v]) ∧ ∀ xs, Sq H a xs → xs[i]? = some v, fun i H => ∃ xs, Sq H a xs ∧ xs.length ≤ i⟩
theorem two_le_line : 2 ≤ sizeLine := by rw [sizeLine_eq]; decide
def iEn (Sq : Hp → Addr → List V → Prop) (ta : TA) : TI := fun σ H R => ta σ H fun vs H1 => ∃ a xs, vs = [.ref a] ∧ Sq H1 a xs ∧ R (ItEn Sq a) H1
/-! ### zip(two lists) with a tuple of targets -/
def ItZp (Sq1 Sq2 : Hp → Addr → List V → Prop) (a b : Addr) : It :=
  ⟨fun i H => ∃ xs ys x y, Sq1 H a xs ∧ Sq2 H b ys ∧ xs[i]? = some x ∧ ys[i]? = some y,
   fun i H x H' => ∃ T u v, H T = none ∧ x = .ref T ∧ H' = upd H T (.tup [u, v]) ∧ (∀ xs, Sq1 H a xs → xs[i]? = some u) ∧ ∀ ys, Sq2 H b ys → ys[i]? = some v,
   fun i H => ∃ xs ys, Sq1 H a xs ∧ Sq2 H b ys ∧ (xs.length ≤ i ∨ ys.length ≤ i)⟩
def iZp (Sq1 Sq2 : Hp → Addr → List V → Prop) (ta : TA) : TI := fun σ H R => ta σ H fun vs H1 => ∃ a b xs ys, vs = [.ref a, .ref b] ∧ Sq1 H1 a xs ∧ Sq2 H1 b ys ∧ R (ItZp Sq1 Sq2 a b) H1
/-! ### reversed(a list) -/
def ItRv (Sq : Hp → Addr → List V → Prop) (a : Addr) (n : Nat) : It :=
  ⟨fun i H => i < n ∧ ∃ xs, Sq H a xs ∧ xs.length = n, fun i H x H' => H' = H ∧ ∀ xs, Sq H a xs → xs[n - 1 - i]? = some x, fun i H => n ≤ i⟩
def iRv (Sq : Hp → Addr → List V → Prop) (ta : TA) : TI := fun σ H R => ta σ H fun vs H1 => ∃ a xs, vs = [.ref a] ∧ Sq H1 a xs ∧ R (ItRv Sq a xs.length) H1
end L2

end
section
set_option maxHeartbeats 3999000
namespace PySem
namespace F
end F
def rvdObj (l : Addr) (i : Int) : Obj := { cls := .type "reversed", data := .fields #[.ref l, rawInt i] }
def Heap.IsRvd (h : Heap) (a l : Addr) (i : Int) : Prop := ∃ o, h.get? a = some o ∧ o.cls = .type "reversed" ∧ o.data = .fields #[.ref l, rawInt i]
section
variable {prog : Program} {w : World} {A : Around} {E : Value → Shared → Prop} {s : Shared}
open PyProof.Rows
end
end PySem

/-! ### what `enumerate` draws of a tuple -/
namespace PySem
section
variable {prog : Program} {w : World} {A : Around} {E : Value → Shared → Prop} {s : Shared}
end
def tupIt (t : Addr) : Obj := { cls := .type "tuple_iterator", data := .fields #[.ref t, .int 0 0] }
def enumAt (it : Addr) : Obj := { cls := .type "enumerate", data := .fields #[.none, .bool false, .ref it, rawInt 0, .none, .none] }
end PySem
namespace L2
open PySem PySem.Spec PyProof.Rows
/-! ### reversed(a tuple) -/
/-- reversed(x), x a list or a tuple -/
def iRvS (K : PySem.W.Frag) (ta : TA) : TI := fun σ H R => ta σ H fun vs H1 => ∃ a xs, vs = [.ref a] ∧ ((SqL K H1 a xs ∧ R (ItRv (SqL K) a xs.length) H1) ∨ (SqT K H1 a xs ∧ R (ItRv (SqT K) a xs.length) H1))
/-! ### enumerate(a tuple) -/
end L2

end
section
set_option maxHeartbeats 3999000
namespace L2
open PySem PySem.Spec PyProof.Rows

/-! ### == at any depth -/
inductive EqD (K : PySem.W.Frag) (H : Hp) : Nat → V → V → Bool → Prop where
  | flat {d : Nat} {x y : V} (hx : flatV x = true) (hy : flatV y = true) : EqD K H d x y (eqV x y)
  | same {d : Nat} {a : Addr} : EqD K H d (.ref a) (.ref a) true
  | lists {d : Nat} {a b : Addr} {xs ys : List V} {e : Nat → Bool} (hne : a ≠ b) (ha : SqL K H a xs) (hb : SqL K H b ys) (hl : xs.length = ys.length)
      (he : ∀ (j : Nat) x y, xs[j]? = some x → ys[j]? = some y → EqD K H d x y (e j)) : EqD K H (d + 1) (.ref a) (.ref b) ((List.range xs.length).all e)
  | lens {d : Nat} {a b : Addr} {xs ys : List V} (hne : a ≠ b) (ha : SqL K H a xs) (hb : SqL K H b ys) (hl : xs.length ≠ ys.length) : EqD K H (d + 1) (.ref a) (.ref b) false
  | tups {d : Nat} {a b : Addr} {xs ys : List V} {e : Nat → Bool} (hne : a ≠ b) (ha : SqT K H a xs) (hb : SqT K H b ys)
      (he : ∀ (j : Nat) x y, xs[j]? = some x → ys[j]? = some y → EqD K H d x y (e j)) : EqD K H (d + 1) (.ref a) (.ref b) ((List.range (min xs.length ys.length)).all e && xs.length == ys.length)
theorem Vals.getE {xs : List V} {us : List Value} (r : Vals xs us) {j : Nat} (h : j < us.toArray.size) : ∃ x, xs[j]? = some x ∧ RelV x us.toArray[j] := by
  have hl := r.length
  have hj : j < xs.length := by rw [hl]; simpa using h
  obtain ⟨u, hu, ru⟩ := r.get (i := j) (x := xs[j]) (by simp)
  refine ⟨xs[j], by simp, ?_⟩
  have : us.toArray[j] = u := by
    have h2 : j < us.length := by simpa using h
    rw [List.getElem?_eq_getElem h2] at hu
    simpa using Option.some.inj hu
  rw [this]
  exact ru
theorem EqD.at {X : Cx} {pins : List (Addr × Obj)} {σ : St} {H : Hp} {s : Shared} (I : Inv X pins σ H s) {d : Nat} {x y : V} {b : Bool} (h : EqD X.K H d x y b) :
    ∀ (A : Around) (u v : Value), RelV x u → RelV y v → A.units + d < cLine → SeqAt.EqAt A s u v b := by
  induction h with
  | flat hx hy => exact fun A u v rx ry _ => eqAt_V rx ry hx hy
  | same => intro A u v rx ry _; cases rx; cases ry; exact SeqAt.EqAt.same _
  | lists hne ha hb hl he ih =>
    intro A u v rx ry hu
    cases rx; cases ry
    obtain ⟨is1, r1, p1, _⟩ := I.list ha
    obtain ⟨is2, r2, p2, _⟩ := I.list hb
    have l1 := r1.length
    have l2 := r2.length
    refine SeqAt.EqAt.of_refs hne ?_
    have q := SeqAt.RcAt.lists (A := A) p1.isList p2.isList (by simp only [List.size_toArray]; omega) (by omega) fun j h1 h2 => by
      obtain ⟨x, hx, rx⟩ := r1.getE h1
      obtain ⟨y, hy, ry⟩ := r2.getE h2
      exact ih j x y hx hy A.in1 _ _ rx ry (by simp only [Around.in1_units]; omega)
    rw [List.size_toArray, ← l1] at q
    exact q
  | lens hne ha hb hl =>
    intro A u v rx ry hu
    cases rx; cases ry
    obtain ⟨is1, r1, p1, _⟩ := I.list ha
    obtain ⟨is2, r2, p2, _⟩ := I.list hb
    have l1 := r1.length
    have l2 := r2.length
    exact SeqAt.EqAt.of_refs hne (SeqAt.RcAt.lists_lengths p1.isList p2.isList (by simp only [List.size_toArray, bne_iff_ne]; omega) (by omega))
  | tups hne ha hb he ih =>
    intro A u v rx ry hu
    cases rx; cases ry
    obtain ⟨is1, r1, p1, _⟩ := I.tuple ha
    obtain ⟨is2, r2, p2, _⟩ := I.tuple hb
    have l1 := r1.length
    have l2 := r2.length
    refine SeqAt.EqAt.of_refs hne ?_
    have q := SeqAt.RcAt.tuples (A := A) (s := s) p1 p2 (by omega) fun j h1 h2 => by
      obtain ⟨x, hx, rx⟩ := r1.getE h1
      obtain ⟨y, hy, ry⟩ := r2.getE h2
      exact ih j x y hx hy A.in1 _ _ rx ry (by simp only [Around.in1_units]; omega)
    rw [List.size_toArray, List.size_toArray, ← l1, ← l2] at q
    exact q
/-- == of two lists, two tuples -/
def rEqD (K : PySem.W.Frag) (neg : Bool) : R2 := fun x y H Q => ∃ a b xs ys, x = .ref a ∧ y = .ref b ∧ ((SqL K H a xs ∧ SqL K H b ys) ∨ (SqT K H a xs ∧ SqT K H b ys)) ∧
  ((xs.length ≠ ys.length ∧ (∀ (j : Nat) x y, xs[j]? = some x → ys[j]? = some y → ∃ c, EqD K H 8 x y c) ∧ Q (.bl neg) H) ∨
   (xs.length = ys.length ∧ ∃ e : Nat → Bool, (∀ (j : Nat) x y, xs[j]? = some x → ys[j]? = some y → EqD K H 8 x y (e j)) ∧ Q (.bl (if neg then !(List.range xs.length).all e else (List.range xs.length).all e)) H))
theorem op_neD {X : Cx} (hu : X.A.units + 20 < cLine) : OpR X (compareOp .NotEq) (rEqD X.K true) := by
  intro pins s σ H x y v u Q I rx ry h
  obtain ⟨a, b, xs, ys, rfl, rfl, hk, h⟩ := h
  cases rx; cases ry
  rcases hk with ⟨ha, hb⟩ | ⟨ha, hb⟩
  · obtain ⟨is1, r1, p1, _⟩ := I.list ha
    obtain ⟨is2, r2, p2, _⟩ := I.list hb
    have l1 := r1.length
    have l2 := r2.length
    rcases h with ⟨hl, _, q⟩ | ⟨hl, e, he, q⟩
    · exact SeqAt.RcNeAt.lists_lengths p1.isList p2.isList (by simp only [List.size_toArray, bne_iff_ne]; omega) (by omega) _ _ _ _ ⟨.bl true, H, I, rfl, q⟩
    · refine SeqAt.RcNeAt.lists p1.isList p2.isList (e := e) (by simp only [List.size_toArray]; omega) (by omega) (fun j h1 h2 => ?_) _ _ _ _ ⟨.bl _, H, I, rfl, ?_⟩
      · obtain ⟨x, hx, rx⟩ := r1.getE h1
        obtain ⟨y, hy, ry⟩ := r2.getE h2
        exact (he j x y hx hy).at I _ _ _ rx ry (by simp only [Around.in1_units]; omega)
      · rw [List.size_toArray, ← l1]
        exact q
  · obtain ⟨is1, r1, p1, _⟩ := I.tuple ha
    obtain ⟨is2, r2, p2, _⟩ := I.tuple hb
    have l1 := r1.length
    have l2 := r2.length
    rcases h with ⟨hl, he, q⟩ | ⟨hl, e, he, q⟩
    · have he' : ∀ j : Nat, ∃ c : Bool, ∀ x y, xs[j]? = some x → ys[j]? = some y → EqD X.K H 8 x y c := fun j => by
        cases hx : xs[j]? with
        | none => exact ⟨true, fun x y z => by cases z⟩
        | some x =>
          cases hy : ys[j]? with
          | none => exact ⟨true, fun x y _ z => by cases z⟩
          | some y =>
            obtain ⟨c, hc⟩ := he j x y hx hy
            exact ⟨c, fun x' y' z1 z2 => by cases z1; cases z2; exact hc⟩
      obtain ⟨e, he''⟩ := Classical.axiomOfChoice he'
      refine SeqAt.RcNeAt.tuples (s := s) p1 p2 (e := e) (by omega) (fun j h1 h2 => ?_) _ _ _ _ ⟨.bl _, H, I, rfl, ?_⟩
      · obtain ⟨x, hx, rx⟩ := r1.getE h1
        obtain ⟨y, hy, ry⟩ := r2.getE h2
        exact (he'' j x y hx hy).at I _ _ _ rx ry (by simp only [Around.in1_units]; omega)
      · have hb' : (is1.toArray.size == is2.toArray.size) = false := by
          rw [List.size_toArray, List.size_toArray]; exact beq_eq_false_iff_ne.mpr (by omega)
        rw [hb', Bool.and_false]
        exact q
    · refine SeqAt.RcNeAt.tuples (s := s) p1 p2 (e := e) (by omega) (fun j h1 h2 => ?_) _ _ _ _ ⟨.bl _, H, I, rfl, ?_⟩
      · obtain ⟨x, hx, rx⟩ := r1.getE h1
        obtain ⟨y, hy, ry⟩ := r2.getE h2
        exact (he j x y hx hy).at I _ _ _ rx ry (by simp only [Around.in1_units]; omega)
      · have hb' : (is1.toArray.size == is2.toArray.size) = true := by
          rw [List.size_toArray, List.size_toArray]; exact beq_iff_eq.mpr (by omega)
        have hmin : min is1.toArray.size is2.toArray.size = xs.length := by rw [List.size_toArray, List.size_toArray]; omega
        rw [hb', Bool.and_true, hmin]
        exact q
/-! ### isinstance -/
theorem call_isinst {X : Cx} : CallR X (.builtin "isinstance") (fun xs H Q => ∃ x t n b, xs = [x, .ty n] ∧ TyOf X.K H x t ∧ PySem.W.kitOne X.K t (.type n) = some b ∧ Q (.bl b) H) := by
  intro pins s σ H xs us Q I r h
  obtain ⟨x, t, n, b, rfl, ty, hk, q⟩ := h
  obtain ⟨u, u', rfl, rx, r2⟩ := vals2 r
  cases r2
  exact isinst_ok I rx ty hk fun tk => ⟨.bl b, H, I.tok tk, rfl, q⟩

/-! ### range as a thing, list(range) -/
theorem call_range1 {X : Cx} : CallR X (.type "range") (fun xs H Q => ∃ j : Int, xs = [.int j] ∧ ∀ l, H l = none → Q (.ref l) (upd H l (.rng 0 j))) := by
  intro pins s σ H xs us Q I r h
  obtain ⟨j, rfl, q⟩ := h
  obtain ⟨u, rfl, t, rfl⟩ := vals1 r
  refine call_range_1 ?_
  exact ⟨.ref s.heap.objs.size, _, I.laid (o := .rng 0 j) (fun b o e => Heap.get?_push_of_some _ e) (Nat.le_refl _) ⟨_, _, _, Heap.get?_push_size _ rfl⟩, rfl, q _ I.fresh⟩
def intsTo (lo : Int) (n : Nat) : List Int := (List.range n).map fun (i : Nat) => lo + (i : Int)
theorem intsTo_length (lo : Int) (n : Nat) : (intsTo lo n).length = n := by simp [intsTo]
theorem vals_of_items {acc : Array Value} {lo : Int} {n : Nat} (h : ItemsOf (fun i v => ∃ t, v = .int (lo + (i : Nat) * 1) t) acc n) : Vals ((intsTo lo n).map V.int) acc.toList := by
  obtain ⟨hsz, hv⟩ := h
  have go : ∀ (us : List Value) (k : Nat), (∀ (j : Nat) v, us[j]? = some v → ∃ t, v = .int (lo + ((k + j : Nat) : Int)) t) → Vals (((List.range us.length).map fun (i : Nat) => V.int (lo + ((k + i : Nat) : Int)))) us := by
    intro us
    induction us with
    | nil => intro k _; exact .nil
    | cons u us ih =>
      intro k hu
      rw [List.length_cons, List.range_succ_eq_map, List.map_cons, List.map_map]
      refine .cons ?_ ?_
      · obtain ⟨t, e⟩ := hu 0 u rfl
        exact ⟨t, e⟩
      · have := ih (k + 1) fun j v e => by
          obtain ⟨t, z⟩ := hu (j + 1) v (by simpa using e)
          exact ⟨t, by rw [z]; congr 1; omega⟩
        have e2 : (fun (i : Nat) => V.int (lo + ((k + 1 + i : Nat) : Int))) = ((fun (i : Nat) => V.int (lo + ((k + i : Nat) : Int))) ∘ Nat.succ) := by
          funext i
          show V.int _ = V.int _
          congr 2
          show ((k + 1 + i : Nat) : Int) = ((k + (i + 1) : Nat) : Int)
          omega
        rw [← e2]
        exact this
  have h1 := go acc.toList 0 fun j v e => by
    obtain ⟨t, z⟩ := hv j v (by simpa using e)
    exact ⟨t, by rw [z]; simp⟩
  have e1 : acc.toList.length = n := by simpa using hsz
  rw [e1] at h1
  unfold intsTo
  rw [List.map_map]
  have e2 : (V.int ∘ fun (i : Nat) => lo + (i : Int)) = fun (i : Nat) => V.int (lo + ((0 + i : Nat) : Int)) := by
    funext i
    show V.int (lo + (i : Int)) = V.int (lo + ((0 + i : Nat) : Int))
    rw [Nat.zero_add]
  rw [e2]
  exact h1
theorem call_list_rng {X : Cx} (hc : X.calm = true) : CallR X (.type "list") (fun xs H Q => ∃ p hi, xs = [.ref p] ∧ H p = some (.rng 0 hi) ∧ 0 ≤ hi ∧ hi ≤ 1000 ∧ ∀ l, H l = none → Q (.ref l) (upd H l (.lst ((intsTo 0 hi.toNat).map V.int)))) := by
  intro pins s σ H xs us Q I r h
  obtain ⟨p, hi, rfl, hp, h0, h1, q⟩ := h
  obtain ⟨u, rfl, rx⟩ := vals1 r
  cases rx
  obtain ⟨t, u', v, e⟩ := (show ObjOk X.prog X.w H s.heap p (.rng 0 hi) from I.hok p _ hp)
  have hsl := sizeLine_eq
  refine call_list_range (n := hi.toNat) (I.ok.hd hc) (show IsRange s.heap p 0 hi 1 t u' v from e) (small_one (by omega) (by omega) (by omega) (by omega)) (by rw [rangeSize_one]; split <;> omega) (by omega) fun h' tk acc' c' kk ho hacc => ?_
  have hv := vals_of_items (lo := 0) (n := hi.toNat) hacc
  refine ⟨.ref s.heap.objs.size, _, I.laid kk (Nat.le_refl _) ?_, rfl, q _ I.fresh⟩
  exact ⟨by rw [List.length_map, intsTo_length]; omega, acc'.toList, c', hv, by simpa using ho⟩
end L2

namespace L2
open PySem PySem.Spec PyProof.Rows
/-- a list or a tuple, walked -/
def iSeq (K : PySem.W.Frag) (tl : TE) : TI := fun σ H R => tl σ H fun x H1 => ∃ a, x = .ref a ∧ (((∃ xs, SqL K H1 a xs) ∧ R (Itl K a) H1) ∨ ((∃ xs, SqT K H1 a xs) ∧ R (Itt K a) H1))
/-- a + b of two lists -/
def rCatL (K : PySem.W.Frag) : R2 := fun x y H Q => ∃ a b xs ys, x = .ref a ∧ y = .ref b ∧ H a = some (.lst xs) ∧ H b = some (.lst ys) ∧ xs.length + ys.length ≤ sizeLine ∧ ∀ p, H p = none → Q (.ref p) (upd H p (.lst (xs ++ ys)))
end L2

namespace L2
open PySem PySem.Spec PyProof.Rows
/-- a display of written ints -/
def intsOf : List Expr → Option (List Int)
  | [] => some []
  | .Constant (.int i) _ _ :: r => (intsOf r).map (i :: ·)
  | _ => none
def tInts (ns : List Int) : TA := fun _ H Q => Q (ns.map V.int) H
theorem pa_ints' {X : Cx} : ∀ (es : List Expr) (ns : List Int), intsOf es = some ns → PA X es (tInts ns) := by
  intro es
  induction es with
  | nil =>
    intro ns h
    have e : ns = [] := (Option.some.inj h).symm
    subst e
    exact pa_nil
  | cons e r ih =>
    intro ns h
    unfold intsOf at h
    split at h
    · rename_i heq
      cases heq
    · rename_i i j p r' heq
      injection heq with e1 e2
      subst e1 e2
      cases hr : intsOf r with
      | none => rw [hr] at h; cases h
      | some ms =>
        rw [hr] at h
        have e : i :: ms = ns := Option.some.inj h
        subst e
        exact pa_cons pe_int (ih ms hr)
    · cases h
theorem pa_ints {X : Cx} {es : List Expr} {ns : List Int} (h : intsOf es = some ns) : PA X es (tInts ns) := pa_ints' es ns h
end L2

namespace L2
open PySem PySem.Spec PyProof.Rows
theorem pa_cI {X : Cx} {i : Int} {j : Nat} {p : Pos} {es : List Expr} {t : TA} (hr : PA X es t) : PA X (.Constant (.int i) j p :: es) (tCons (tC (.int i)) t) := pa_cons pe_int hr
end L2

namespace L2
open PySem PySem.Spec PyProof.Rows
/-- name = [written ints]: use it with @ (a plain application looks into the type, at a cost of two to the number of items) -/
theorem pss_ints {X : Cx} {i : Nat} {x : Str} {pos' pos2 spos : Pos} {rest : List Stmt} {u : TS} {es : List Expr} {ns : List Int} (h : intsOf es = some ns) (hN : X.N.Nodup) (hi : X.N[i]? = some x) (hx : Loc X.env.scope x)
    (hf : X.fn x = true ∨ X.env.scope.names.lookup x = some .local) (hr : PSs X rest u) : PSs X (.Assign [.Name x pos'] (.List es pos2) spos :: rest) (tSeq (tAsg (tLst (tInts ns)) (gName i)) u) := by
  have h1 : PE X (.List es pos2) (tLst (tInts ns)) := @pe_lst X es (tInts ns) pos2 (@pa_ints X es ns h)
  have h2 : PS X (.Assign [.Name x pos'] (.List es pos2) spos) (tAsg (tLst (tInts ns)) (gName i)) := ps_set hN hi hx h1 (by rfl) hf
  exact pss_cons h2 hr
end L2

namespace L2
open PySem PySem.Spec PyProof.Rows
/-! ### rules inside a comprehension's block: the written part by its own name, so that the reading does not hang on the block's state -/
section
variable {X : Cx} {K : PySem.W.Frag}
theorem ix_listK (hK : X.K = K) : IxR X (rIxL K) := by subst hK; exact ix_list
def rLenS (K : PySem.W.Frag) : List V → Hp → VK → Prop := fun xs H Q => ∃ p ys, xs = [.ref p] ∧ (SqL K H p ys ∨ SqT K H p ys) ∧ Q (.int ys.length) H
theorem call_len_seqK (hK : X.K = K) : CallR X (.builtin "len") (rLenS K) := by subst hK; exact call_len_seq
def rIsi (K : PySem.W.Frag) : List V → Hp → VK → Prop := fun xs H Q => ∃ x t n b, xs = [x, .ty n] ∧ TyOf K H x t ∧ PySem.W.kitOne K t (.type n) = some b ∧ Q (.bl b) H
theorem pe_bmK {o e : Expr} {es : List Expr} {to : TE} {t : TA} {name : Str} {apos cpos : Pos} {T id : String} {r : V → List V → Hp → VK → Prop} (hK : X.K = K) (pa : PlainAttrs T) (slot : Slot T name id) (hty : typeOf (.builtin id) = pure (.type "method_descriptor")) (hm : MtR X id r) (ho : PE X o to) (ha : PA X (e :: es) t)
    (hbase : attributeBase o name X.env (eval o X.env) = eval o X.env := by rfl)
    (hfew : ((backTo cpos (starEach (e :: es) X.env)).all (fun x => !x.1) && (backToKw cpos (keywordEach [] X.env)).all (fun x => x.1.isSome)
      && decide ((e :: es).length + ([] : List Keyword).length + (if ([] : List Keyword).isEmpty then 0 else 1) < 30)) = true := by rfl)
    (hline : (apos.endLine == cpos.line) = true := by rfl) (hs : starEach (e :: es) X.env = (false, eval e X.env) :: starEach es X.env := by rfl) (hplain : (backTo cpos (starEach es X.env)).any (·.1) = false := by rfl) :
    PE X (.Call (.Attribute o name apos) (e :: es) [] cpos) (tBM K T r to t) := by subst hK; exact pe_bm pa slot hty hm ho ha hbase hfew hline hs hplain
end
end L2

namespace L2
end L2

end
section
namespace My
/-! ### numbers modulo p -/
def Cg (p a b : Int) : Prop := ∃ k, a = b + p * k
/-! ### the value of a polynomial -/
def pval (p x : Int) : List Int → Int
  | [] => 0
  | c :: r => (c + x * pval p x r) % p
/-- power by power, as the law reckons -/
def lv (p x : Int) : Int → Int → List Int → Int
  | total, _, [] => total
  | total, power, c :: r => lv p x ((total + c * power) % p) (power * x % p) r
/-! ### the inverse -/
def primesL : List Int := [5, 7, 11, 13, 17, 19, 23, 29, 31, 37, 41, 43, 47, 53, 59, 61, 67, 71, 73, 79, 83, 89, 97]
def invLoop (p : Int) : Nat → Int → Int → Int → Int
  | 0, prod, _, _ => prod
  | n + 1, prod, sq, left => if 0 < left then invLoop p n (if left % 2 = 1 then prod * sq % p else prod) (sq * sq % p) (left / 2) else prod
def inv (p h : Int) : Int := invLoop p 7 1 (h % p) (p - 2)
def invB : Bool := primesL.all fun p => (List.range p.toNat).all fun h => h == 0 || (inv p h * h) % p == 1
theorem prime_rng {p : Int} (hp : p ∈ primesL) : 5 ≤ p ∧ p ≤ 97 := by
  have : primesL.all (fun p => decide (5 ≤ p ∧ p ≤ 97)) = true := by decide +kernel
  have := List.all_eq_true.mp this p hp
  simpa using this
/-! ### times x - r, and a multiple added -/
def trF (p r : Int) (high low : Int) : Int := (high - r * low) % p
def trMul (p r : Int) (v : List Int) : List Int := List.zipWith (trF p r) (0 :: v) (v ++ [0])
def ad (p f : Int) : List Int → List Int → List Int
  | c :: cs, v :: vs => (c + f * v) % p :: ad p f cs vs
  | cs, [] => cs
  | [], _ :: _ => []
/-! ### point by point -/
def nStep (p : Int) (s : List Int × List Int) (q : Int × Int) : List Int × List Int :=
  (ad p ((q.2 - pval p q.1 s.1) * inv p (pval p q.1 s.2) % p) s.1 s.2, trMul p q.1 s.2)
def nAll (p : Int) (n : Nat) (pts : List (Int × Int)) : List Int × List Int := pts.foldl (nStep p) (List.replicate n 0, [1])
def thr (p : Int) (pts : List (Int × Int)) : List Int := (nAll p pts.length pts).1
def prodX (z : Int) : List (Int × Int) → Int
  | [] => 1
  | q :: r => (z - q.1) * prodX z r
/-- what holds behind some points -/
structure Nw (p : Int) (n : Nat) (done : List (Int × Int)) (s : List Int × List Int) : Prop where
  lc : s.1.length = n
  lv : s.2.length = done.length + 1
  rc : ∀ c ∈ s.1, 0 ≤ c ∧ c < p
  rv : ∀ c ∈ s.2, 0 ≤ c ∧ c < p
  van : ∀ z, Cg p (pval p z s.2) (prodX z done)
  hit : ∀ q ∈ done, pval p q.1 s.1 = q.2
/-- the points of a law -/
structure Pts (p : Int) (pts : List (Int × Int)) : Prop where
  nd : (pts.map (·.1)).Nodup
  rg : ∀ q ∈ pts, 0 ≤ q.1 ∧ q.1 < p ∧ 0 ≤ q.2 ∧ q.2 < p
/-! ### as the law does it: with a wall of n + 1 numbers -/
def byF (p high step : Int) (m : Int) : Bool := decide (m * high % p = step)
end My

end
section
set_option maxHeartbeats 3999000
/-! ### zip of two iterators, read by enumerate: the tuple it hands out is kept by enumerate's own tuple -/
namespace PySem
abbrev IsZ (h : Heap) (z TI TO : Addr) (f0 f1 : Value) : Prop := h.get? z = some { cls := .type "zip", dict := none, data := .fields #[f0, f1, .bool false, .ref TI, .ref TO], slots := #[] }
def ZF (f0 f1 : Value) : Prop := (f0 = .none ∨ ∃ a t, f0 = .int a t) ∧ ∃ b, f1 = .bool b
structure Zap (z TI TO i1 i2 : Addr) (fp1 fp2 : List Addr) : Prop where
  zTI : TI ≠ z
  zTO : TO ≠ z
  z1 : i1 ≠ z
  z2 : i2 ≠ z
  TT : TI ≠ TO
  T1 : TI ≠ i1
  T2 : TI ≠ i2
  O1 : TO ≠ i1
  O2 : TO ≠ i2
  ii : i1 ≠ i2
  a1 : z ∉ fp1
  a2 : TO ∉ fp1
  a3 : i2 ∉ fp1
  b1 : z ∉ fp2
  b2 : TO ∉ fp2
  b3 : i1 ∉ fp2
section
variable {prog : Program} {w : World} {A : Around} {E : Value → Shared → Prop} {s : Shared}
end
end PySem
namespace PySem
def lstIt (l : Addr) : Obj := { cls := .type "list_iterator", data := .fields #[.ref l, .int 0 0] }
def prOf (x y : Value) : Obj := { cls := .type "tuple", data := .seq #[x, y] }
def zpOf (a b : Addr) : Obj := { cls := .type "zip", data := .fields #[.none, .bool false, .bool false, .ref a, .ref b] }
abbrev zt2 (h : Heap) (l1 l2 : Addr) : Heap := (h.push (tupIt l1)).push (lstIt l2)
abbrev zt4 (h : Heap) (l1 l2 : Addr) : Heap := ((zt2 h l1 l2).push (prOf (.ref h.objs.size) (.ref (h.push (tupIt l1)).objs.size))).push (prOf .none .none)
abbrev zt5 (h : Heap) (l1 l2 : Addr) : Heap := (zt4 h l1 l2).push (zpOf (zt2 h l1 l2).objs.size ((zt2 h l1 l2).push (prOf (.ref h.objs.size) (.ref (h.push (tupIt l1)).objs.size))).objs.size)
section
variable {prog : Program} {w : World} {A : Around} {E : Value → Shared → Prop} {s : Shared}
end
end PySem

end
section
set_option maxHeartbeats 3999000
namespace L2
open PySem PySem.Spec PyProof.Rows
/-! ### enumerate(zip(a tuple, a list)) with targets i, (u, v) -/
def ItEZ (Sq1 Sq2 : Hp → Addr → List V → Prop) (a b : Addr) : It :=
  ⟨fun i H => ∃ xs ys x y, Sq1 H a xs ∧ Sq2 H b ys ∧ xs[i]? = some x ∧ ys[i]? = some y,
   fun i H x H' => ∃ T1 T2 u v, H T1 = none ∧ H T2 = none ∧ T1 ≠ T2 ∧ x = .ref T2 ∧ H' = upd (upd H T1 (.tup [u, v])) T2 (.tup [.int i, .ref T1]) ∧ (∀ xs, Sq1 H a xs → xs[i]? = some u) ∧ ∀ ys, Sq2 H b ys → ys[i]? = some v,
   fun i H => ∃ xs ys, Sq1 H a xs ∧ Sq2 H b ys ∧ xs.length = i⟩
abbrev ezFp (n : Nat) : List Addr := [n + 5, n + 4, n + 2, n + 3, n, n + 1]
abbrev ezSt (n a b : Nat) (i : Nat) (h : Heap) : Prop := (∃ old, IsEnum h (n + 5) (n + 4) i old) ∧ (∃ f0 f1, IsZ h (n + 4) (n + 2) (n + 3) f0 f1 ∧ ZF f0 f1) ∧ IsPair h (n + 2) (.ref n) (.ref (n + 1)) ∧ (∃ u v, IsPair h (n + 3) u v) ∧ h.IsTupleIter n a i ∧ h.IsListIter (n + 1) b i
def iEZ (Sq1 Sq2 : Hp → Addr → List V → Prop) (ta : TA) : TI := fun σ H R => ta σ H fun vs H1 => ∃ a b xs ys, vs = [.ref a, .ref b] ∧ Sq1 H1 a xs ∧ Sq2 H1 b ys ∧ R (ItEZ Sq1 Sq2 a b) H1
end L2

end
section
set_option maxHeartbeats 3998000
/-! ### zip(a tuple, a list) by itself -/
namespace PySem
section
variable {prog : Program} {w : World} {A : Around} {E : Value → Shared → Prop} {s : Shared}
end
end PySem
namespace L2
open PySem PySem.Spec PyProof.Rows
def ItZq (Sq1 Sq2 : Hp → Addr → List V → Prop) (a b : Addr) : It :=
  ⟨(ItZp Sq1 Sq2 a b).go, (ItZp Sq1 Sq2 a b).yld, fun i H => ∃ xs ys, Sq1 H a xs ∧ Sq2 H b ys ∧ (xs.length = i ∨ (i < xs.length ∧ ys.length = i))⟩
abbrev ztFp (n : Nat) : List Addr := [n + 4, n + 2, n + 3, n, n + 1]
abbrev ztSt (n a b : Nat) (i : Nat) (h : Heap) : Prop := (∃ f0 f1, IsZ h (n + 4) (n + 2) (n + 3) f0 f1 ∧ ZF f0 f1) ∧ IsPair h (n + 2) (.ref n) (.ref (n + 1)) ∧ (∃ u v, IsPair h (n + 3) u v) ∧ h.IsTupleIter n a i ∧ h.IsListIter (n + 1) b i
def iZq (Sq1 Sq2 : Hp → Addr → List V → Prop) (ta : TA) : TI := fun σ H R => ta σ H fun vs H1 => ∃ a b xs ys, vs = [.ref a, .ref b] ∧ Sq1 H1 a xs ∧ Sq2 H1 b ys ∧ R (ItZq Sq1 Sq2 a b) H1
end L2

end
section
set_option maxHeartbeats 3999000
namespace L2
open PySem PySem.Spec PyProof.Rows
/-! ### all(a list of truths) -/
theorem range_all_eq : ∀ (bs : List Bool), (List.range bs.length).all (fun i => bs.getD i false) = bs.all id
  | [] => rfl
  | b :: bs => by
    rw [List.length_cons, List.range_succ_eq_map, List.all_cons, List.all_map, List.all_cons]
    have ih := range_all_eq bs
    have e : ((fun i => (b :: bs).getD i false) ∘ Nat.succ) = fun i => bs.getD i false := by funext i; rfl
    rw [e, ih]
    rfl
theorem call_allB {X : Cx} (hc : X.calm = true) : CallR X (.builtin "all") (fun xs H Q => ∃ (p : Addr) (bs : List Bool), xs = [.ref p] ∧ SqL X.K H p (bs.map V.bl) ∧ Q (.bl (bs.all id)) H) := by
  intro pins s σ H xs us Q I r h
  obtain ⟨p, bs, rfl, hq, q⟩ := h
  obtain ⟨u, rfl, rx⟩ := vals1 r
  cases rx
  obtain ⟨its, rv, pl, hz⟩ := I.list hq
  have hl := rv.length
  rw [List.length_map] at hl
  have hlt : p < s.heap.objs.size := by obtain ⟨_, _, e, _⟩ := pl; exact Heap.lt_size e
  refine call_all_walk (wpAny_pyIter_list pl.isList ?_)
  refine ⟨s.heap.objs.size, _, _, its.toArray.size, _, _, fun i => bs.getD i false, rfl, Walks.list (by simp [I.ok.hd hc]) s.heap.objs.size p (Nat.ne_of_lt hlt) its.toArray, ⟨⟨_, Heap.get?_push_size _ rfl, rfl, rfl⟩, pl.isList.push _⟩, fun i v s' Q' E' hP hQ => ?_, fun h' tk kk => ?_⟩
  · have e1 : its[i]? = some v := by simpa using hP
    obtain ⟨hi, _⟩ := List.getElem?_eq_some_iff.mp e1
    have hi' : i < bs.length := by omega
    obtain ⟨u, hu, ru⟩ := rv.get (i := i) (x := V.bl bs[i]) (by rw [List.getElem?_map, List.getElem?_eq_getElem hi']; rfl)
    rw [e1] at hu
    cases hu
    have ru : v = Value.bool bs[i] := ru
    subst ru
    have e2 : bs.getD i false = bs[i] := by simp [hi']
    have hQ : Q' (bs.getD i false) s' := hQ
    rw [e2] at hQ
    exact wpAny_truthy_bool hQ
  · rw [List.size_toArray, ← hl, range_all_eq]
    exact ⟨.bl (bs.all id), H, I.kept fun b o e => kk b o (fun z => by
      have z : b = s.heap.objs.size := by simpa using z
      exact absurd (Heap.lt_size e) (by rw [z]; exact Nat.lt_irrefl _)) (Heap.get?_push_of_some _ e), rfl, q⟩
end L2

end
section
set_option maxHeartbeats 3999000
namespace L2
open PySem PySem.Spec PyProof.Rows
/-! ### len(range(0, b, c)) -/
def tLenR (t : TA) : TE := fun σ H Q => t σ H fun vs H1 => ∃ b c : Int, vs = [.int 0, .int b, .int c] ∧ 1 ≤ c ∧ c ≤ 1000 ∧ 0 ≤ b ∧ b < 1073741824 ∧ Q (.int ((b + c - 1) / c)) H1
end L2

end
section
set_option maxHeartbeats 3999000
namespace My
open PySem L2 PyProof.Rows
section
variable {K : PySem.W.Frag}

theorem at_int {ns : List Int} {k : Int} (h0 : 0 ≤ k) (h1 : k < ns.length) : ∃ c : Int, ns[k.toNat]? = some c ∧ atI (ns.map V.int) k = some (.int c) := by
  have hlt : k.toNat < ns.length := by omega
  have e : atI (ns.map V.int) ((k.toNat : Nat) : Int) = some (.int ns[k.toNat]) := atI_nat (by simp [List.getElem?_map, List.getElem?_eq_getElem hlt])
  have hk : ((k.toNat : Nat) : Int) = k := by omega
  rw [hk] at e
  exact ⟨ns[k.toNat], by simp, e⟩
theorem at_ints {ns : List Int} {k : Int} (h0 : 0 ≤ k) (h1 : k < ns.length) : ∃ c : Int, atI (ns.map V.int) k = some (.int c) := let ⟨c, _, e⟩ := at_int h0 h1; ⟨c, e⟩
theorem same_upd {H : Hp} {a : Addr} {o : HO} (h : H a = none) : Same H (upd H a o) := fun b u e => by rw [upd_ne (ne_of_none e h)]; exact e
theorem same_upd' {H H' : Hp} {a : Addr} {o : HO} (s : Same H H') (h : H a = none) : Same H (upd H' a o) := fun b u e => by rw [upd_ne (ne_of_none e h)]; exact s b u e
theorem small_line {n : Nat} (h : n ≤ 10000) : n < sizeLine := by rw [sizeLine_eq]; omega

/-! ### _law_cell -/
def sp_l_cell (K : PySem.W.Frag) : Sp := fun vs H Q _ => ∃ (a : Addr) (ns : List Int) (k : Int), vs = [.ref a, .int k] ∧ SqL K H a (ns.map V.int) ∧ ns.length ≤ 63 ∧ 0 ≤ k ∧ k ≤ 1000 ∧ ∀ c : Int, Q (.int c) H
/-! ### _law_draws -/
def DrawsOk (many : Nat) (base : Int) (ds : List Int) : Prop := ds.length = many ∧ ∀ d ∈ ds, 0 ≤ d ∧ d < base
def sp_l_draws (K : PySem.W.Frag) : Sp := fun vs H Q _ => ∃ (a : Addr) (ns : List Int) (k many base : Int), vs = [.ref a, .int k, .int many, .int base] ∧ SqL K H a (ns.map V.int) ∧ ns.length ≤ 63 ∧ 0 ≤ k ∧ k ≤ 1000 ∧ 0 ≤ many ∧ many ≤ 1000 ∧ 0 < base ∧ base < 1073741824 ∧
  ∀ (l : Addr) (ds : List Int) (H' : Hp), H l = none → Same H H' → DrawsOk many.toNat base ds → H' l = some (.lst (ds.map V.int)) → Q (.ref l) H'
abbrev prs8 : List V := [.int 2147483647, .int 2147483629, .int 2147483587, .int 2147483579, .int 2147483563, .int 2147483549, .int 2147483543, .int 2147483497]
theorem at_prs8 {m : Int} (h0 : 0 ≤ m) (h1 : m < 8) : ∃ q : Int, atI prs8 m = some (.int q) ∧ 0 < q ∧ q < 2147483648 := by
  have : m = 0 ∨ m = 1 ∨ m = 2 ∨ m = 3 ∨ m = 4 ∨ m = 5 ∨ m = 6 ∨ m = 7 := by omega
  rcases this with e | e | e | e | e | e | e | e <;> subst e <;> exact ⟨_, rfl, by decide, by decide⟩
theorem at_prs8m (j : Int) : ∃ q : Int, atI prs8 (j % 8) = some (.int q) ∧ 0 < q ∧ q < 2147483648 := at_prs8 (Int.emod_nonneg _ (by decide)) (Int.emod_lt_of_pos _ (by decide))

/-! ### _law_code -/
theorem gY {i : Nat} {x : V} {σ : L2.St} {H : Hp} {A B : L2.St → Hp → Prop} (h : A (σ.set i (some x)) H) : gName i x σ H (fun σ2 H2 => tYes σ2 H2 fun b H3 => if b = true then A σ2 H3 else B σ2 H3) := by
  show (if true = true then A (σ.set i (some x)) H else B (σ.set i (some x)) H)
  rw [if_pos rfl]
  exact h
structure CodeOk (mk mn p k : Int) (pl : List Int) : Prop where
  pr : p ∈ primesL
  k1 : 1 ≤ k
  kk : k ≤ mk
  kl : k ≤ pl.length
  ln : (pl.length : Int) ≤ mn
  nd : pl.Nodup
  rg : ∀ x ∈ pl, 0 ≤ x ∧ x < p
def sp_l_code (K : PySem.W.Frag) : Sp := fun vs H Q _ => ∃ (a : Addr) (ns : List Int) (at' mk mn : Int), vs = [.ref a, .int at', .int mk, .int mn] ∧ SqL K H a (ns.map V.int) ∧ ns.length ≤ 63 ∧ 0 ≤ at' ∧ at' ≤ 1000 ∧ 1 ≤ mk ∧ mk ≤ 5 ∧ mk ≤ mn ∧ mn ≤ 16 ∧
  ∀ (c tt : Addr) (p k : Int) (pl : List Int) (H' : Hp), H c = none → Same H H' → CodeOk mk mn p k pl → H' c = some (.tup [.int p, .int k, .ref tt]) → H' tt = some (.tup (pl.map V.int)) → Q (.ref c) H'
theorem at_two {x y m : Int} (h0 : 0 ≤ m) (h1 : m < 2) : ∃ z : Int, atI [V.int x, V.int y] m = some (.int z) ∧ (z = x ∨ z = y) := by
  have : m = 0 ∨ m = 1 := by omega
  rcases this with e | e <;> subst e
  · exact ⟨x, rfl, .inl rfl⟩
  · exact ⟨y, rfl, .inr rfl⟩
theorem at_mem {ns : List Int} {k : Int} (h0 : 0 ≤ k) (h1 : k < ns.length) : ∃ c : Int, c ∈ ns ∧ atI (ns.map V.int) k = some (.int c) := by
  obtain ⟨c, e, h⟩ := at_int h0 h1
  exact ⟨c, List.mem_of_getElem? e, h⟩
theorem erase_map {α β : Type} (f : α → β) : ∀ (l : List α) (k : Nat), (l.map f).eraseIdx k = (l.eraseIdx k).map f
  | [], _ => rfl
  | _ :: _, 0 => rfl
  | a :: l, k + 1 => by show f a :: (l.map f).eraseIdx k = f a :: (l.eraseIdx k).map f; rw [erase_map f l k]
theorem erase_perm {α : Type} : ∀ {l : List α} {k : Nat} {x : α}, l[k]? = some x → (x :: l.eraseIdx k).Perm l
  | [], _, _, h => by simp at h
  | a :: l, 0, x, h => by
    have e : a = x := by simpa using h
    subst e
    exact List.Perm.refl _
  | a :: l, k + 1, x, h => by
    have ih := erase_perm (l := l) (k := k) (x := x) (by simpa using h)
    exact (List.Perm.swap a x _).trans (ih.cons a)
theorem move_ok {p : Int} {xs ls : List Int} {k : Nat} {x : Int} (h : ls[k]? = some x) (nd : (xs ++ ls).Nodup) (rg : ∀ y ∈ xs ++ ls, 0 ≤ y ∧ y < p) : ((xs ++ [x]) ++ ls.eraseIdx k).Nodup ∧ ∀ y ∈ (xs ++ [x]) ++ ls.eraseIdx k, 0 ≤ y ∧ y < p := by
  have hp : ((xs ++ [x]) ++ ls.eraseIdx k).Perm (xs ++ ls) := by
    rw [List.append_assoc]
    exact (erase_perm h).append_left xs
  exact ⟨hp.nodup_iff.mpr nd, fun y hy => rg y (hp.mem_iff.mp hy)⟩
theorem intsTo_ok (p : Int) : (intsTo 0 p.toNat).Nodup ∧ ∀ y ∈ intsTo 0 p.toNat, 0 ≤ y ∧ y < p := by
  unfold intsTo
  constructor
  · rw [List.nodup_iff_pairwise_ne, List.pairwise_map]
    exact (List.nodup_iff_pairwise_ne.mp (List.nodup_range (n := p.toNat))).imp fun {a b} hab => by omega
  · intro y hy
    obtain ⟨i, hi, e⟩ := List.mem_map.mp hy
    have := List.mem_range.mp hi
    omega

/-! ### value_at, _law_value -/
def sp_value_at (K : PySem.W.Frag) : Sp := fun vs H Q _ => ∃ (p x : Int) (a : Addr) (cs : List Int), vs = [.int p, .ref a, .int x] ∧ (SqL K H a (cs.map V.int) ∨ SqT K H a (cs.map V.int)) ∧ 0 < p ∧ p ≤ 97 ∧ 0 ≤ x ∧ x < p ∧ Q (.int (pval p x cs)) H
def sp_l_value (K : PySem.W.Frag) : Sp := sp_value_at K
theorem map_get {cs : List Int} {j : Nat} {x : V} (h : (cs.map V.int)[j]? = some x) : ∃ c, x = .int c ∧ cs[j]? = some c := by
  rw [List.getElem?_map] at h
  cases e : cs[j]? with
  | none => rw [e] at h; cases h
  | some c => rw [e] at h; exact ⟨c, (Option.some.inj h).symm, rfl⟩
/-! ### _law_whole of an int -/
def sp_l_whole (K : PySem.W.Frag) : Sp := fun vs H Q _ => ∃ i : Int, vs = [.int i] ∧ Q (.bl true) H

/-! ### _law_value -/
/-! ### inverse -/
def sp_inverse (K : PySem.W.Frag) : Sp := fun vs H Q _ => ∃ (p h : Int), vs = [.int p, .int h] ∧ p ∈ primesL ∧ 0 ≤ h ∧ h < p ∧ Q (.int (inv p h)) H
def leftOf (σ : L2.St) : Nat := match (σ[4]? : Option (Option V)) with
  | some (some (V.int l)) => l.toNat
  | _ => 0
/-! ### times_root -/
def sp_times_root (K : PySem.W.Frag) : Sp := fun vs H Q _ => ∃ (p r : Int) (a : Addr) (cs : List Int), vs = [.int p, .ref a, .int r] ∧ H a = some (.lst (cs.map V.int)) ∧ cs.length ≤ 1000 ∧ 0 < p ∧ 0 ≤ r ∧ r ≤ 97 ∧
  ∀ (l : Addr) (H' : Hp), H l = none → Same H H' → H' l = some (.lst ((trMul p r cs).map V.int)) → Q (.ref l) H'

/-! ### through -/
/-- a list of pairs at a place -/
def PtsAt (K : PySem.W.Frag) (H : Hp) (a : Addr) (pts : List (Int × Int)) : Prop := ∃ bs : List Addr, SqL K H a (bs.map V.ref) ∧ bs.length = pts.length ∧ ∀ (i : Nat) (b : Addr) (q : Int × Int), bs[i]? = some b → pts[i]? = some q → H b = some (.tup [.int q.1, .int q.2])
theorem take_snoc {α : Type} {l : List α} {i : Nat} {x : α} (h : l[i]? = some x) : l.take (i + 1) = l.take i ++ [x] := by
  rw [List.take_add_one, h, Option.toList]
def sp_through (K : PySem.W.Frag) : Sp := fun vs H Q _ => ∃ (p : Int) (a : Addr) (pts : List (Int × Int)), vs = [.int p, .ref a] ∧ PtsAt K H a pts ∧ pts.length ≤ 100 ∧ p ∈ primesL ∧ Pts p pts ∧
  ∀ (l : Addr) (H' : Hp), H l = none → Same H H' → H' l = some (.tup ((thr p pts).map V.int)) → Q (.ref l) H'

/-! ### _law_through -/
def sp_l_through (K : PySem.W.Frag) : Sp := sp_through K
/-! ### law -/
/-- a comprehension over a list or tuple, item by item, that leaves no things behind -/
theorem comp_mapL {a : Addr} {xs fs : List V} {g : TG} {ts : TT} {te : TE} {σ0 : L2.St} {Q : VK} {H : Hp} (ha : SqL K H a xs) (hl : fs.length = xs.length) (hn : xs.length ≤ 10000)
    (hs : ∀ (i : Nat) (x y : V) (R : VK) (B : L2.St → Hp → Prop), xs[i]? = some x → fs[i]? = some y → R y H → g x σ0 H fun σ2 H2 => ts σ2 H2 fun b H3 => if b = true then te σ2 H3 R else B σ2 H3)
    (hd : ∀ D, H D = none → Q (.ref D) (upd H D (.lst fs))) : cGo g ts te σ0 (Itl K a) Q H := by
  refine comp_by (n := xs.length) (fun i ys H' => ys = fs.take i ∧ H' = H) ⟨by simp, rfl⟩ ?_ ?_ ?_ ?_
  · rintro i ys H3 hi ⟨_, rfl⟩
    exact ⟨_, xs[i], ha, by simp⟩
  · rintro ys H3 ⟨_, rfl⟩
    exact ⟨_, ha, Nat.le_refl _⟩
  · rintro i x ys H3 H4 hi ⟨rfl, rfl⟩ ⟨rfl, hx⟩
    have hy : fs[i]? = some fs[i] := by simp
    refine hs i x fs[i] _ _ (hx _ ha) hy ⟨small_line (Nat.le_trans (List.length_take_le _ _) (by omega)), ?_, rfl⟩
    rw [take_snoc hy]
  · rintro ys H3 D ⟨rfl, rfl⟩ hD
    rw [List.take_of_length_le (by omega)]
    exact hd D hD
theorem comp_mapT {a : Addr} {xs fs : List V} {g : TG} {ts : TT} {te : TE} {σ0 : L2.St} {Q : VK} {H : Hp} (ha : SqT K H a xs) (hl : fs.length = xs.length) (hn : xs.length ≤ 10000)
    (hs : ∀ (i : Nat) (x y : V) (R : VK) (B : L2.St → Hp → Prop), xs[i]? = some x → fs[i]? = some y → R y H → g x σ0 H fun σ2 H2 => ts σ2 H2 fun b H3 => if b = true then te σ2 H3 R else B σ2 H3)
    (hd : ∀ D, H D = none → Q (.ref D) (upd H D (.lst fs))) : cGo g ts te σ0 (Itt K a) Q H := by
  refine comp_by (n := xs.length) (fun i ys H' => ys = fs.take i ∧ H' = H) ⟨by simp, rfl⟩ ?_ ?_ ?_ ?_
  · rintro i ys H3 hi ⟨_, rfl⟩
    exact ⟨_, xs[i], ha, by simp⟩
  · rintro ys H3 ⟨_, rfl⟩
    exact ⟨_, ha, Nat.le_refl _⟩
  · rintro i x ys H3 H4 hi ⟨rfl, rfl⟩ ⟨rfl, hx⟩
    have hy : fs[i]? = some fs[i] := by simp
    refine hs i x fs[i] _ _ (hx _ ha) hy ⟨small_line (Nat.le_trans (List.length_take_le _ _) (by omega)), ?_, rfl⟩
    rw [take_snoc hy]
  · rintro ys H3 D ⟨rfl, rfl⟩ hD
    rw [List.take_of_length_le (by omega)]
    exact hd D hD
/-- the points of a law -/
def ptsOf (p : Int) (pl ds : List Int) : List (Int × Int) := pl.zip ((ds.drop 42).map (· % p))
theorem map_map_get {ms : List Int} {f : Int → V} {i : Nat} {x y : V} (hx : (ms.map V.int)[i]? = some x) (hy : (ms.map f)[i]? = some y) : ∃ c, ms[i]? = some c ∧ x = .int c ∧ y = f c := by
  obtain ⟨c, rfl, hc⟩ := map_get hx
  rw [List.getElem?_map, hc] at hy
  exact ⟨c, hc, rfl, (Option.some.inj hy).symm⟩
def sp_law (K : PySem.W.Frag) : Sp := fun vs H Q _ => ∃ (a : Addr) (ns : List Int), vs = [.ref a] ∧ SqL K H a (ns.map V.int) ∧ ns.length ≤ 63 ∧ ∀ H', Q (.bl true) H'

end
end My

end
section
set_option maxHeartbeats 3999000
namespace My
open PySem L2 PyProof.Rows
section
variable {K : PySem.W.Frag}
/-! ### things of any kind -/
inductive Any1 (H : Hp) : V → Prop where
  | non : Any1 H .non
  | bl (b : Bool) : Any1 H (.bl b)
  | int (i : Int) : Any1 H (.int i)
  | str (x : Str) : Any1 H (.str x)
  | lst {a : Addr} {xs : List V} (e : H a = some (.lst xs)) : Any1 H (.ref a)
  | tup {a : Addr} {xs : List V} (e : H a = some (.tup xs)) : Any1 H (.ref a)
def isI : V → Bool
  | .int _ => true
  | .bl _ => true
  | _ => false
def isB : V → Bool
  | .bl _ => true
  | _ => false
def isW : V → Bool
  | .int _ => true
  | _ => false
def lstOf (H : Hp) : V → Option (List V)
  | .ref a => match H a with
    | some (.lst xs) => some xs
    | _ => none
  | _ => none
/-- what isinstance says of it -/
theorem any_ty {H : Hp} {v : V} (h : Any1 H v) : ∃ t, TyOf K H v t ∧ PySem.W.kitOne K t (.type "int") = some (isI v) ∧ PySem.W.kitOne K t (.type "bool") = some (isB v) ∧ PySem.W.kitOne K t (.type "list") = some (lstOf H v).isSome := by
  cases h with
  | non => exact ⟨_, .non, rfl, rfl, rfl⟩
  | bl b => exact ⟨_, .bl b, rfl, rfl, rfl⟩
  | int i => exact ⟨_, .int i, rfl, rfl, rfl⟩
  | str x => exact ⟨_, .str x, rfl, rfl, rfl⟩
  | lst e => exact ⟨_, .lst e, rfl, rfl, by simp only [lstOf, e]; rfl⟩
  | tup e => exact ⟨_, .tup e, rfl, rfl, by simp only [lstOf, e]; rfl⟩
/-- .. and, if it is a list, its items are such -/
def Any2 (H : Hp) (v : V) : Prop := Any1 H v ∧ ∀ xs, lstOf H v = some xs → xs.length ≤ 1000 ∧ ∀ x ∈ xs, Any1 H x
/-- is it an entry -/
def entB (p : Int) : V → Bool
  | .non => true
  | .int i => decide (0 ≤ i) && decide (i < p)
  | _ => false
/-- is it a row -/
def rowB (p : Int) (n : Nat) (H : Hp) (v : V) : Bool := match lstOf H v with
  | some xs => decide (xs.length = n) && xs.all (entB p)
  | none => false
/-- a code in the heap -/
def CodeAt (H : Hp) (c tt : Addr) (p k : Int) (pl : List Int) : Prop := H c = some (.tup [.int p, .int k, .ref tt]) ∧ H tt = some (.tup (pl.map V.int))
theorem CodeAt.same {H H' : Hp} {c tt : Addr} {p k : Int} {pl : List Int} (s : Same H H') (h : CodeAt H c tt p k pl) : CodeAt H' c tt p k pl := ⟨s _ _ h.1, s _ _ h.2⟩
def numB (p : Int) : V → Bool
  | .int i => decide (0 ≤ i) && decide (i < p)
  | _ => false
def sp_any_whole (K : PySem.W.Frag) : Sp := fun vs H Q _ => ∃ v, vs = [v] ∧ Any1 H v ∧ Q (.bl (isW v)) H
def sp_is_number (K : PySem.W.Frag) : Sp := fun vs H Q _ => ∃ (p : Int) (v : V), vs = [.int p, v] ∧ Any1 H v ∧ Q (.bl (numB p v)) H
def sp_any_row (K : PySem.W.Frag) : Sp := fun vs H Q _ => ∃ (c tt : Addr) (p k : Int) (pl : List Int) (v : V), vs = [.ref c, v] ∧ CodeAt H c tt p k pl ∧ Any2 H v ∧ ∀ H', Same H H' → Q (.bl (rowB p pl.length H v)) H'
theorem isW_int {v : V} (h : isW v = true) : ∃ i, v = .int i := by
  cases v with
  | int i => exact ⟨i, rfl⟩
  | _ => cases h
/-! ### rows -/
def enc : Option Int → V
  | none => .non
  | some i => .int i
def fitsB (p : Int) (pl : List Int) (rw : List (Option Int)) (poly : List Int) (j : Nat) : Bool := match pl[j]?, rw[j]? with
  | some x, some (some i) => decide (i = pval p x poly)
  | _, _ => false
def fitL (p : Int) (pl : List Int) (rw : List (Option Int)) (poly : List Int) (n : Nat) : List Int := ((List.range n).filter (fitsB p pl rw poly)).map fun (j : Nat) => (j : Int)
/-- the heap without one thing -/
def hide (H : Hp) (a : Addr) : Hp := fun b => if b = a then none else H b
end
end My

end
section
set_option maxHeartbeats 3999000
namespace My
open PySem L2 PyProof.Rows
section
variable {K : PySem.W.Frag}
def sp_fits (K : PySem.W.Frag) : Sp := fun vs H Q _ => ∃ (c tt ra po : Addr) (p k : Int) (pl poly : List Int) (rw : List (Option Int)), vs = [.ref c, .ref ra, .ref po] ∧ CodeAt H c tt p k pl ∧ H ra = some (.lst (rw.map enc)) ∧ rw.length = pl.length ∧ H po = some (.tup (poly.map V.int)) ∧ 0 < p ∧ p ≤ 97 ∧ (∀ x ∈ pl, 0 ≤ x ∧ x < p) ∧ pl.length ≤ 100 ∧
  ∀ (l : Addr) (H' : Hp), H l = none → Same H H' → H' l = some (.lst ((fitL p pl rw poly pl.length).map V.int)) → Q (.ref l) H'
def sp_l_fits (K : PySem.W.Frag) : Sp := sp_fits K
def sp_l_polynomial (K : PySem.W.Frag) : Sp := fun vs H Q _ => ∃ (a : Addr) (ds : List Int) (p k : Int), vs = [.ref a, .int p, .int k] ∧ SqL K H a (ds.map V.int) ∧ ds.length ≤ 1000 ∧ 0 < p ∧
  ∀ (l : Addr) (ms : List Int) (H' : Hp), H l = none → Same H H' → H' l = some (.tup (ms.map V.int)) → Q (.ref l) H'
def someL (rw : List (Option Int)) (n : Nat) : List Int := ((List.range n).filter fun j => (rw[j]?.getD none).isSome).map fun (j : Nat) => (j : Int)
def fitV (p : Int) (pl : List Int) (rw : List (Option Int)) (poly : List Int) : V → Bool
  | .int z => fitsB p pl rw poly z.toNat
  | _ => false
end
end My

end
section
set_option maxHeartbeats 3999000
namespace L2
open PySem PySem.Spec PyProof.Rows
section
variable {prog : Program} {w : World} {A : Around} {h : Heap} {g : Array GenState} {d : Drawn} {tk : Nat} {os : OsState} {K : PySem.W.Frag} {x C : Addr} {E : Value → Shared → Prop}
/-! ### the class of an exception, told by itself -/
theorem class_get2 {R : Result → Shared → Prop} {tp : Value} (J : ∀ M, PySem.W.Looks M h (typeOf (.ref x)) (.ref C)) (X : K.In h)
    (hm : PySem.W.mroIn K C (.type "object") = some true) (q : R (.ok (.ret (.ref C))) ⟨h, g, d, tk, os⟩) :
    codeAny (model prog w) A (Code.call (.builtin "getset_descriptor.__get__") { pos := [.builtin "object.__class__", .ref x, tp] }) R ⟨h, g, d, tk, os⟩ := by
  refine codeAny_call_builtin PySem.W.KF.slot_gs.plain PySem.W.KF.entry_gs (PySem.W.KF.slot_gs.check _ _ _ _ _ _ _ _ ?_ (PySem.W.KF.args_gs _ _ _) ?_)
  · exact PySem.W.KF.type_class
  · unfold Builtin.«getset_descriptor.__get__» Builtin.Getset_descriptor.descrGet
    rw [PySem.W.dga_obj]
    refine wpAny_bind (wpAny_pure ?_)
    try dsimp only
    unfold Builtin.Getset_descriptor.descrGetter
    try dsimp only
    refine wpAny_bind ?_
    unfold Builtin.Getset_descriptor.descrCheckInstance Builtin.Getset_descriptor.descrNameAndClass
    try dsimp only
    rw [PySem.W.KF.owner_class]
    refine wpAny_bind (wpAny_pure ?_)
    try dsimp only
    unfold isInstance
    refine wpAny_bind (wpAny_bind ((J _).at ((PySem.W.looks_mroIn X hm).at ?_)))
    refine wpAny_ite_false rfl (wpAny_pure ?_)
    unfold again
    refine wpAny_pure ⟨Code.quiet_builtin _ (by decide +kernel), ?_⟩
    refine codeAny_builtin PySem.W.KF.entry_class ?_
    unfold Builtin.«object.__class__»
    try dsimp only
    unfold shownTypeOf
    refine wpAny_bind (wpAny_bind ((J _).at ?_))
    refine wpAny_ite_false rfl (wpAny_pure ?_)
    unfold ret
    exact wpAny_pure q
theorem check_ga2 {M : Model} {nameV : Value} {Q : Unit → Shared → Prop} (J : ∀ M, PySem.W.Looks M h (typeOf (.ref x)) (.ref C)) (X : K.In h) (hm : PySem.W.mroIn K C (.type "BaseException") = some true) (q : Q () ⟨h, g, d, tk, os⟩) :
    wpAny M A (checkBuiltinCall "BaseException.__getattribute__" { pos := [.ref x, nameV] }) Q E ⟨h, g, d, tk, os⟩ := by
  have hk : builtinKind "BaseException.__getattribute__" = some Manifest.AttrKind.slot := (by decide +kernel)
  have hs : splitId "BaseException.__getattribute__" = some ("BaseException", "__getattribute__") := by decide +kernel
  unfold checkBuiltinCall
  rw [hk, hs]
  try dsimp only
  unfold isInstance
  refine wpAny_bind (wpAny_bind ((J _).at ((PySem.W.looks_mroIn X hm).at ?_)))
  refine wpAny_ite_false rfl ?_
  have ok := F.args_bexc_ga (.ref x) nameV
  unfold argsOk at ok
  generalize Manifest.signature? "BaseException.__getattribute__" = sg at ok ⊢
  cases sg with
  | none => exact wpAny_pure q
  | some sig =>
    dsimp only at ok ⊢
    rw [ok]
    exact wpAny_pure q
theorem exc_class {Q : Option Value → Shared → Prop} (J : ∀ M, PySem.W.Looks M h (typeOf (.ref x)) (.ref C)) (X : K.In h)
    (F1 : PySem.W.findIn K (.ref C) "__getattribute__" = some (some (.builtin "BaseException.__getattribute__"))) (F2 : PySem.W.findIn K (.ref C) "__getattr__" = some none)
    (F3 : PySem.W.findIn K (.ref C) "__class__" = some (some (.builtin "object.__class__"))) (hm : PySem.W.mroIn K C (.type "object") = some true) (hb : PySem.W.mroIn K C (.type "BaseException") = some true)
    (q : Q (some (.ref C)) ⟨h, g, d, tk + 1, os⟩) : wpAny (model prog w) A (getAttr? (.ref x) "__class__") Q E ⟨h, g, d, tk, os⟩ := by
  unfold getAttr?
  refine wpAny_bind (wpAny_mkText ?_); unfold getAttrBy?
  refine wpAny_bind (wpAny_attempt ?_); unfold getAttrBy
  refine wpAny_holding (wpAny_bind ((J _).at (wpAny_bind ((PySem.W.looks_findIn X F1).at ?_))))
  try dsimp only
  refine wpAny_ite_false rfl ?_
  unfold getAttrByItsOwn
  refine wpAny_bind ((PySem.W.looks_hook (mc := .ref C) X (r := none) (by rw [show onTheHeap (Value.ref C) = true from rfl, if_pos rfl]; exact F2)).at ?_)
  refine wpAny_bind (wpAny_attempt (wpAny_holding ?_)); unfold callGetattribute
  refine wpAny_ite_false rfl ?_
  unfold boundAndCalled
  rw [F.attrBase_ValueError.ga.bind]
  refine wpAny_bind (wpAny_pure ?_)
  try dsimp only
  refine wpAny_call ?_
  refine codeAny_call_builtin F.attrBase_ValueError.ga.plain F.entry_bexc_ga (check_ga2 J X hb ?_)
  unfold Builtin.«object.__getattribute__»; refine wpAny_bind ?_
  unfold slotArgs
  try dsimp only
  refine wpAny_ite_false rfl (wpAny_ite_false rfl (wpAny_pure ?_))
  try dsimp only
  unfold Builtin.ObjectAttr.attrName
  try dsimp only
  refine wpAny_bind (wpAny_pure (wpAny_bind ((J _).at (wpAny_bind ?_))))
  unfold Builtin.ObjectAttr.find
  refine wpAny_bind ((PySem.W.looks_findIn X F3).at ?_)
  unfold Builtin.ObjectAttr.getOf
  try dsimp only
  refine wpAny_bind (wpAny_specialOf_val PySem.W.KF.type_class F.slot_gs_get.lookup ?_)
  unfold Builtin.ObjectAttr.dataDescriptor?
  try dsimp only
  refine wpAny_bind ?_
  unfold Builtin.ObjectAttr.takesStores
  refine wpAny_bind (wpAny_bind (wpAny_specialOf_val PySem.W.KF.type_class F.slot_gs_set.lookup ?_))
  refine wpAny_ite_true rfl (wpAny_pure ?_)
  refine wpAny_ite_true rfl (wpAny_pure ?_)
  try dsimp only
  refine wpAny_bind (wpAny_rule (wpAny_pure ?_)); try dsimp only
  unfold Builtin.ObjectAttr.bindTo
  try dsimp only
  refine wpAny_bind (wpAny_holding (wpAny_call (class_get2 J X hm ?_)))
  try dsimp only
  unfold ret
  refine wpAny_pure ?_
  try dsimp only
  unfold handedOut
  try dsimp only
  refine wpAny_pure ?_
  try dsimp only
  exact wpAny_pure q
end
end L2

end
section
set_option maxHeartbeats 3999000
namespace L2
open PySem PySem.Spec PyProof.Rows
/-! ### isinstance of an exception -/
/-- an own exception class, as the text has it -/
structure Xc (K : PySem.W.Frag) (C : Addr) : Prop where
  f1 : PySem.W.findIn K (.ref C) "__getattribute__" = some (some (.builtin "BaseException.__getattribute__"))
  f2 : PySem.W.findIn K (.ref C) "__getattr__" = some none
  f3 : PySem.W.findIn K (.ref C) "__class__" = some (some (.builtin "object.__class__"))
  ob : PySem.W.mroIn K C (.type "object") = some true
  bb : PySem.W.mroIn K C (.type "BaseException") = some true
  kc : PySem.W.kitCls K (.ref C) (.ref C) = some true
theorem exc_type {h : Heap} {x C : Addr} (e : ∃ o, h.get? x = some o ∧ o.cls = .ref C) (M : Model) : PySem.W.Looks M h (typeOf (.ref x)) (.ref C) := by
  obtain ⟨o, e, c⟩ := e
  intro A Q E s k q
  obtain ⟨h', g, d, t, os⟩ := s
  unfold typeOf
  refine wpAny_bind (wpAny_loadPart_at (k _ _ e) (wpAny_pure ?_))
  rw [c]
  exact q
theorem cls_at {K : PySem.W.Frag} {C : Addr} {b : Value} {r : Bool} (m : PySem.W.mroIn K C b = some r) : ∃ oc dd cd sl, K.lookup C = some ⟨oc, dd, .cls cd, sl⟩ := by
  unfold PySem.W.mroIn PySem.W.clsIn at m
  cases e : List.lookup C K with
  | none => rw [e] at m; cases m
  | some o =>
    obtain ⟨oc, dd, da, sl⟩ := o
    cases da with
    | cls cd => exact ⟨oc, dd, cd, sl, rfl⟩
    | _ => rw [e] at m; cases m
theorem kitx_exc {K : PySem.W.Frag} {x C : Addr} (c : Xc K C) : PySem.W.KitX K (.ref x) (.ref C) (fun h => ∃ o, h.get? x = some o ∧ o.cls = .ref C) := by
  refine ⟨fun M h _ e => exc_type e M, fun M h X e => (PySem.W.kit_cls X c.kc).2.1, fun h tp dd its n sl X e => ?_, fun {prog w A E Q s} X e q => ?_⟩
  · obtain ⟨oc, dd', cd, sl', l⟩ := cls_at c.ob
    have e2 := X _ _ l
    have ne : C ≠ tp := fun z => by
      rw [z, e] at e2
      cases e2
    exact decide_eq_false fun z => ne (by injection z)
  · obtain ⟨h, g, d, tk, os⟩ := s
    exact exc_class (fun M => exc_type e M) X c.f1 c.f2 c.f3 c.ob c.bb q
/-- an exception of the class at C -/
def ExcO (a C : Addr) : HO := .ext fun h => ∃ o, h.get? a = some o ∧ o.cls = .ref C
theorem call_isinstX {X : Cx} : CallR X (.builtin "isinstance") (fun xs H Q => ∃ a C y b, xs = [.ref a, y] ∧ H a = some (ExcO a C) ∧ Xc X.K C ∧ ((∃ D, y = .ref D ∧ PySem.W.kitOne X.K (.ref C) (.ref D) = some b) ∨ ∃ n, y = .ty n ∧ PySem.W.kitOne X.K (.ref C) (.type n) = some b) ∧ Q (.bl b) H) := by
  intro pins s σ H xs us Q I r h
  obtain ⟨a, C, y, b, rfl, ha, c, hy, q⟩ := h
  obtain ⟨u, u', rfl, rx, r2⟩ := vals2 r
  cases rx
  obtain ⟨he, _, _⟩ := (show ObjOk X.prog X.w H s.heap a (ExcO a C) from I.hok a _ ha)
  rcases hy with ⟨D, rfl, hk⟩ | ⟨n, rfl, hk⟩
  · cases r2
    exact PySem.W.kia_one (kitx_exc c) I.kIn he hk (fun z => nomatch z) fun tk => ⟨.bl b, H, I.tok tk, rfl, q⟩
  · cases r2
    exact PySem.W.kia_one (kitx_exc c) I.kIn he hk (fun z => nomatch z) fun tk => ⟨.bl b, H, I.tok tk, rfl, q⟩
end L2

end
section
set_option maxHeartbeats 3999000
namespace L2
open PySem PySem.Spec PyProof.Rows
/-! ### an own exception class in the heap -/
abbrev vErr : List Value := [.type "ValueError", .type "Exception", .type "BaseException", .type "object"]
structure XcAt (C : Addr) (h : Heap) (bmB : List Value) (newId : String) : Prop where
  ex : ∃ nm q N bs bm hdct sn sub ab col dd k0 k1 k2 k3 k5, ∃ mN : Str → Option Value, h.get? C = some (excClassObj nm q C N bs bm hdct sn sub ab col dd k0 k1 k2 k3 k5 newId) ∧ h.Ns N mN ∧ mN "__init__" = none ∧ OwnTail h bmB bm
theorem exc_of_in {K : PySem.W.Frag} {h : Heap} {C : Addr} {bmB : List Value} {newId : String} (X : K.In h) (e : PySem.W.excIn K C bmB newId = true) : XcAt C h bmB newId := by
  unfold PySem.W.excIn at e
  split at e
  · rename_i dict cd sl hl
    split at e
    · rename_i C' bm a0 a1 a2 a3 n a5 hm hs
      simp only [Bool.and_eq_true, beq_iff_eq] at e
      obtain ⟨⟨⟨⟨⟨rfl, rfl⟩, hdel⟩, ht⟩, hn⟩, hi⟩ := e
      obtain ⟨sll⟩ := sl
      have hs : sll = [a0, a1, a2, a3, some (Value.builtin n), a5] := hs
      subst hs
      have ho := X _ _ hl
      cases cd
      dsimp only at hm hn hi hdel
      subst hm
      simp only [Bool.not_eq_true'] at hdel
      subst hdel
      exact ⟨_, _, _, _, _, _, _, _, _, _, _, _, _, _, _, _, _, ho, Heap.Ns.of_isNs (PySem.W.isNs_of_in X hn), PySem.W.nsMap_none_of_in X hn hi, PySem.W.tail_of_in X ht⟩
    · cases e
  · cases e
end L2

end
section
set_option maxHeartbeats 3999000
namespace L2
open PySem PySem.Spec PyProof.Rows
/-! ### how an own exception lies behind a call -/
theorem frames_over {h h' base B : Heap} (k : ∀ b o, h.get? b = some o → h'.get? b = some o) : ∀ {l : List Env}, h.FunFrames base l → (∀ b ∈ frs l, B.get? b = none) → h'.FunFrames B l
  | [], _, _ => trivial
  | env :: r, hl, hb => by
    obtain ⟨hk, ⟨L, o, hf, hn, ho, hd⟩, hr⟩ := hl
    have e : frs (env :: r) = L :: frs r := by unfold frs; rw [List.filterMap_cons, hf]
    rw [e] at hb
    exact ⟨hk, ⟨L, o, hf, hb L (by simp), k _ _ ho, hd⟩, frames_over k hr fun b z => hb b (List.mem_cons_of_mem _ z)⟩
/-- B: what the exception leaves alone -/
structure Xl (P : Program) (w : World) (outer : List Env) (H : Hp) (h : Heap) (H' : Hp) (h' B : Heap) (e C : Addr) : Prop where
  new : h.get? e = none
  hok : HOk P w H' B
  fly : ∃ t, B.FlyingW outer e (.ref C) t h'
  keep : ∀ b o, h.get? b = some o → H b = none → b ∉ frs outer → B.get? b = some o
  slot : ∀ b o, h.get? b = some o → H b = none → b ∈ frs outer → ∃ sl, h'.get? b = some { o with slots := sl }
  free : ∀ b o, h.get? b = some o → H b = none → H' b = none
  there : ∀ b o, h.get? b = some o → b ∉ frs outer → ∃ o', B.get? b = some o'
  tups : ∀ b xs, H b = some (.tup xs) → H' b = some (.tup xs)
  frzs : ∀ b o u, H b = some (.frz o u) → H' b = some (.frz o u)
  tbls : ∀ b ps, H b = some (.tbl ps) → ∃ more, H' b = some (.tbl (ps ++ more))
def CX1 (P : Program) (w : World) : CXT := fun outer H s E ev s' => ∃ (e C : Addr) (H' : Hp) (B : Heap), ev = .ref e ∧ s'.os = s.os ∧ AllBare s'.gens ∧ Xl P w outer H s.heap H' s'.heap B e C ∧ E (.ref C) none H'
section
variable {P : Program} {w : World} {outer : List Env} {H H' : Hp} {h h' B : Heap} {e C : Addr}
theorem obj_at {o : HO} {a : Addr} (x : ObjOk P w H h a o) : ∃ ob, h.get? a = some ob := by
  cases o with
  | lst xs => obtain ⟨_, _, _, _, e⟩ := x; exact ⟨_, e⟩
  | tup xs => obtain ⟨_, _, _, o, e, _⟩ := x; exact ⟨_, e⟩
  | dK kvs => obtain ⟨_, _, _, _, o, _, _, e, _⟩ := x; exact ⟨_, e⟩
  | dT kvs => obtain ⟨_, _, _, _, o, _, _, e, _⟩ := x; exact ⟨_, e⟩
  | set S n => obtain ⟨o, _, _, _, e, _⟩ := x; exact ⟨_, e⟩
  | ins C dx fs => obtain ⟨_, _, _, e, _⟩ := x; exact ⟨_, e⟩
  | own y => obtain ⟨_, e⟩ := x; exact ⟨_, e⟩
  | xd fs => obtain ⟨_, ⟨_, _, _, e, _⟩, _⟩ := x; exact ⟨_, e⟩
  | rng lo hi => obtain ⟨_, _, _, e⟩ := x; exact ⟨_, e⟩
  | frz ob u => obtain ⟨e, _⟩ := x; exact ⟨_, e⟩
  | tbl ps => exact ⟨_, (show h.get? a = some _ from x)⟩
  | met f y => exact ⟨_, (show h.get? a = some _ from x)⟩
  | ext φ => obtain ⟨_, ⟨_, e⟩, _⟩ := x; exact ⟨_, e⟩
theorem Xl.fresh (x : Xl P w outer H h H' h' B e C) : H' e = none := by
  obtain ⟨t, _, hb, _⟩ := x.fly
  cases q : H' e with
  | none => rfl
  | some u =>
    obtain ⟨ob, z⟩ := obj_at (x.hok e u q)
    rw [hb] at z
    cases z
theorem Xl.un (x : Xl P w outer H h H' h' B e C) (hf : ∀ b ∈ frs outer, H b = none) : Un (frs outer) [] H H' h h' where
  keep := fun b o q n hb _ => by
    obtain ⟨t, st, _⟩ := x.fly
    exact st _ _ (x.keep b o q n hb)
  slot := fun b o q n hb _ => x.slot b o q n hb
  free := fun b o q n _ => x.free b o q n
  there := fun b o q _ => by
    by_cases hb : b ∈ frs outer
    · obtain ⟨sl, z⟩ := x.slot b o q (hf b hb) hb
      exact ⟨_, z⟩
    · obtain ⟨o', z⟩ := x.there b o q hb
      obtain ⟨t, st, _⟩ := x.fly
      exact ⟨o', st _ _ z⟩
  tups := x.tups
  frzs := x.frzs
  tbls := x.tbls
end
section
variable {X : Cx} {σ : St} {H : Hp} {s : Shared} {pins : List (Addr × Obj)}
theorem Inv.hid (I : Inv X pins σ H s) : HOk X.prog X.w H (PySem.W.hideAll s.heap (frs X.stack)) := fun a o q =>
  (I.hok a o q).stay (fun b u hb z => PySem.W.hideAll_get _ z fun m => by
    have n := I.stkFree b m
    rcases hb with rfl | hb
    · rw [q] at n; cases n
    · rw [hb] at n; cases n) (fun _ z => z) fun _ _ z => z
theorem frs_cons {env : Env} {outer : List Env} {L : Addr} (hf : env.frame = some L) : frs (env :: outer) = L :: frs outer := by unfold frs; rw [List.filterMap_cons, hf]
/-- from an entry: the objects of the entry are not this def's frame -/
theorem Inv.notHere (I : Inv X pins σ H s) {b : Addr} {o : Obj} (q : X.s₀.heap.get? b = some o) : b ≠ X.env.locals := Nat.ne_of_lt (Nat.lt_of_lt_of_le (Heap.lt_size q) I.ok.above)
end
/-! ### raised in a def -/
section
variable {P : Program} {w : World} {K : PySem.W.Frag} {mg : Str → Option Value} {base : Heap} {N : List Str} {qual : Str} {scope : Scope} {f : Addr} {cd : Value} {A : Around} {outer : List Env} {s₀ : Shared} {H₀ : Hp} {E : XK}
abbrev cxX (P : Program) (w : World) (K : PySem.W.Frag) (mg : Str → Option Value) (base : Heap) (N : List Str) (qual : Str) (scope : Scope) (f : Addr) (cd : Value) (A : Around) (outer : List Env) (s : Shared) (H : Hp) (E : XK) : Cx := cxOf (CX1 P w) P w K mg base N qual scope f cd A outer s H E
theorem raises_out {pins : List (Addr × Obj)} {σ : St} {H : Hp} {s : Shared} {h1 : Heap} {e C : Addr} {vs : List Value} (I : Inv (cxX P w K mg base N qual scope f cd A outer s₀ H₀ E) pins σ H s) (m : s.heap.MadeExcOf h1 e (.ref C) vs) (q : E (.ref C) none H) :
    (cxX P w K mg base N qual scope f cd A outer s₀ H₀ E).xe (.ref e) { s with heap := h1 } := by
  have frm : frs (cxX P w K mg base N qual scope f cd A outer s₀ H₀ E).stack = s₀.heap.objs.size :: frs outer := frs_cons rfl
  obtain ⟨t, he, _, _⟩ := m.there
  have stays : (PySem.W.hideAll s.heap (frs (cxX P w K mg base N qual scope f cd A outer s₀ H₀ E).stack)).StaysIn h1 := fun b o z => m.keeps _ _ (PySem.W.of_hideAll _ z)
  have none_e : (PySem.W.hideAll s.heap (frs (cxX P w K mg base N qual scope f cd A outer s₀ H₀ E).stack)).get? e = none := by
    cases z : (PySem.W.hideAll s.heap (frs (cxX P w K mg base N qual scope f cd A outer s₀ H₀ E).stack)).get? e with
    | none => rfl
    | some o => have := PySem.W.of_hideAll _ z; rw [m.new] at this; cases this
  refine wpAny_leaving_firstW (base := PySem.W.hideAll s.heap (frs (cxX P w K mg base N qual scope f cd A outer s₀ H₀ E).stack)) (outer := outer) I.ok.frames (frames_over m.keeps I.stack fun b z => PySem.W.hideAll_none _ z) rfl he stays none_e rfl rfl rfl fun h2 left => ?_
  obtain ⟨st2, ff2, tr2, sl2⟩ := left
  refine ⟨e, C, H, PySem.W.hideAll s.heap (frs (cxX P w K mg base N qual scope f cd A outer s₀ H₀ E).stack), rfl, I.os, I.bare, ⟨?_, I.hid, ⟨_, st2, none_e, ff2.2.2, tr2⟩, fun b o z n hb => ?_, fun b o z n hb => ?_, fun b o z n => I.base.free b o z n (by simp [cxX, cxOf]), fun b o z hb => ?_, I.base.tups, I.base.frzs, I.base.tbls⟩, q⟩
  · cases z : s₀.heap.get? e with
    | none => rfl
    | some o =>
      obtain ⟨o', z'⟩ := I.base.there e o z (by simp [cxX, cxOf])
      rw [m.new] at z'; cases z'
  · refine PySem.W.hideAll_get _ (I.base.keep b o z n hb (by simp [cxX, cxOf])) fun hm => ?_
    rw [frm] at hm
    rcases List.mem_cons.mp hm with z' | z'
    · exact I.notHere z z'
    · exact hb z'
  · obtain ⟨sl, z1⟩ := I.base.slot b o z n hb (by simp [cxX, cxOf])
    obtain ⟨_, ob, zo, nd⟩ := I.ok.funs.mem hb
    have eo : ob = o := by
      have z3 : s₀.heap.get? b = some ob := zo
      rw [z] at z3; exact (Option.some.inj z3).symm
    subst eo
    obtain ⟨sl', z2⟩ := sl2 b _ (m.keeps _ _ z1) nd
    exact ⟨sl', z2⟩
  · obtain ⟨o', z1⟩ := I.base.there b o z (by simp [cxX, cxOf])
    refine ⟨o', PySem.W.hideAll_get _ z1 fun hm => ?_⟩
    rw [frm] at hm
    rcases List.mem_cons.mp hm with z' | z'
    · exact I.notHere z z'
    · exact hb z'
/-- THE RULE for a def that may raise -/
theorem Fun.okX {x : Str} {st : Stmt} {fd : FuncData} {ps : List Str} {k : Nat} {sp : Sp} (F : Fun K x qual st f fd) (S : FnScope N ps (defScope st)) (len : ∀ vs H Q E, sp vs H Q E → vs.length = ps.length)
    (hbody : ∀ (cdv : Value) (A : Around) (outer : List Env) (s : Shared) (H : Hp) (vs : List V) (Q : VK) (E : XK), Room k (A.deeper (envOfC qual (defScope st) s.heap.objs.size f cdv)) → sp vs H Q E →
      ∃ t, PSs (cxX P w K mg base N qual (defScope st) f cdv A outer s H E) (defBody st) t ∧ t { nx := fun _ H' => Q .non H', rt := Q } (start N vs) H) : FnOk P w K mg base (CX1 P w) (k + 1) f fd ps sp := by
  obtain ⟨oc, od, kV, doc, pm, an, cdv, ct, osl, rfl, lk, hcd⟩ := F.ex
  exact fn_of lk hcd S len fun A outer s H vs Q E hr hsp => hbody cdv A outer s H vs Q E hr hsp
end
/-! ### raise C(e) -/
section
variable {X : Cx} {x : Str} {C : Addr} {e : Expr} {te : TE} {np cpos pos : Pos} {E : XK}
/-- what is raised here is as E wants it -/
def RaisesTo (X : Cx) (E : XK) : Prop := ∀ (pins : List (Addr × Obj)) (σ : St) (H : Hp) (s : Shared) (h1 : Heap) (e C : Addr) (vs : List Value), Inv X pins σ H s → s.heap.MadeExcOf h1 e (.ref C) vs → E (.ref C) none H → X.xe (.ref e) { s with heap := h1 }
def tRaise (C : Addr) (E : XK) (te : TE) : TS := fun _ σ H => tCons te tNil σ H fun vs H1 => vs.length = 1 ∧ E (.ref C) none H1
theorem ps_raise (hx : RaisesTo X E) (hc : X.calm = true) (hg : Gl X x) (hm : X.mg x = some (.ref C)) (xc : PySem.W.excIn X.K C vErr "ValueError.__new__" = true) (he : PE X e te) (hd : (x == ("__debug__" : Str)) = false := by decide)
    (hpl : ((backTo cpos (starEach [e] X.env)).any fun x => x.fst) = false := by rfl) (hst : starEach [e] X.env = (false, eval e X.env) :: starEach [] X.env := by rfl) :
    PS X (.Raise (some (.Call (.Name x np) [e] [] cpos)) none pos) (tRaise C E te) := by
  intro pins s σ H D I h
  obtain ⟨nm, q, N, bs, bm, hdct, sn, sub, ab, col, dd, k0, k1, k2, k3, k5, mN, hob, hns, hin, htl⟩ := (exc_of_in I.mod.kin xc).ex
  refine wpAny_Raise_call_subU (nm := nm) (q := q) (N := N) (bs := bs) (hdct := hdct) (sn := sn) (sub := sub) (ab := ab) (col := col) (dd := dd) (k0 := k0) (k1 := k1) (k2 := k2) (k3 := k3) (k5 := k5) (bm := bm) (bmB := vErr) (bmN := vErr) F.excBase_ValueError rfl F.excBase_ValueError (OwnTail.hasType htl rfl) (I.ok.hd hc) hpl hin (ld_glob I hg hm ⟨rfl, ?_⟩ hd)
  have pa : PA X [e] (tCons te tNil) := pa_cons he pa_nil hst
  have go := pa cpos pins s σ H (fun vs H1 => vs.length = 1 ∧ E (.ref C) none H1) I h
  rw [hst] at go ⊢
  refine Calls.evalArgs_plain (thn go fun us s2 ⟨vs, H2, I2, r2, ql, q2⟩ => ⟨rfl, ?_, I2.bk _ _ hob, hns.keeps I2.bk, htl.keeps I2.bk, fun h1 ea m => hx pins σ H2 s2 h1 ea C _ I2 m q2⟩)
  have := r2.length
  have hsl : 1 ≤ sizeLine := by decide
  show us.length ≤ sizeLine
  omega
end
end L2

end
section
set_option maxHeartbeats 3999000
namespace L2
open PySem PySem.Spec PyProof.Rows
/-! ### judgements at known names (within a try: the names at the exception are those at its entry) -/
def PEat (X : Cx) (pins : List (Addr × Obj)) (σ : St) (e : Expr) (t : TE) : Prop := ∀ (s : Shared) (H : Hp) (Q : VK), Inv X pins σ H s → t σ H Q → wpAny (model X.prog X.w) X.A (eval e X.env) (EP X pins σ Q) X.xe s
def PSat (X : Cx) (pins : List (Addr × Obj)) (σ : St) (st : Stmt) (t : TS) : Prop := ∀ (s : Shared) (H : Hp) (D : Ends), Inv X pins σ H s → t D σ H → wpAny (model X.prog X.w) X.A (exec st X.env) (SP X pins D) X.xe s
def PSsat (X : Cx) (pins : List (Addr × Obj)) (σ : St) (st : List Stmt) (t : TS) : Prop := ∀ (s : Shared) (H : Hp) (D : Ends), Inv X pins σ H s → t D σ H → wpAny (model X.prog X.w) X.A (execs st X.env) (SP X pins D) X.xe s
def PassesAt (CX : CXT) (X : Cx) (pins : List (Addr × Obj)) (σ : St) (E : XK) : Prop := ∀ (H : Hp) (s : Shared) (e : Value) (s' : Shared), Inv X pins σ H s → CX X.stack H s E e s' → X.xe e s'
section
variable {X : Cx} {pins : List (Addr × Obj)} {σ : St} {CX : CXT} {k : Nat} {f C : Addr} {fd : FuncData} {ps : List Str} {sp : Sp} {dvs : List V} {ds : List Value} {E : XK} {x m : Str} {p pos apos : Pos} {e o : Expr} {es : List Expr} {ta te : TE} {t : TA}
theorem run_fn_at {H : Hp} {s : Shared} {Q : VK} {us : List Value} {vs : List V} (F : FnOk X.prog X.w X.K X.mg X.base CX k f fd ps sp) (hr : Room k X.A) (hb : Binds X.K fd ps ds) (hd : Vals dvs ds) (hx : PassesAt CX X pins σ E)
    (I : Inv X pins σ H s) (r : Vals vs us) (h : sp (vs ++ dvs) H Q E) : wpAny (model X.prog X.w) X.A (call (.ref f) us) (EP X pins σ Q) X.xe s := by
  have r2 : Vals (vs ++ dvs) (us ++ ds) := r.append hd
  have hl : (us ++ ds).length = ps.length := by rw [← r2.length]; exact F.len _ _ _ _ h
  refine wpAny_call (codeAny_mono (F.run X.A X.stack s H ⟨us, []⟩ (us ++ ds) (vs ++ dvs) Q E hr I.env0 (hb s us I.kIn hl) r2 h) fun r s' hq => ?_)
  cases r with
  | error e => exact hx H s e s' I hq
  | ok fl =>
    cases fl with
    | ret u => exact I.after hq
    | next => exact False.elim hq
    | brk => exact False.elim hq
    | cont => exact False.elim hq
theorem pe_call_at (F : FnOk X.prog X.w X.K X.mg X.base CX k f fd ps sp) (hr : Room k X.A) (hg : Gl X x) (hm : X.mg x = some (.ref f)) (hk : PySem.W.keepIn X.K (.ref f) = true) (hb : Binds X.K fd ps ds) (hd : Vals dvs ds) (hx : PassesAt CX X pins σ E)
    (ha : PA X (e :: es) t) (hdb : (x == ("__debug__" : Str)) = false := by decide) (he : starEach (e :: es) X.env = (false, eval e X.env) :: starEach es X.env := by rfl) (hpl : (backTo pos (starEach es X.env)).any (·.1) = false := by rfl) :
    PEat X pins σ (.Call (.Name x p) (e :: es) [] pos) (tCall sp dvs E t) := by
  intro s H Q I h
  refine wpAny_Call_Name_kw (ld_glob I hg hm ?_ hdb)
  refine PySem.W.callWith_K (h₀ := X.base) I.ok.mod.kin hk (thn (ha pos pins s σ H _ I h) fun us s1 ⟨vs, H1, I1, r, q⟩ => ⟨I1.kIn, ?_⟩) he hpl
  exact run_fn_at F hr hb hd hx I1 r q
theorem ps_set_at {i : Nat} {pos' : Pos} (hN : X.N.Nodup) (hi : X.N[i]? = some x) (hx : Loc X.env.scope x) (he : PEat X pins σ e te) (hs : swapsWith e (some (.Name x pos')) pos.line X.env = pure false := by rfl) (hf : X.fn x = true ∨ X.env.scope.names.lookup x = some .local := by first | exact .inl rfl | exact .inr rfl | assumption) :
    PSat X pins σ (.Assign [.Name x pos'] e pos) (tAsg te (gName i)) := by
  intro s H D I h
  refine wpAny_Assign_Name (thn (he s H _ I h) fun v s1 ⟨y, H1, I1, r1, q1⟩ => ?_) hs
  exact store_ok I1 hN hi hx r1 (fun s2 I2 => ⟨_, H1, I2, q1⟩) hf
theorem pss_one_at {st : Stmt} {ts : TS} (h : PSat X pins σ st ts) : PSsat X pins σ [st] ts := by
  intro s H D I h1
  refine wpAny_execs_cons (thn (h s H D I h1) fun f s1 q => ?_)
  cases f with
  | next => exact wpAny_execs_nil q
  | ret v => exact q
  | brk => exact q
  | cont => exact q
end
/-! ### a name unbound -/
section
variable {X : Cx} {σ : St} {H : Hp} {s : Shared} {pins : List (Addr × Obj)}
theorem unbind_ok {M : Model} {A : Around} {E : Value → Shared → Prop} {i : Nat} {x : Str} {v : V} {Q : Unit → Shared → Prop} (I : Inv X pins σ H s) (hN : X.N.Nodup) (hi : X.N[i]? = some x) (hk : X.env.scope.names.lookup x = some .local) (hv : σ[i]? = some (some v))
    (h : ∀ s', Inv X pins (σ.set i none) H s' → Q () s') : wpAny M A (unbindName X.env x) Q E s := by
  obtain ⟨m, hn, hl⟩ := id I.loc
  have hcls : (X.env.scope.kind == .class || (X.env.scope.kind == .module && X.env.locals != X.env.globals)) = false := by rw [I.ok.kind]; rfl
  have hiσ : i < σ.length := by rw [I.len]; exact (List.getElem?_eq_some_iff.mp hi).1
  have cne := I.cne
  obtain ⟨u, r, lk⟩ := hl i x v hi hv (.inl hk)
  have hm : m x = some u := by
    rcases lk with ⟨_, z⟩ | ⟨z, _⟩
    · exact z
    · have z : X.env.scope.names.lookup x = some .cell ∨ X.env.scope.names.lookup x = some .free := z
      rw [hk] at z
      rcases z with z | z <;> cases z
  refine wpAny_unbindName_local hk hn hm hcls fun h' u' hn' hs => ?_
  obtain ⟨oL, _, _, hoL, _⟩ := id hn
  refine h _ ⟨I.ok, I.os, I.bare, ⟨fun b o e n hb hx => ?_, fun b o e n hb hx => ?_, I.base.free, fun b o e hx => ?_, I.base.tups, I.base.frzs, I.base.tbls⟩, ⟨_, hn', fun j y v' e1 e2 e3 => ?_⟩, fun y c e => ?_, I.free, I.freeC, fun p hp => ?_, fun b ob e => ?_, by simpa using I.len⟩
  · exact (hs.2 b (Nat.ne_of_lt (Nat.lt_of_lt_of_le (Heap.lt_size e) I.ok.above))).trans (I.base.keep b o e n hb hx)
  · obtain ⟨sl, e1⟩ := I.base.slot b o e n hb hx
    exact ⟨sl, (hs.2 b (Nat.ne_of_lt (Nat.lt_of_lt_of_le (Heap.lt_size e) I.ok.above))).trans e1⟩
  · obtain ⟨o', e1⟩ := I.base.there b o e hx
    exact ⟨o', (hs.2 b (Nat.ne_of_lt (Nat.lt_of_lt_of_le (Heap.lt_size e) I.ok.above))).trans e1⟩
  · by_cases hj : j = i
    · subst hj
      rw [List.getElem?_set_self hiσ] at e2
      cases e2
    · rw [List.getElem?_set_ne (Ne.symm hj)] at e2
      obtain ⟨u', r', q⟩ := hl j y v' e1 e2 e3
      refine ⟨u', r', ?_⟩
      rcases q with ⟨k, e⟩ | ⟨k, c, e, z⟩
      · refine .inl ⟨k, ?_⟩
        have : y ≠ x := fun e => hj (nodup_ix hN e1 (e ▸ hi))
        simp [this, e]
      · exact .inr ⟨k, c, e, z.sameBut hs (cne y c e)⟩
  · obtain ⟨w', z⟩ := I.cell y c e
    exact ⟨w', z.sameBut hs (cne y c e)⟩
  · obtain ⟨e, n, ne, nf, d⟩ := I.pin p hp
    exact ⟨(hs.2 p.1 ne).trans e, n, ne, nf, d⟩
  · refine (I.hok b ob e).stay (fun c w' hc q => (hs.2 c ?_).trans q) (fun _ q => q) fun _ _ q => q
    rintro rfl
    rcases hc with rfl | hc
    · rw [I.free] at e; cases e
    · rw [I.free] at hc; cases hc
/-- something that lies untracked is tracked from here on -/
theorem Inv.trackX {a : Addr} {o : HO} (I : Inv X pins σ H s) (hn : H a = none) (h0 : X.s₀.heap.get? a = none) (hL : a ≠ X.env.locals) (hc : ∀ x c, X.env.cells.lookup x = some c → c ≠ a) (hp : ∀ p ∈ X.pn ++ pins, p.1 ≠ a) (new : ObjOk X.prog X.w (upd H a o) s.heap a o) :
    Inv X pins σ (upd H a o) s := by
  have hok : HOk X.prog X.w (upd H a o) s.heap := fun b u e => by
    by_cases hb : b = a
    · subst hb
      rw [upd_same] at e
      cases e
      exact new
    · rw [upd_ne hb] at e
      exact (I.hok b u e).stay (fun c v _ q => q) (fun c q => by rw [upd_ne (ne_of_none q hn)]; exact q) fun c xs q => by rw [upd_ne (ne_of_none q hn)]; exact q
  refine ⟨I.ok, I.os, I.bare, ⟨I.base.keep, I.base.slot, fun b u e n hx => ?_, I.base.there, fun b xs e => ?_, fun b u xs e => ?_, fun b ps e => ?_⟩, I.loc, I.cell, ?_, fun x c e => ?_, fun p hpp => ?_, hok, I.len⟩
  · rw [upd_ne (fun z => by rw [z, h0] at e; cases e)]
    exact I.base.free b u e n hx
  · have := I.base.tups b xs e
    rw [upd_ne (ne_of_none this hn)]; exact this
  · have := I.base.frzs b u xs e
    rw [upd_ne (ne_of_none this hn)]; exact this
  · obtain ⟨m1, this⟩ := I.base.tbls b ps e
    exact ⟨m1, by rw [upd_ne (ne_of_none this hn)]; exact this⟩
  · rw [upd_ne (Ne.symm hL)]; exact I.free
  · rw [upd_ne (hc x c e)]; exact I.freeC x c e
  · obtain ⟨e, n, ne, nf, d⟩ := I.pin p hpp
    exact ⟨e, by rw [upd_ne (hp p hpp)]; exact n, ne, nf, d⟩
end
/-! ### within an except suite -/
abbrev Cx.inExc (X : Cx) (e : Addr) : Cx := { X with A := X.A.mark (some (.ref e)), calm := false, xe := fun _ _ => False }
section
variable {X : Cx} {pins : List (Addr × Obj)} {σ : St} {H : Hp} {s : Shared} {e : Addr}
theorem Cx.Ok.inExc (ok : X.Ok) (e : Addr) : (X.inExc e).Ok :=
  ⟨ok.mod, ok.kind, ok.glob, ok.blt, ok.above, ok.inj, ok.has, ok.cab, fun z => (by cases z), ok.frames, ok.stk, ok.exf, ok.bs, ok.bsz, ok.noex, ok.exfs, ok.funs, ok.frf⟩
theorem Inv.inExc (I : Inv X pins σ H s) (e : Addr) : Inv (X.inExc e) pins σ H s := ⟨I.ok.inExc e, I.os, I.bare, I.base, I.loc, I.cell, I.free, I.freeC, I.pin, I.hok, I.len⟩
theorem Inv.outExc (I : Inv (X.inExc e) pins σ H s) (ok : X.Ok) : Inv X pins σ H s := ⟨ok, I.os, I.bare, I.base, I.loc, I.cell, I.free, I.freeC, I.pin, I.hok, I.len⟩
/-- except S, e of a class below S -/
theorem exc_matches {M : Model} {A : Around} {E : Value → Shared → Prop} {h : Heap} {g : Array GenState} {d : Drawn} {tk : Nat} {os : OsState} {K : PySem.W.Frag} {C S : Addr} {Q : Bool → Shared → Prop} (X : K.In h) (he : ∃ o, h.get? e = some o ∧ o.cls = .ref C) (hk : PySem.W.kitCls K (.ref C) (.ref S) = some true)
    (hs : PySem.W.mroIn K S (.type "BaseException") = some true) (q : Q true ⟨h, g, d, tk, os⟩) : wpAny M A (excMatches (.ref e) (.ref S)) Q E ⟨h, g, d, tk, os⟩ := by
  obtain ⟨l1, l2, l3⟩ := PySem.W.kit_cls (M := M) X hk
  unfold excMatches isInstance
  refine wpAny_bind (wpAny_bind (l1.at ?_))
  rw [tc_notTuple]
  refine wpAny_pure (wpAny_ite_false rfl (wpAny_bind (wpAny_pure ?_)))
  dsimp only
  simp only [List.forIn_cons, List.forIn_nil]; refine wpAny_bind (wpAny_bind (wpAny_bind ?_))
  unfold isExcClass
  refine wpAny_bind (l2.at (wpAny_ite_true rfl ((PySem.W.looks_mroIn X hs).at ?_)))
  refine wpAny_ite_false rfl (wpAny_pure (wpAny_pure ?_))
  refine wpAny_bind ((exc_type he M).at ?_)
  refine wpAny_bind (wpAny_bind (wpAny_bind (l3.at (wpAny_ite_true rfl (wpAny_pure (wpAny_pure ?_))))))
  exact wpAny_pure q
end
end L2

end
section
set_option maxHeartbeats 3999000
namespace L2
open PySem PySem.Spec PyProof.Rows
/-! ### try: .. except S as n: .. -/
def Ends.but (D : Ends) (i : Nat) : Ends := { nx := fun σ H => D.nx (σ.set i none) H, rt := D.rt, bk := fun σ H => D.bk (σ.set i none) H, ct := fun σ H => D.ct (σ.set i none) H }
def tTry (K : PySem.W.Frag) (S : Addr) (i : Nat) (tb : XK → TS) (th : TS) : TS := fun D σ H =>
  tb (fun cls _ H' => ∃ C, cls = .ref C ∧ PySem.W.kitCls K (.ref C) (.ref S) = some true ∧ ∀ e, H' e = none → th (D.but i) (σ.set i (some (.ref e))) (upd H' e (ExcO e C))) D σ H
section
variable {X : Cx} {x n : Str} {S : Addr} {i : Nat} {body suite : List Stmt} {b₀ : Stmt} {tb : XK → TS} {th : TS} {np hpos pos : Pos}
theorem ps_try (hex : X.ex = []) (hstk : X.stack = X.env :: X.outer) (hfr : X.env.frame = some X.env.locals) (hg : Gl X x) (hm : X.mg x = some (.ref S)) (hS : PySem.W.mroIn X.K S (.type "BaseException") = some true)
    (hN : X.N.Nodup) (hi : X.N[i]? = some n) (hk : X.env.scope.names.lookup n = some .local)
    (hb : ∀ (xe : Value → Shared → Prop) (pins : List (Addr × Obj)) (σ : St) (E : XK), PassesAt (CX1 X.prog X.w) (X.wish xe) pins σ E → PSsat (X.wish xe) pins σ body (tb E))
    (hh : ∀ e : Addr, PSs (X.inExc e) (b₀ :: suite) th) (hd : (x == ("__debug__" : Str)) = false := by decide) :
    PS X (.Try body [.ExceptHandler (some (.Name x np)) (some n) (b₀ :: suite) hpos] [] [] pos) (tTry X.K S i tb th) := by
  intro pins s σ H D I h
  refine wpAny_Try_except ?_
  refine wpAny_mono (hb (fun ev s1 => wpAny (model X.prog X.w) X.A (noteFrame ev X.env) (fun _ s₂ => wpAny (model X.prog X.w) X.A (setFlight ev none) (fun _ s₃ => wpAny (model X.prog X.w) X.A (handleBy ev X.env [ExceptHandler.ExceptHandler (some (Expr.Name x np)) (some n) (b₀ :: suite) hpos]) (SP X pins D) X.xe s₃) X.xe s₂) X.xe s1) pins σ _ ?_ s H D (I.wish _) h) (fun f s1 q => ?_) fun ev s1 z => z
  · -- an exception
    intro H1 s1 ev s2 I1 hq
    have I1 := I1.unwish
    obtain ⟨e, C, H', B, rfl, os, bare, L, C', hC, hcl, q⟩ := hq
    cases hC
    obtain ⟨t, fl⟩ := L.fly
    have frs_free : ∀ b ∈ frs X.stack, H1 b = none := I1.stkFree
    show wpAny _ _ (noteFrame _ _) _ _ _
    have fl0 : B.FlyingW (X.env :: X.outer) e (.ref C) t s2.heap := by rw [← hstk]; exact fl
    refine wpAny_looks_onW (base := B) (outer := X.outer) (by rw [← hstk]; exact I1.ok.frames) hfr fl0 fun h2 held u2 => ?_
    refine wpAny_landsW held fun h3 fl3 u3 => ?_
    -- the state behind it
    have st3 : ∀ (h4 : Heap), B.FlyingW (X.env :: X.outer) e (.ref C) t h4 → s2.heap.UpToSlots h4 → ∀ (tk : Nat), Inv X pins σ H' ⟨h4, s2.gens, s2.drawn, tk, s2.os⟩ := by
      intro h4 fl4 u4 tk
      refine I1.call' (s' := ⟨h4, s2.gens, s2.drawn, tk, s2.os⟩) (ch := []) os ?_ (L.hok.kept fl4.1) bare (fun b z => absurd z (by simp))
      have U := L.un frs_free
      refine ⟨fun b o z nn hb _ => fl4.1 _ _ (L.keep b o z nn hb), fun b o z nn hb _ => ?_, U.free, fun b o z _ => ?_, L.tups, L.frzs, L.tbls⟩
      · obtain ⟨sl, z1⟩ := L.slot b o z nn hb
        obtain ⟨_, ob, zo, nd⟩ := I1.stack.mem hb
        rw [z] at zo
        cases zo
        obtain ⟨sl2, z2⟩ := u4 b _ z1 nd
        exact ⟨sl2, z2⟩
      · by_cases hb : b ∈ frs X.stack
        · obtain ⟨sl, z1⟩ := L.slot b o z (frs_free b hb) hb
          obtain ⟨_, ob, zo, nd⟩ := I1.stack.mem hb
          rw [z] at zo
          cases zo
          obtain ⟨sl2, z2⟩ := u4 b _ z1 nd
          exact ⟨_, z2⟩
        · obtain ⟨o', z1⟩ := L.there b o z hb
          exact ⟨o', fl4.1 _ _ z1⟩
    have I3 := st3 h3 fl3 (u2.trans u3) s2.toks
    refine wpAny_handleBy_cons (codeAny_handlers_test ?_) (by intro z; cases z)
    refine ld_glob (X := X.inExc e) (I3.inExc e) hg hm ?_ hd
    refine exc_matches I3.kIn fl3.there hcl hS ?_
    rw [if_pos rfl]
    refine codeAny_handlers_suite_as ?_; refine PyProof.Rows.lands_againW fl3 fun h4 fl4 u4 => ?_
    have I4 := st3 h4 fl4 ((u2.trans u3).trans u4) s2.toks
    have ne : H' e = none := L.fresh
    have e0 : X.s₀.heap.get? e = none := by
      cases z : X.s₀.heap.get? e with
      | none => rfl
      | some o =>
        obtain ⟨o', z'⟩ := I1.base.there e o z (by rw [hex]; simp)
        rw [L.new] at z'; cases z'
    have I5 : Inv X pins σ (upd H' e (ExcO e C)) ⟨h4, s2.gens, s2.drawn, s2.toks, s2.os⟩ := by
      refine I4.trackX ne e0 (fun z => ?_) (fun y c hc z => ?_) (fun p hp z => ?_) ?_
      · obtain ⟨m, ⟨o, _, _, ho, _⟩, _⟩ := I1.loc
        rw [← z, L.new] at ho
        cases ho
      · obtain ⟨v, o, ho, _⟩ := I1.cell y c hc
        rw [z, L.new] at ho
        cases ho
      · have := (I1.pin p hp).1
        rw [z, L.new] at this
        cases this
      · obtain ⟨ob, ho, hcls⟩ := fl4.there
        exact ⟨⟨ob, ho, hcls⟩, ⟨ob, ho⟩, fun h1 h2 ⟨o, z, c⟩ k => ⟨o, k o z, c⟩⟩
    refine store_ok (X := X.inExc e) (v := .ref e) (I5.inExc e) hN hi (.inl hk) rfl (fun s6 I6 => ?_) (.inr hk)
    refine wpAny_mono (hh e pins s6 _ _ (D.but i) I6 (q e ne)) (fun f s7 q7 => ?_) fun _ _ z => z.elim
    -- behind the suite: the name is unbound
    have fin : ∀ {σ' : St} {H7 : Hp} {R : Shared → Prop}, Inv (X.inExc e) pins σ' H7 s7 → (∀ s8, Inv X pins (σ'.set i none) H7 s8 → R s8) → wpAny (model X.prog X.w) X.A (do bindName X.env n Value.none; unbindBehindTheSuite X.env n hpos) (fun _ s8 => R s8) X.xe s7 := by
      intro σ' H7 R I7 hR
      have I7 := I7.outExc I.ok
      refine wpAny_bind (wpAny_bindName (store_ok (v := .non) I7 hN hi (.inl hk) rfl (fun s8 I8 => ?_) (.inr hk)))
      unfold unbindBehindTheSuite
      refine wpAny_onRaise ?_
      have hil : i < σ'.length := by rw [I7.len]; exact (List.getElem?_eq_some_iff.mp hi).1
      refine unbind_ok (v := .non) I8 hN hi hk (by rw [List.getElem?_set_self hil]) fun s9 I9 => hR s9 ?_
      rw [List.set_set] at I9
      exact I9
    cases f with
    | next =>
      obtain ⟨σ', H7, I7, q8⟩ := q7
      exact fin I7 fun s8 I8 => ⟨_, _, I8, q8⟩
    | brk =>
      obtain ⟨σ', H7, I7, q8⟩ := q7
      exact fin I7 fun s8 I8 => ⟨_, _, I8, q8⟩
    | cont =>
      obtain ⟨σ', H7, I7, q8⟩ := q7
      exact fin I7 fun s8 I8 => ⟨_, _, I8, q8⟩
    | ret v =>
      obtain ⟨u, σ', H7, I7, r, q8⟩ := q7
      exact fin I7 fun s8 I8 => ⟨u, _, _, I8, r, q8⟩
  · cases f with
    | next => exact wpAny_execs_nil (SP.unwish q)
    | ret v => exact SP.unwish q
    | brk => exact SP.unwish q
    | cont => exact SP.unwish q
end
end L2

end
section
set_option maxHeartbeats 3999000
namespace L2
open PySem PySem.Spec PyProof.Rows
/-! ### a def called within an except suite -/
structure RoomH (k : Nat) (A : Around) : Prop where
  dp : A.depth + 3 * k + 5 < recursionLimit
  un : A.units + 16 * k + 200 < cLine
theorem RoomH.of {k : Nat} {A : Around} {e : Addr} (r : Room k A) : RoomH k (A.mark (some (.ref e))) := ⟨r.dp, r.un⟩
theorem RoomH.deeper {k : Nat} {A : Around} (r : RoomH (k + 1) A) (env : Env) : RoomH k (A.deeper env) :=
  ⟨by have := r.dp; show A.depth + 1 + 3 * k + 5 < _; omega, by have := r.un; show A.units + 3 + 16 * k + 200 < _; omega⟩
structure FnOkH (P : Program) (w : World) (K : PySem.W.Frag) (mg : Str → Option Value) (base : Heap) (k : Nat) (f : Addr) (fd : FuncData) (ps : List Str) (sp : Sp) : Prop where
  len : ∀ vs H Q E, sp vs H Q E → vs.length = ps.length
  run : ∀ (A : Around) (outer : List Env) (s : Shared) (H : Hp) (args : Args) (us : List Value) (vs : List V) (Q : VK) (E : XK), RoomH k A → Env0 P w K mg base A outer s H → BindsTo s fd args (ps.zip us) → Vals vs us → sp vs H Q E →
    codeAny (model P w) A (.call (.ref f) args) (CR CX0 outer P w H s Q E) s
/-- a def's body there -/
abbrev cxH (P : Program) (w : World) (K : PySem.W.Frag) (mg : Str → Option Value) (base : Heap) (N : List Str) (qual : Str) (scope : Scope) (f : Addr) (cd : Value) (A : Around) (outer : List Env) (s : Shared) (H : Hp) (E : XK) : Cx :=
  { cxOf CX0 P w K mg base N qual scope f cd A outer s H E with calm := false, xe := fun _ _ => False }
section
variable {P : Program} {w : World} {K : PySem.W.Frag} {mg : Str → Option Value} {base : Heap}
theorem fn_ofH {k : Nat} {f : Addr} {name qual : Str} {params : Arguments} {body : List Stmt} {scope : Scope} {dV kV doc pm cdv ct oc : Value} {an od : Option Addr}
    {osl : Array (Option Value)} {N ps : List Str} {sp : Sp} (lk : K.lookup f = some ⟨oc, od, .func (PySem.W.fnOf name qual params body scope dV kV doc pm an cdv ct), osl⟩) (hcd : PySem.W.codeIn K cdv qual = true) (S : FnScope N ps scope)
    (len : ∀ vs H Q E, sp vs H Q E → vs.length = ps.length)
    (hbody : ∀ (A : Around) (outer : List Env) (s : Shared) (H : Hp) (vs : List V) (Q : VK) (E : XK), RoomH k (A.deeper (envOfC qual scope s.heap.objs.size f cdv)) → sp vs H Q E →
      ∃ t, PSs (cxH P w K mg base N qual scope f cdv A outer s H E) body t ∧ t { nx := fun _ H' => Q .non H', rt := Q } (start N vs) H) :
    FnOkH P w K mg base (k + 1) f (PySem.W.fnOf name qual params body scope dV kV doc pm an cdv ct) ps sp := by
  refine ⟨len, fun A outer s H args us vs Q E hr e0 hb r hsp => ?_⟩
  have hl := len _ _ _ _ hsp
  have KX : K.In s.heap := e0.mod.kin.keeps fun b o e => (e0.bs b o e).1
  have lim : s.heap.NoLimit := e0.mod.nolimit.keeps fun b o e => (e0.bs b o e).1
  have hkind : ∀ y ∈ ps.zip us, scope.names.lookup y.1 = some .local ∨ (scope.names.lookup y.1 = some .cell ∧ ((cellsFrom (s.heap.objs.size + 1) scope.names []).lookup y.1).isSome = true) := fun ⟨n, v⟩ hy => by
    rcases S.par n (List.of_mem_zip hy).1 with q | q
    · exact .inl q
    · exact .inr ⟨q, PySem.W.cellsFrom_some _ _ _ (.inl q)⟩
  refine codeAny_call_function (by have := hr.dp; omega) (KX _ _ lk) rfl S.co S.gen rfl (PySem.W.codeRec_of KX hcd) (hb _ _ _ _ ?_)
  refine wpAny_newFunctionEnv_cells S.kind hkind fun env he s1 x => ?_
  subst he
  refine ⟨lim.keeps x.toInCall.keep, codeAny_func ?_⟩
  obtain ⟨t, ht, hq⟩ := hbody A outer s H vs Q E (hr.deeper _) hsp
  have e1 : Env0 P w K mg base { A with handled := none } outer s H := ⟨e0.frames, e0.mod, e0.bs, e0.bsz, e0.funs, e0.frf, e0.hok, e0.bare⟩
  have I0 : Inv (cxOf CX0 P w K mg base N qual scope f cdv { A with handled := none } outer s H E) [] (start N vs) H s1 := inv_start S rfl e1 hl r x
  have I : Inv (cxH P w K mg base N qual scope f cdv A outer s H E) [] (start N vs) H s1 :=
    ⟨⟨I0.ok.mod, I0.ok.kind, I0.ok.glob, I0.ok.blt, I0.ok.above, I0.ok.inj, I0.ok.has, I0.ok.cab, fun z => (by cases z), I0.ok.frames, I0.ok.stk, I0.ok.exf, I0.ok.bs, I0.ok.bsz, I0.ok.noex, I0.ok.exfs, I0.ok.funs, I0.ok.frf⟩, I0.os, I0.bare, I0.base, I0.loc, I0.cell, I0.free, I0.freeC, I0.pin, I0.hok, I0.len⟩
  refine wpAny_mono (ht [] s1 (start N vs) H _ I hq) (fun fl s' hs => ?_) fun e s' hs => hs.elim
  have fin : ∀ {σ' : St} {H' : Hp} {v : V} {u : Value}, Inv (cxH P w K mg base N qual scope f cdv A outer s H E) [] σ' H' s' → RelV v u → Q v H' → CE outer P w H s Q u s' :=
    fun {σ' H' v u} J rv q => ⟨v, H', J.os, J.bare, J.base, J.hok, rv, q⟩
  cases fl with
  | ret u =>
    obtain ⟨v, σ', H', J, rv, q⟩ := hs
    exact fin J rv q
  | next =>
    obtain ⟨σ', H', J, q⟩ := hs
    exact fin (v := V.non) (u := Value.none) J rfl q
  | brk =>
    obtain ⟨_, _, _, q⟩ := hs
    exact False.elim q
  | cont =>
    obtain ⟨_, _, _, q⟩ := hs
    exact False.elim q
theorem Fun.okH {x qual : Str} {st : Stmt} {f : Addr} {fd : FuncData} {N ps : List Str} {k : Nat} {sp : Sp} (F : Fun K x qual st f fd) (S : FnScope N ps (defScope st)) (len : ∀ vs H Q E, sp vs H Q E → vs.length = ps.length)
    (hbody : ∀ (cdv : Value) (A : Around) (outer : List Env) (s : Shared) (H : Hp) (vs : List V) (Q : VK) (E : XK), RoomH k (A.deeper (envOfC qual (defScope st) s.heap.objs.size f cdv)) → sp vs H Q E →
      ∃ t, PSs (cxH P w K mg base N qual (defScope st) f cdv A outer s H E) (defBody st) t ∧ t { nx := fun _ H' => Q .non H', rt := Q } (start N vs) H) : FnOkH P w K mg base (k + 1) f fd ps sp := by
  obtain ⟨oc, od, kV, doc, pm, an, cdv, ct, osl, rfl, lk, hcd⟩ := F.ex
  exact fn_ofH lk hcd S len fun A outer s H vs Q E hr hsp => hbody cdv A outer s H vs Q E hr hsp
end
section
variable {X : Cx} {k : Nat} {f : Addr} {fd : FuncData} {ps : List Str} {sp : Sp} {x : Str} {p pos : Pos} {e : Expr} {es : List Expr} {t : TA}
theorem pe_callH (F : FnOkH X.prog X.w X.K X.mg X.base k f fd ps sp) (hr : RoomH k X.A) (hg : Gl X x) (hm : X.mg x = some (.ref f)) (hk : PySem.W.keepIn X.K (.ref f) = true) (hb : Binds X.K fd ps [])
    (ha : PA X (e :: es) t) (hdb : (x == ("__debug__" : Str)) = false := by decide) (he : starEach (e :: es) X.env = (false, eval e X.env) :: starEach es X.env := by rfl) (hpl : (backTo pos (starEach es X.env)).any (·.1) = false := by rfl) :
    PE X (.Call (.Name x p) (e :: es) [] pos) (tCall sp [] E0 t) := by
  intro pins s σ H Q I h
  refine wpAny_Call_Name_kw (ld_glob I hg hm ?_ hdb)
  refine PySem.W.callWith_K (h₀ := X.base) I.ok.mod.kin hk (thn (ha pos pins s σ H _ I h) fun us s1 ⟨vs, H1, I1, r, q⟩ => ⟨I1.kIn, ?_⟩) he hpl
  have r2 : Vals (vs ++ []) (us ++ []) := r.append .nil
  have hl : (us ++ []).length = ps.length := by rw [← r2.length]; exact F.len _ _ _ _ q
  refine wpAny_call (codeAny_mono (F.run X.A X.stack s1 H1 ⟨us, []⟩ (us ++ []) (vs ++ []) Q E0 hr I1.env0 (hb s1 us I1.kIn hl) r2 q) fun r s' hq => ?_)
  cases r with
  | error e => exact hq.elim
  | ok fl =>
    cases fl with
    | ret u => exact I1.after hq
    | next => exact False.elim hq
    | brk => exact False.elim hq
    | cont => exact False.elim hq
end
end L2

end
section
set_option maxHeartbeats 3999000
namespace L2
open PySem PySem.Spec PyProof.Rows
/-! ### xs.count(b), xs.index(b) of truths -/
theorem vals_bools : ∀ {bs : List Bool} {us : List Value}, Vals (bs.map V.bl) us → us = bs.map Value.bool
  | [], _, r => by cases r; rfl
  | b :: bs, _, r => by
    cases r with
    | cons r1 r2 =>
      rw [vals_bools r2]
      cases r1
      rfl
theorem reads_bools {h : Heap} : ∀ (bs : List Bool), ∃ as, ReadsAll h (bs.map Value.bool) (bs.map PyData.bool) as
  | [] => ⟨_, .nil⟩
  | b :: bs => by
    obtain ⟨as, r⟩ := reads_bools (h := h) bs
    exact ⟨_, .cons (by constructor) r⟩
theorem shape_bools : ∀ (bs : List Bool), (bs.map PyData.bool).all Spec.Shape.bool.has = true
  | [] => rfl
  | _ :: bs => by
    rw [List.map_cons, List.all_cons, shape_bools bs]
    rfl
theorem eq_bools {bs : List Bool} (k : Bool) (y : Value) (hy : y ∈ bs.map Value.bool) (A : Around) (s : Shared) : SeqAt.EqAt A s y (.bool k) (isBoolOf k y) := by
  obtain ⟨as, r⟩ := reads_bools (h := s.heap) bs
  exact eq_isBoolOf k r (shape_bools bs) y hy A s
theorem countP_bools (k : Bool) : ∀ bs : List Bool, List.countP (isBoolOf k) (bs.map Value.bool) = bs.count k
  | [] => rfl
  | b :: bs => by
    rw [List.map_cons, List.countP_cons, List.count_cons, countP_bools k bs]
    rfl
section
variable {X : Cx}
def rCountB : V → List V → Hp → VK → Prop := fun x vs H Q => ∃ (l : Addr) (bs : List Bool) (k : Bool), x = .ref l ∧ vs = [.bl k] ∧ H l = some (.lst (bs.map V.bl)) ∧ Q (.int ((bs.count k : Nat) : Int)) H
theorem mt_countB : MtM X "list.count" rCountB := by
  intro pins s σ H x vs v us Q I rx rv h
  obtain ⟨l, bs, k, rfl, rfl, hH, q⟩ := h
  cases rx
  obtain ⟨u, rfl, ru⟩ := rv.one
  cases ru
  obtain ⟨z, its, n, r, hl, e⟩ := I.lstM hH
  have hi := vals_bools r
  subst hi
  refine call_meets F.slot_list_count ⟨_, e, rfl⟩ F.entry_list_count (F.args_list_count_2 _ _) (SeqAt.list_countAt l _ n _ _ (.bool k) (isBoolOf k)) ⟨e, fun y hy => eq_bools (bs := bs) k y (by simpa using hy) _ _, ?_⟩
  rw [List.toList_toArray, countP_bools]
  exact ⟨.int ((bs.count k : Nat) : Int), H, I.tok _, ⟨_, rfl⟩, q⟩
def rIndexB : V → List V → Hp → VK → Prop := fun x vs H Q => ∃ (l : Addr) (bs : List Bool) (k : Bool) (j : Nat), x = .ref l ∧ vs = [.bl k] ∧ H l = some (.lst (bs.map V.bl)) ∧ bs[j]? = some k ∧ (∀ m, m < j → bs[m]? = some (!k)) ∧ j < 1000 ∧ Q (.int (j : Int)) H
theorem mt_indexB : MtM X "list.index" rIndexB := by
  intro pins s σ H x vs v us Q I rx rv h
  obtain ⟨l, bs, k, j, rfl, rfl, hH, hj, hm, h1000, q⟩ := h
  cases rx
  obtain ⟨u, rfl, ru⟩ := rv.one
  cases ru
  obtain ⟨z, its, n, r, hl, e⟩ := I.lstM hH
  have hi := vals_bools r
  subst hi
  obtain ⟨hjl, hje⟩ := List.getElem?_eq_some_iff.mp hj
  refine call_meets F.slot_list_index ⟨_, e, rfl⟩ F.entry_list_index (F.args_list_index_2 _ _) (SeqAt.list_indexAt l _ n _ _ (.bool k) (isBoolOf k) j (by simpa using hjl) (by omega) ?_ ?_) ⟨e, fun y hy => eq_bools (bs := bs) k y (by simpa using hy) _ _, ?_⟩
  · simp [isBoolOf, hje]
  · intro m h1 h2
    have := hm m h2
    obtain ⟨_, hme⟩ := List.getElem?_eq_some_iff.mp this
    simp [isBoolOf, hme]
  · exact ⟨.int (j : Int), H, I.tok _, ⟨_, rfl⟩, q⟩
end
/-! ### for .. in range(i, j, -1) -/
def ItrD (hi : Int) (n : Nat) : It := ⟨fun i _ => i < n, fun i H x H' => H' = H ∧ x = .int (hi - i), fun i _ => n ≤ i⟩
section
variable {X : Cx} {tg : Expr}
def iRngD (ta : TA) : TI := fun σ H R => ta σ H fun vs H1 => ∃ i j : Int, vs = [.int i, .int j, .int (-1)] ∧ (-1000000 ≤ i ∧ i < 1000000 ∧ -1000000 ≤ j ∧ j < 1000000) ∧ R (ItrD i (i - j).toNat) H1
end
/-! ### a display of written texts -/
def strsOf : List Expr → Option (List Str)
  | [] => some []
  | .Constant (.str i) _ _ :: r => (strsOf r).map (i :: ·)
  | _ => none
def tStrs (ns : List Str) : TA := fun _ H Q => Q (ns.map V.str) H
theorem pa_strs {X : Cx} : ∀ (es : List Expr) (ns : List Str), strsOf es = some ns → PA X es (tStrs ns) := by
  intro es
  induction es with
  | nil =>
    intro ns h
    have e : ns = [] := (Option.some.inj h).symm
    subst e
    exact pa_nil
  | cons e r ih =>
    intro ns h
    unfold strsOf at h
    split at h
    · rename_i heq
      cases heq
    · rename_i i j p r' heq
      injection heq with e1 e2
      subst e1 e2
      cases hr : strsOf r with
      | none => rw [hr] at h; cases h
      | some ms =>
        rw [hr] at h
        have e : i :: ms = ns := Option.some.inj h
        subst e
        exact pa_cons pe_str (ih ms hr)
    · cases h
/-- name = [written texts]: with @ -/
theorem pss_strs {X : Cx} {i : Nat} {x : Str} {pos' pos2 spos : Pos} {rest : List Stmt} {u : TS} {es : List Expr} {ns : List Str} (h : strsOf es = some ns) (hN : X.N.Nodup) (hi : X.N[i]? = some x) (hx : Loc X.env.scope x)
    (hf : X.fn x = true ∨ X.env.scope.names.lookup x = some .local) (hr : PSs X rest u) : PSs X (.Assign [.Name x pos'] (.List es pos2) spos :: rest) (tSeq (tAsg (tLst (tStrs ns)) (gName i)) u) := by
  have h1 : PE X (.List es pos2) (tLst (tStrs ns)) := @pe_lst X es (tStrs ns) pos2 (@pa_strs X es ns h)
  have h2 : PS X (.Assign [.Name x pos'] (.List es pos2) spos) (tAsg (tLst (tStrs ns)) (gName i)) := ps_set hN hi hx h1 (by rfl) hf
  exact pss_cons h2 hr
end L2

end
section
set_option maxHeartbeats 3999000
namespace L2
open PySem PySem.Spec PyProof.Rows
/-! ### try: .. except S as n: .. -/
def tTryN (K : PySem.W.Frag) (S : Addr) (tb : XK → TS) (th : TS) : TS := fun D σ H => tb (fun cls _ H' => ∃ C, cls = .ref C ∧ PySem.W.kitCls K (.ref C) (.ref S) = some true ∧ th D σ H') D σ H
section
variable {X : Cx} {x : Str} {S : Addr} {body suite : List Stmt} {b₀ : Stmt} {tb : XK → TS} {th : TS} {np hpos pos : Pos}
end
end L2

end
section
set_option maxHeartbeats 3999000
namespace L2
open PySem PySem.Spec PyProof.Rows

/-! ### lists of pairs as tables -/
section
variable {κ : Type} [DecidableEq κ]
def valV (kvs : List (κ × V)) (k : κ) : Option V := (kvs.find? fun kv => decide (kv.1 = k)).map (·.2)
/-- in its place, or at the end -/
def putK (kvs : List (κ × V)) (k : κ) (v : V) : List (κ × V) :=
  if (kvs.any fun kv => decide (kv.1 = k)) = true then kvs.map (fun kv => if kv.1 = k then (kv.1, v) else kv) else kvs ++ [(k, v)]
def dropK (kvs : List (κ × V)) (k : κ) : List (κ × V) := kvs.filter fun kv => decide (kv.1 ≠ k)

end


/-! ### a tracked dict, its keys ints and texts or tuples of these -/
/-- raw entries of a dict with tuple keys -/
abbrev KT (H : Hp) : List (List Key × V) → List (List Key × Addr × Value) → Prop := Paired fun p q => p.1 = q.1 ∧ H q.2.1 = some (.tup (p.1.map kV)) ∧ RelV p.2 q.2.2
section
variable {P : Program} {w : World} {H : Hp} {h : Heap} {a : Addr}
end

/-- what the dict at a holds at the key y -/
def DGet (H : Hp) (a : Addr) (y : V) (r : Option V) : Prop :=
  (∃ kvs k, Rd H a (.dK kvs) ∧ y = kV k ∧ r = valV kvs k) ∨ ∃ kvs k b, Rd H a (.dT kvs) ∧ y = .ref b ∧ H b = some (.tup (k.map kV)) ∧ r = valV kvs k
/-- the heap behind a[y] = v -/
def DPut (H : Hp) (a : Addr) (y v : V) (H' : Hp) : Prop :=
  (∃ kvs k, H a = some (.dK kvs) ∧ y = kV k ∧ kvs.length < sizeLine ∧ H' = upd H a (.dK (putK kvs k v))) ∨
  ∃ kvs k b, H a = some (.dT kvs) ∧ y = .ref b ∧ H b = some (.tup (k.map kV)) ∧ kvs.length < sizeLine ∧ H' = upd H a (.dT (putK kvs k v))
section
variable {X : Cx} {pins : List (Addr × Obj)} {σ : St} {H : Hp} {s : Shared} {a : Addr} {y v : V} {u r : Value} {o : Option V} {A : Around} {E : Value → Shared → Prop}

end

section
variable {X : Cx} {pins : List (Addr × Obj)} {σ : St} {H : Hp} {s : Shared} {a : Addr} {kvs : List (Key × V)} {k : Key} {u : Value} {A : Around} {E : Value → Shared → Prop}
end


/-! ### readings and rules -/
/-- the element of a subscription, not a slice -/
def NoSl (i : Expr) : Prop := ∀ ov iv, subscripted i false ov iv = operate [ov, iv] (getItem ov iv)
/-- d[y] -/
def tDGet (td ty : TE) : TE := fun σ H Q => td σ H fun x H1 => ty σ H1 fun y H2 => ∃ a v, x = .ref a ∧ DGet H2 a y (some v) ∧ Q v H2
/-- y in d, y not in d -/
def tDIn (ty td : TE) : TE := fun σ H Q => ty σ H fun y H1 => td σ H1 fun x H2 => ∃ a o, x = .ref a ∧ DGet H2 a y o ∧ Q (.bl o.isSome) H2
def tDNotIn (ty td : TE) : TE := fun σ H Q => ty σ H fun y H1 => td σ H1 fun x H2 => ∃ a o, x = .ref a ∧ DGet H2 a y o ∧ Q (.bl (!o.isSome)) H2
/-- d[y] = v -/
def sDPut (td ty tv : TE) : TS := fun D σ H => tv σ H fun v H1 => td σ H1 fun x H2 => ty σ H2 fun y H3 => ∃ a H4, x = .ref a ∧ DPut H3 a y v H4 ∧ D.nx σ H4
/-- d[y] op= v -/
def sDAug (td ty tv : TE) (rd : V → V → Hp → VK → Prop) : TS := fun D σ H => td σ H fun x H1 => ty σ H1 fun y H2 => ∃ a v, x = .ref a ∧ DGet H2 a y (some v) ∧
  tv σ H2 fun y2 H3 => rd v y2 H3 fun z H4 => ∃ H5, DPut H4 a y z H5 ∧ D.nx σ H5
/-- del d[y] -/
def sDDel (td ty : TE) : TS := fun D σ H => td σ H fun x H1 => ty σ H1 fun y H2 => ∃ a kvs k, x = .ref a ∧ H2 a = some (.dK kvs) ∧ y = kV k ∧ (valV kvs k).isSome = true ∧ D.nx σ (upd H2 a (.dK (dropK kvs k)))

section
variable {X : Cx} {o i e value : Expr} {pos pos' tpos : Pos} {td ty tv : TE}
end


/-! ### displays -/
/-- {}, to be a dict of the kind that is wanted -/
def tDNewK : TE := fun _ H Q => ∀ p, H p = none → Q (.ref p) (upd H p (.dK []))
def tDNewT : TE := fun _ H Q => ∀ p, H p = none → Q (.ref p) (upd H p (.dT []))
section
variable {X : Cx} {pos : Pos}
end

/-- the pairs of a display, from the left -/
def tPairs : List (TE × TE) → St → Hp → (List (V × V) → Hp → Prop) → Prop
  | [], _, H, Q => Q [] H
  | (tk, tv) :: r, σ, H, Q => tk σ H fun x H1 => tv σ H1 fun y H2 => tPairs r σ H2 fun ps H3 => Q ((x, y) :: ps) H3
abbrev VV : List (V × V) → List (Value × Value) → Prop := Paired fun p q => RelV p.1 q.1 ∧ RelV p.2 q.2
def PPs (X : Cx) (pos : Pos) (keys : List (Option Expr)) (values : List Expr) (trs : List (TE × TE)) : Prop :=
  ∀ (pins : List (Addr × Obj)) (s : Shared) (σ : St) (H : Hp) (Q : List (V × V) → Hp → Prop), Inv X pins σ H s → tPairs trs σ H Q →
    wpAny (model X.prog X.w) X.A (evalPairs (pairTrees keys values X.env pos)) (fun vs s' => ∃ ps H', Inv X pins σ H' s' ∧ VV ps vs ∧ Q ps H') X.xe s
def mergeK (kvs more : List (Key × V)) : List (Key × V) := more.foldl (fun acc kv => putK acc kv.1 kv.2) kvs
/-- {k: v, ..} with keys ints and texts; the new dict stands empty while the pairs are made -/
def tDisp (trs : List (TE × TE)) : TE := fun σ H Q => ∀ p, H p = none → tPairs trs σ (upd H p (.dK [])) fun ps H2 => H2 p = some (.dK []) ∧ ∃ kvs : List (Key × V), ps = kvs.map (fun kv => (kV kv.1, kv.2)) ∧ kvs.length ≤ 15 ∧ Q (.ref p) (upd H2 p (.dK (mergeK [] kvs)))
/-! ### methods -/
/-- a method call o.m(e) of a built-in, with one argument: what must be seen of the text -/
structure M1 (X : Cx) (o : Expr) (m : Str) (apos : Pos) (e : Expr) (cpos : Pos) : Prop where
  base : attributeBase o m X.env (eval o X.env) = eval o X.env
  few : ((backTo cpos (starEach [e] X.env)).all (fun x => !x.1) && (backToKw cpos (keywordEach [] X.env)).all (fun x => x.1.isSome)
    && decide (([e] : List Expr).length + ([] : List Keyword).length + (if ([] : List Keyword).isEmpty then 0 else 1) < 30)) = true
  line : (apos.endLine == cpos.line) = true
  trees : backTo cpos (starEach [e] X.env) = [(false, eval e X.env)]
structure M2 (X : Cx) (o : Expr) (m : Str) (apos : Pos) (e f : Expr) (cpos : Pos) : Prop where
  base : attributeBase o m X.env (eval o X.env) = eval o X.env
  few : ((backTo cpos (starEach [e, f] X.env)).all (fun x => !x.1) && (backToKw cpos (keywordEach [] X.env)).all (fun x => x.1.isSome)
    && decide (([e, f] : List Expr).length + ([] : List Keyword).length + (if ([] : List Keyword).isEmpty then 0 else 1) < 30)) = true
  line : (apos.endLine == cpos.line) = true
  trees : backTo cpos (starEach [e, f] X.env) = [(false, eval e X.env), (false, eval f X.env)]

/-- a is a dict, whatever its keys -/
def IsD (H : Hp) (a : Addr) : Prop := (∃ kvs, Rd H a (.dK kvs)) ∨ ∃ kvs, Rd H a (.dT kvs)
section
variable {X : Cx} {pins : List (Addr × Obj)} {σ : St} {H : Hp} {s : Shared} {a : Addr} {y d : V} {u r : Value} {o : Option V} {A : Around} {E : Value → Shared → Prop}
end

def tDGet1 (td ty : TE) : TE := fun σ H Q => td σ H fun x H1 => ∃ a, x = .ref a ∧ IsD H1 a ∧ ty σ H1 fun y H2 => ∃ o, DGet H2 a y o ∧ Q (o.getD .non) H2
def tDGet2 (td ty tx : TE) : TE := fun σ H Q => td σ H fun x H1 => ∃ a, x = .ref a ∧ IsD H1 a ∧ ty σ H1 fun y H2 => tx σ H2 fun z H3 => ∃ o, DGet H3 a y o ∧ Q (o.getD z) H3
/-- d.pop(k): there; d.pop(k, x): there or not -/
def tDPop1 (td ty : TE) : TE := fun σ H Q => td σ H fun x H1 => ∃ a, x = .ref a ∧ IsD H1 a ∧ ty σ H1 fun y H2 => ∃ kvs k v, H2 a = some (.dK kvs) ∧ y = kV k ∧ valV kvs k = some v ∧ Q v (upd H2 a (.dK (dropK kvs k)))
def tDPop2 (td ty tx : TE) : TE := fun σ H Q => td σ H fun x H1 => ∃ a, x = .ref a ∧ IsD H1 a ∧ ty σ H1 fun y H2 => tx σ H2 fun z H3 => ∃ kvs k, H3 a = some (.dK kvs) ∧ y = kV k ∧
  (∀ v, valV kvs k = some v → Q v (upd H3 a (.dK (dropK kvs k)))) ∧ (valV kvs k = none → Q z H3)
section
variable {X : Cx} {o e f : Expr} {apos cpos : Pos} {td ty tx : TE}
end
end L2

end
section
set_option maxHeartbeats 3998000
/-! ### sum of a list of ints; sorted(d.values(), reverse=True) -/
namespace L2
open PySem PySem.Spec PyProof.Rows
end L2
namespace PySem
open PyProof.Rows
section
variable {prog : Program} {w : World} {A : Around} {E : Value → Shared → Prop} {s : Shared}
end
end PySem
namespace L2
open PySem PySem.Spec PyProof.Rows
/-- sorted(d.values(), reverse=True): a list of the values in some order -/
def tSortV (td : TE) : TE := fun σ H Q => td σ H fun x H1 => ∃ (a : Addr) (kvs : List (Key × V)) (ns : List Int), x = .ref a ∧ H1 a = some (.dK kvs) ∧ kvs.map (·.2) = ns.map V.int ∧ ns.length < 64 ∧
  ∀ (l : Addr) (ns' : List Int), H1 l = none → ns'.Perm ns → Q (.ref l) (upd H1 l (.lst (ns'.map V.int)))
end L2

end
section
set_option maxHeartbeats 3997000
namespace L2
open PySem PySem.Spec PyProof.Rows
end L2
namespace My
open PySem L2 PyProof.Rows
section
variable {K : PySem.W.Frag}
/-- the heard entries -/
def nh (rw : List (Option Int)) : Nat := (rw.filter Option.isSome).length
structure RowAt (K : PySem.W.Frag) (H : Hp) (r : Addr) (n : Nat) (rw : List (Option Int)) : Prop where
  at' : SqL K H r (rw.map enc)
  len : rw.length = n
/-- a list of triples -/
def TrAt (H : Hp) (a : Addr) (ts : List (Int × Int × Int)) : Prop := ∃ bs : List Addr, H a = some (.lst (bs.map V.ref)) ∧ bs.length = ts.length ∧ ∀ (i : Nat) (b : Addr) (q : Int × Int × Int), bs[i]? = some b → ts[i]? = some q → H b = some (.tup [.int q.1, .int q.2.1, .int q.2.2])
def sp_heard_points (K : PySem.W.Frag) : Sp := fun vs H Q _ => ∃ (c tt r : Addr) (p k : Int) (pl : List Int) (rw : List (Option Int)), vs = [.ref c, .ref r] ∧ CodeAt H c tt p k pl ∧ RowAt K H r pl.length rw ∧ pl.length ≤ 1000 ∧
  ∀ (l : Addr) (ys : List V) (H' : Hp), H l = none → Same H H' → ys.length ≤ nh rw → H' l = some (.lst ys) → Q (.ref l) H'
def sp_heard_at (K : PySem.W.Frag) : Sp := fun vs H Q _ => ∃ (r a : Addr) (n : Nat) (rw : List (Option Int)) (ms : List Int), vs = [.ref r, .ref a] ∧ RowAt K H r n rw ∧ SqL K H a (ms.map V.int) ∧ n ≤ 1000 ∧
  ∀ (l : Addr) (rw' : List (Option Int)) (H' : Hp), H l = none → Same H H' → RowAt K H' l n rw' → Q (.ref l) H'
def sp_weighted_points (K : PySem.W.Frag) : Sp := fun vs H Q _ => ∃ (c tt g : Addr) (p k : Int) (pl : List Int) (ts : List (Int × Int × Int)), vs = [.ref c, .ref g] ∧ CodeAt H c tt p k pl ∧ TrAt H g ts ∧ ts.length ≤ 60 ∧
  ∀ (l : Addr) (ts' : List (Int × Int × Int)) (H' : Hp), H l = none → Same H H' → ts'.length ≤ ts.length → TrAt H' l ts' → Q (.ref l) H'
def sp_most_weight (K : PySem.W.Frag) : Sp := fun vs H Q _ => ∃ (a : Addr) (m : Int) (ts : List (Int × Int × Int)), vs = [.ref a, .int m] ∧ TrAt H a ts ∧ ts.length ≤ 60 ∧ ∀ (v : Int) (H' : Hp), 0 ≤ v → Same H H' → Q (.int v) H'
/-- a dict of numbers that are not below 0 -/
def NnD (kvs : List (Key × V)) (n : Nat) : Prop := ∃ ns : List Int, kvs.map (·.2) = ns.map V.int ∧ (∀ m ∈ ns, 0 ≤ m) ∧ ns.length ≤ n
end
end My

end
section
set_option maxHeartbeats 3996000
namespace L2
open PySem PySem.Spec PyProof.Rows PySem.Builtin.Str
/-! ### texts -/
/-- the text of a number -/
def sN (i : Int) : Str := Str.ofString (toString i)
theorem log_small {i : Int} (h0 : 0 ≤ i) (h1 : i < 1000000) : i.natAbs.log2 < 1920 := by
  have hn : i.natAbs < 2 ^ 20 := by omega
  by_cases hz : i.natAbs = 0
  · rw [hz]; decide
  · exact (Nat.log2_lt hz).mpr (Nat.lt_of_lt_of_le hn (Nat.pow_le_pow_right (by decide) (by decide)))
theorem call_strI {X : Cx} : CallR X (.type "str") (fun xs H Q => ∃ i : Int, xs = [.int i] ∧ 0 ≤ i ∧ i < 1000000 ∧ Q (.str (sN i)) H) := by
  intro pins s σ H xs us Q I r h
  obtain ⟨i, rfl, h0, h1, q⟩ := h
  obtain ⟨u, rfl, t, rfl⟩ := vals1 r
  exact PySem.P.str_of_int (log_small h0 h1) ⟨.str (sN i), H, I.tok _, ⟨_, rfl⟩, q⟩
theorem vals_strs : ∀ {ws : List Str} {us : List Value}, Vals (ws.map V.str) us → ∃ l : List (Str × Tok), us = strValues l ∧ l.map (·.1) = ws
  | [], _, r => by cases r; exact ⟨[], rfl, rfl⟩
  | x :: ws, _, r => by
    cases r with
    | cons r1 r2 =>
      obtain ⟨l, e1, e2⟩ := vals_strs r2
      obtain ⟨t, rfl⟩ := r1
      exact ⟨(x, t) :: l, by rw [e1]; rfl, by rw [← e2]; rfl⟩
/-- sep.join(a list of texts) -/
def rJoin (K : PySem.W.Frag) : V → List V → Hp → VK → Prop := fun x vs H Q => ∃ (sep : Str) (l : Addr) (ws : List Str), x = .str sep ∧ vs = [.ref l] ∧ SqL K H l (ws.map V.str) ∧ (∀ y ∈ ws, y.length ≤ 1000) ∧ sep.length ≤ 1000 ∧ ws.length ≤ 1000 ∧ Q (.str (Str.join sep ws)) H
theorem mt_join {X : Cx} : MtR X "str.join" (rJoin X.K) := by
  intro pins s σ H x vs v us Q I rx rv h
  obtain ⟨sep, l, ws, rfl, rfl, hH, hB, hs, hw, q⟩ := h
  obtain ⟨t, rfl⟩ := rx
  obtain ⟨u, rfl, ru⟩ := rv.one
  cases ru
  obtain ⟨its, r, pl, hz⟩ := I.list hH
  obtain ⟨tl, rfl, rfl⟩ := vals_strs r
  have hl : s.heap.IsList l (strValues tl).toArray := pl.isList
  have b1 : (tl.map (·.1)).length * 1000 ≤ 1000000 := by omega
  have b2 : (tl.map (·.1)).length * sep.length ≤ 1000000 := by
    calc (tl.map (·.1)).length * sep.length ≤ 1000 * 1000 := Nat.mul_le_mul hw hs
    _ = 1000000 := by decide
  have hf : tooLong ((tl.map (·.1)).toArray.foldl (· + ·.length + sep.length) 0) = false := StrLaws.joinFits hB (by omega)
  refine call_meets F.slot_str_join (typeIs_str _ _ _) F.entry_str_join (F.args_str_join_2 _ _) (meets_str_join_list sep t l tl hf) ⟨hl, ?_⟩
  have hgl : (glued sep (tl.map (·.1))).length ≤ sizeLine := by
    rw [size_glued, sizeLine_eq]
    have := StrLaws.sumLen_le (tl.map (·.1)) hB
    have h3 : ((tl.map (·.1)).length - 1) * sep.length ≤ (tl.map (·.1)).length * sep.length := Nat.mul_le_mul_right _ (Nat.sub_le _ _)
    omega
  rw [← StrLaws.glued_eq_join] at q
  match tl, hgl, q with
  | [], hgl, q => exact ⟨hgl, .str _, H, I.tok _, ⟨_, rfl⟩, q⟩
  | [p], hgl, q => exact ⟨.str p.1, H, I, ⟨_, rfl⟩, q⟩
  | p :: p' :: r, hgl, q => exact ⟨hgl, .str _, H, I.tok _, ⟨_, rfl⟩, q⟩
/-! ### a text cut where it was joined -/
def jl (c : Nat) : List (List Nat) → List Nat
  | [] => []
  | [x] => x
  | x :: y :: r => x ++ c :: jl c (y :: r)
/-- x.split(y), where it is cut -/
def rSplit : V → List V → Hp → VK → Prop := fun x vs H Q => ∃ (z y : Str) (ws : List Str), x = .str z ∧ vs = [.str y] ∧ y.length = 1 ∧ z.length ≤ 10000 ∧ Txt.split z y = ws ∧ 2 ≤ ws.length ∧ ws.length ≤ 10000 ∧ ∀ l, H l = none → Q (.ref l) (upd H l (.lst (ws.map V.str)))
theorem vals_from : ∀ (ws : List Str) (n : Nat), Vals (ws.map V.str) (strsFrom n ws)
  | [], _ => .nil
  | w :: ws, n => .cons ⟨_, rfl⟩ (vals_from ws (n + 1))
/-! ### of what signs a text is -/
def rAscii : V → List V → Hp → VK → Prop := fun x vs H Q => ∃ z : Str, x = .str z ∧ vs = [] ∧ Q (.bl (z.cps.all (· < 128))) H
def rDigit : V → List V → Hp → VK → Prop := fun x vs H Q => ∃ z : Str, x = .str z ∧ vs = [] ∧ Q (.bl (z.length > 0 && z.cps.all Unicode.isDigit)) H
theorem mt_isascii {X : Cx} : MtR X "str.isascii" rAscii := by
  intro pins s σ H x vs v us Q I rx rv h
  obtain ⟨z, rfl, rfl, q⟩ := h
  obtain ⟨t, rfl⟩ := rx
  cases rv
  exact call_gives F.slot_str_isascii (typeIs_str _ _ _) F.entry_str_isascii (F.args_str_isascii_1 _) (gives_str_isascii z t) ⟨.bl _, H, I, rfl, q⟩
theorem mt_isdigit {X : Cx} : MtR X "str.isdigit" rDigit := by
  intro pins s σ H x vs v us Q I rx rv h
  obtain ⟨z, rfl, rfl, q⟩ := h
  obtain ⟨t, rfl⟩ := rx
  cases rv
  exact call_gives F.slot_str_isdigit (typeIs_str _ _ _) F.entry_str_isdigit (F.args_str_isdigit_1 _) (gives_str_isdigit z t) ⟨.bl _, H, I, rfl, q⟩
end L2

end
section
set_option maxHeartbeats 3996000
namespace L2
open PySem PySem.Spec PyProof.Rows PySem.Builtin.Str
/-! ### x, y, *rest = a list -/
theorem star_list {prog : Program} {w : World} {A : Around} {E : Value → Shared → Prop} {s : Shared} {l : Addr} {items : Array Value} {Q : List Value → Shared → Prop} (hl : s.heap.IsList l items) (hh : A.handled = none) (h2 : 2 ≤ items.size) (hz : items.size ≤ 10000)
    (h : ∀ (h' : Heap) (tk : Nat) (D : Addr), (∀ b o, s.heap.get? b = some o → h'.get? b = some o) → (∀ b o, s.heap.get? b = some o → b < D) → h'.get? D = some { cls := .type "list", data := .seq (items.toList.drop 2).toArray } → Q (items.toList.take 2 ++ [.ref D]) { s with heap := h', toks := tk }) :
    wpAny (model prog w) A (unpackItems (.ref l) 3 (some 2)) Q E s := by
  have hll : l < s.heap.objs.size := (by obtain ⟨o, ho, _⟩ := hl; exact Heap.lt_size ho); have hne : l ≠ s.heap.objs.size := Nat.ne_of_lt hll
  have hsl := sizeLine_eq
  unfold unpackItems; refine wpAny_bind ?_; unfold notIterableAtAll
  refine wpAny_bind (wpAny_specialOf hl.typeIs slot_list_iter.lookup (wpAny_pure ?_)); simp only [Bool.false_eq_true, if_false]
  refine wpAny_bind (wpAny_holding (wpAny_pyIter_list hl ?_)); refine wpAny_bind (wpAny_holding (PySem.W.kun_draw hne 2 0 _ _ ⟨_, Heap.get?_push_size _ rfl, rfl, rfl⟩ (hl.push _) (by omega) fun h1 hit hs1 => ?_))
  have hl1 : h1.IsList l items := (hl.push _).extBut hs1.extBut hne
  rw [Nat.zero_add] at hit
  obtain ⟨oi, hoi, _⟩ := id hit
  obtain ⟨ol, hol, _⟩ := id hl1
  have hfl : (items.toList.take 2).length = 2 := by rw [List.length_take, Array.length_toList]; omega
  rw [List.drop_zero, if_neg (show ¬ ((items.toList.take 2).length < 2) by rw [hfl]; decide)]
  refine wpAny_bind (wpAny_holding (PySem.W.kun_collect (s := { s with heap := h1 }) (T := "list_iterator") (.inr (.inr (.inl rfl))) (Walks.list (A := A.in1) hh s.heap.objs.size l hne items) (fun j u st => st.1.typeIs) (k := 2) (by omega) ⟨hit, hl1⟩ (Heap.lt_size hoi) (Heap.lt_size hol) (fun h3 tk hk => ?_) (by omega)))
  show wpAny _ _ (if (items.toList.drop 2).length < 0 then _ else _) _ _ _
  rw [if_neg (Nat.not_lt_zero _)]
  show wpAny _ _ (newList ((items.toList.drop 2).take ((items.toList.drop 2).length - 0)) >>= fun d => pure (items.toList.take 2 ++ [d] ++ (items.toList.drop 2).drop ((items.toList.drop 2).length - 0))) _ _ _
  rw [Nat.sub_zero, List.take_length, List.drop_length]
  simp only [List.append_nil]
  have he : ∀ b o, s.heap.get? b = some o → h3.get? b = some o := fun b o e => hk b o (Nat.ne_of_lt (Heap.lt_size e)) (hs1.extBut b o (Nat.ne_of_lt (Heap.lt_size e)) (Heap.get?_push_of_some _ e))
  exact wpAny_bind (wpAny_newList (wpAny_pure (h _ tk _ (fun b o e => Heap.get?_push_of_some _ (he b o e)) (fun b o e => Heap.lt_size (he b o e)) (Heap.get?_push_size _ rfl))) (hsz := by rw [List.length_drop, Array.length_toList]; omega))
/-- a new thing above all that was there -/
theorem Inv.above {X : Cx} {pins : List (Addr × Obj)} {σ : St} {H : Hp} {s : Shared} {h' : Heap} {tk : Nat} {D : Addr} {o : HO} (I : Inv X pins σ H s) (k : ∀ b o, s.heap.get? b = some o → h'.get? b = some o) (hD : ∀ b o, s.heap.get? b = some o → b < D)
    (new : ObjOk X.prog X.w (upd H D o) h' D o) : H D = none ∧ Inv X pins σ (upd H D o) { s with heap := h', toks := tk } := by
  have hn : H D = none := by
    cases e : H D with
    | none => rfl
    | some u =>
      obtain ⟨ob, z⟩ := obj_at (I.hok D u e)
      exact absurd (hD D ob z) (Nat.lt_irrefl _)
  have hL : X.env.locals < D := by
    obtain ⟨m, ⟨o, es, ep, ho, _⟩, _⟩ := I.loc
    exact hD _ _ ho
  have I1 : Inv X pins σ H { s with heap := h', toks := tk } := I.kept k
  refine ⟨hn, I1.track hn (Nat.le_of_lt (Nat.lt_of_le_of_lt I.ok.above hL)) (Nat.ne_of_lt hL) (fun x c e z => ?_) (fun p hp z => ?_) new⟩
  · obtain ⟨v, oc, q, _⟩ := I.cell x c e
    exact absurd (hD c oc q) (by rw [z]; exact Nat.lt_irrefl _)
  · exact absurd (hD p.1 _ (I.pin p hp).1) (by rw [z]; exact Nat.lt_irrefl _)
def gStar (K : PySem.W.Frag) (t : TGs) : TG := fun v σ H Q => ∃ (a : Addr) (x y : V) (r : List V), v = .ref a ∧ SqL K H a (x :: y :: r) ∧ r.length ≤ 1000 ∧ ∀ l, H l = none → t [x, y, .ref l] σ (upd H l (.lst r)) Q
theorem pg_star {X : Cx} {es es' : List Expr} {k : Nat} {t : TGs} {pos : Pos} (hc : X.calm = true) (h : PGs X es' t) (he : (assignEach es X.env).map (·.2) = (assignEach es' X.env).map (·.2) := by rfl)
    (hn : (assignEach es X.env).length = 3 := by rfl) (hst : (assignEach es X.env).findIdx? (·.1) = some 2 := by rfl) : PG X (.Tuple es k pos) (gStar X.K t) := by
  intro pins s σ H v u Q I r hw
  obtain ⟨a, x, y, rs, e1, hq, hl, hw⟩ := hw
  subst e1
  cases r
  obtain ⟨its, rv, pl, hz⟩ := I.list hq
  rw [assign_Tuple]
  refine wpAny_bind (wpAny_standAt ?_)
  unfold unpack
  rw [hn, hst, he]
  have hlen := rv.length
  simp only [List.length_cons] at hlen
  refine wpAny_bind (wpAny_holding (star_list pl.isList (I.ok.hd hc) (by rw [List.size_toArray]; omega) (by rw [List.size_toArray]; omega) fun h' tk D kk hD hlst => ?_))
  cases rv with
  | cons r1 rv =>
    cases rv with
    | cons r2 rv =>
      have hsl := sizeLine_eq
      obtain ⟨hn', I2⟩ := I.above (tk := tk) (o := .lst rs) kk hD ⟨by omega, _, 0, rv, hlst⟩
      exact h pins _ σ _ [x, y, .ref D] _ Q I2 (.cons r1 (.cons r2 (.cons rfl .nil))) (hw D hn')
end L2

end
section
set_option maxHeartbeats 3996000
/-! ### set(a tuple of numbers) -/
namespace PySem
def newSetO (led : Bool) : Obj := { cls := .type "set", dict := none, data := .set #[] 0 (.fresh 0 0 led) }
theorem tup_noSet : isSubtype (.type "tuple") (.type "set") = pure false := by rw [isSubtype_type]; kernel_rfl
theorem tup_noFz : isSubtype (.type "tuple") (.type "frozenset") = pure false := by rw [isSubtype_type]; kernel_rfl
section
variable {prog : Program} {w : World} {A : Around} {E : Value → Shared → Prop} {s : Shared}
/-- what stands in the new set when a tuple has been put in -/
abbrev Filled (prog : Program) (w : World) (s : Shared) (ns : List Int) (n : Nat) (h' : Heap) : Prop :=
  h'.SetOf (intKind prog w) s.heap.objs.size (fun k' => (PyProof.Rows.firstMet (fun i => ns.getD i 0) n).any (· == k')) (PyProof.Rows.firstMet (fun i => ns.getD i 0) n).length ∧ ∀ b o, b < s.heap.objs.size → s.heap.get? b = some o → h'.get? b = some o
theorem set_init_tup {l : Addr} {items : Array Value} {ns : List Int} {led : Bool} {R : Result → Shared → Prop} (hh : A.handled = none) (hl : s.heap.IsTuple l items) (hi : PyProof.Rows.IntsAre items.toList ns) (hb : items.size + 1 < scanBound)
    (h : ∀ h' tk, Filled prog w s ns items.size h' → R (.ok (.ret .none)) { s with heap := h', toks := tk }) :
    wpAny (model prog w) A.in1 (Builtin.«set.__init__» ⟨[.ref s.heap.objs.size, .ref l], []⟩) (fun fin s' => match fin with | .done f => R (.ok f) s' | .again c' => c'.quiet = true ∧ codeAny (model prog w) A c' R s') (fun e s' => R (.error e) s') { s with heap := s.heap.push (newSetO led) } := by
  have hS : (s.heap.push (newSetO led)).get? s.heap.objs.size = some (newSetO led) := Heap.get?_push_size _ rfl
  have hlt : l < s.heap.objs.size := by obtain ⟨o, ho, _⟩ := hl; exact Heap.lt_size ho
  have zz : (s.heap.push (newSetO led)).objs.size = s.heap.objs.size + 1 := Heap.size_push ..
  have hl1 : (s.heap.push (newSetO led)).IsTuple l items := hl.push _
  have hT : Shared.TypeIs { s with heap := s.heap.push (newSetO led) } (.ref s.heap.objs.size) "set" := ⟨_, hS, rfl⟩
  have q1 := tup_noSet
  have q2 := tup_noFz
  have q3 : (Value.type "tuple" == Value.type "dict") = false := by decide
  obtain ⟨ol, hol, hcl, nl, hdl⟩ := id hl1
  obtain ⟨ocls, odict, odata, oslots⟩ := ol; simp only at hcl hdl
  subst hcl hdl
  unfold Builtin.«set.__init__» noKeywords Builtin.Frozenset.updateFrom newSetO
  unfold newSetO at hS hT hol hl1 zz
  generalize hPI : pyIter = PI
  wp_walk
  subst hPI
  refine wpAny_pyIter_tuple hl1 (wpAny_bind (wpAny_runValue ?_))
  have z0 : s.heap.objs.size ≠ s.heap.objs.size + 1 := Nat.ne_of_lt (Nat.lt_succ_self _)
  refine PyProof.Rows.codeAny_set_update_loopS ((Walks.tuple (show A.in1.in1.handled = none by simp [hh]) (s.heap.push (newSetO led)).objs.size l (by rw [Heap.size_push]; exact Nat.ne_of_lt (Nat.lt_succ_of_lt hlt)) items).toS) s.heap.objs.size (by
      rw [Heap.size_push]
      intro m
      rcases (List.mem_cons.mp m) with e | e
      · exact z0 e
      · exact Nat.ne_of_gt hlt (List.mem_singleton.mp e)) (fun i => ns.getD i 0) (fun i v hv => PyProof.Rows.IntsAre.int_at hi i v (by rw [Array.getElem?_toList]; exact hv)) hb (items.size - 0) 0 _ (by omega) (Nat.zero_le _) ⟨⟨_, Heap.get?_push_size _ rfl, rfl, rfl⟩, hl1.push _⟩
    (PyProof.Rows.SetOf_congr ((PyProof.Rows.setObjOf_fresh (knd := intKind prog w) led).setOf (Heap.get?_push_of_some _ hS) (by unfold scanBound; omega)) (fun _ => rfl) rfl) fun s' hm hS' => ?_
  obtain ⟨h', g', d', tk', os'⟩ := s'; obtain rfl : g' = s.gens := hm.gens
  obtain rfl : d' = s.drawn := hm.drawn
  obtain rfl : os' = s.os := hm.os
  refine wpAny_pure ?_
  show wpAny _ _ (ret Value.none) _ _ _; refine wpAny_pure (h h' tk' ⟨hS', fun b o hb' e => ?_⟩)
  refine hm.heap b o ?_ (Heap.get?_push_of_some _ (Heap.get?_push_of_some _ e))
  intro m
  rcases (List.mem_cons.mp m) with e | e
  · exact Nat.ne_of_lt hb' e
  · have e := List.mem_singleton.mp e
    rw [Heap.size_push] at e
    exact Nat.ne_of_lt (Nat.lt_succ_of_lt hb') e
theorem call_set_tup {l : Addr} {items : Array Value} {ns : List Int} {Q : Value → Shared → Prop} (hh : A.handled = none) (hl : s.heap.IsTuple l items) (hi : PyProof.Rows.IntsAre items.toList ns) (hb : items.size + 1 < scanBound)
    (h : ∀ h' tk, Filled prog w s ns items.size h' → Q (.ref s.heap.objs.size) { s with heap := h', toks := tk }) : wpAny (model prog w) A (call (.type "set") [.ref l]) Q E s := by
  have ft := F.called_set
  obtain ⟨c, tl, hmro⟩ := ft.mro; have p1 := ft.made
  have p2 := ft.sub
  have p3 := ft.notType
  have p4 := ft.canCreate
  have p5 := F.typeCall_set_1 (.ref l)
  refine wpAny_call (codeAny_of_tree ?_); show wpAny _ _ (callAny (.type "set") _) _ _ _
  refine wpAny_pure ⟨Code.quiet_builtin _ (by decide +kernel), codeAny_builtin F.entry_type_call ?_⟩; rw [Around.under_plain (weight_type_call_type "set" [.ref l] []) rfl]; repeat (any_goals (first | assumption | wp_step))
  refine codeAny_mono (code_set_new_1 (.ref l) (E := E) (Q₁ := fun obj s₁ => ∃ led : Bool, obj = .ref s.heap.objs.size ∧ s₁ = { s with heap := s.heap.push (newSetO led) }) fun led => ⟨led, rfl, rfl⟩) fun r s₁ hr => ?_
  cases r with
  | error e => exact hr
  | ok fl =>
    cases fl with
    | ret obj =>
      obtain ⟨led, rfl, rfl⟩ := hr
      have hS : (s.heap.push (newSetO led)).get? s.heap.objs.size = some (newSetO led) := Heap.get?_push_size _ rfl
      have hT : Shared.TypeIs { s with heap := s.heap.push (newSetO led) } (.ref s.heap.objs.size) "set" := ⟨_, hS, rfl⟩
      have p6 := ft.init.lookup
      have p7 := ft.init.bind (.ref s.heap.objs.size); repeat (any_goals (first | assumption | wp_step))
      refine codeAny_mono (codeAny_call_builtin (R := wants (fun r s₂ => r = .none ∧ ∃ h' tk, s₂ = { s with heap := h', toks := tk } ∧ Filled prog w s ns items.size h') E) ft.init.plain F.entry_set_init (check_set_init_1 hT (set_init_tup (A := A.in1) (by simp [hh]) hl hi hb fun h' tk fl => ⟨rfl, h', tk, rfl, fl⟩))) fun r₂ s₂ hr₂ => ?_
      cases r₂ with
      | error e => exact hr₂
      | ok fl₂ =>
        cases fl₂ with
        | ret r =>
          obtain ⟨rfl, h', tk, rfl, fl⟩ := hr₂; repeat (any_goals (first | assumption | wp_step))
          exact h _ _ fl
        | _ => exact hr₂.elim
    | _ => exact hr.elim
end
end PySem
namespace L2
open PySem PySem.Spec PyProof.Rows PySem.Builtin.Str
theorem met_len {ns : List Int} (nd : ns.Nodup) : ∀ i, i ≤ ns.length → (firstMet (fun j => ns.getD j 0) i).length = i
  | 0, _ => rfl
  | i + 1, h => by
    have ih := met_len nd i (by omega)
    rw [firstMet_succ, step_length, ih]
    have hno : (firstMet (fun j => ns.getD j 0) i).any (· == ns.getD i 0) = false := by
      rw [firstMet_any]
      cases e : ((List.range i).map fun j => ns.getD j 0).any (· == ns.getD i 0) with
      | false => rfl
      | true =>
        obtain ⟨x, hx, hxe⟩ := List.any_eq_true.mp e
        obtain ⟨j, hj, rfl⟩ := List.mem_map.mp hx
        have hj := List.mem_range.mp hj
        have h1 : ns.getD j 0 = ns[j]'(by omega) := by simp [List.getD_eq_getElem?_getD, List.getElem?_eq_getElem (show j < ns.length by omega)]
        have h2 : ns.getD i 0 = ns[i]'(by omega) := by simp [List.getD_eq_getElem?_getD, List.getElem?_eq_getElem (show i < ns.length by omega)]
        have h3 : ns[j]'(by omega) = ns[i]'(by omega) := by rw [← h1, ← h2]; exact beq_iff_eq.mp hxe
        exact absurd ((List.getElem_inj nd).mp h3) (by omega)
    rw [hno]
    rfl
theorem call_lenSet {X : Cx} : CallR X (.builtin "len") (fun xs H Q => ∃ l S n, xs = [.ref l] ∧ H l = some (.set S n) ∧ Q (.int (n : Nat)) H) := by
  intro pins s σ H xs us Q I r h
  obtain ⟨l, S, n, rfl, hH, q⟩ := h
  obtain ⟨u, rfl, rx⟩ := vals1 r
  cases rx
  obtain ⟨o, es, ep, t, ho, hex, hd, _, _, hb, hf, hn⟩ := I.hok l _ hH
  subst hn
  exact call_len_set ho hex hd hf (by unfold scanBound at hb; omega) ⟨.int (es.size : Nat), H, I.tok _, ⟨_, rfl⟩, q⟩
/-! ### texts with fields -/
def PJ (X : Cx) (es : List Expr) (t : St → Hp → Str → (Str → Hp → Prop) → Prop) : Prop := ∀ (pins : List (Addr × Obj)) (s : Shared) (σ : St) (H : Hp) (acc : Str) (Q : Str → Hp → Prop), Inv X pins σ H s → t σ H acc Q →
  Joins (model X.prog X.w) X.A X.xe (evalEach es X.env) acc (fun out s₁ => ∃ H', Inv X pins σ H' s₁ ∧ Q out H') s
def jNil : St → Hp → Str → (Str → Hp → Prop) → Prop := fun _ H acc Q => Q acc H
def jStr (x : Str) (t : St → Hp → Str → (Str → Hp → Prop) → Prop) : St → Hp → Str → (Str → Hp → Prop) → Prop := fun σ H acc Q => (acc ++ x).length ≤ sizeLine ∧ t σ H (acc ++ x) Q
def jFld (te : TE) (t : St → Hp → Str → (Str → Hp → Prop) → Prop) : St → Hp → Str → (Str → Hp → Prop) → Prop := fun σ H acc Q => te σ H fun v H1 => ∃ y : Str, ((∃ i : Int, v = .int i ∧ 0 ≤ i ∧ i < 1000000 ∧ y = sN i) ∨ v = .str y) ∧ y.length ≤ sizeLine ∧ (acc ++ y).length ≤ sizeLine ∧ t σ H1 (acc ++ y) Q
section
variable {X : Cx} {es : List Expr} {t : St → Hp → Str → (Str → Hp → Prop) → Prop} {e : Expr} {te : TE} {pos : Pos}
def tFs (t : St → Hp → Str → (Str → Hp → Prop) → Prop) : TE := fun σ H Q => t σ H Str.empty fun out H' => out.length ≤ sizeLine ∧ Q (.str out) H'
end
end L2

end
section
set_option maxHeartbeats 3996000
namespace L2
open PySem PySem.Spec PyProof.Rows
end L2
namespace My
open PySem L2 PyProof.Rows PySem.Builtin.Str
section
variable {K : PySem.W.Frag}
/-- what holds of the text of a small number -/
structure Wr (z : Str) : Prop where
  len : z.length ≤ 2
  asc : z.cps.all (· < 128) = true
  dig : (z.length > 0 && z.cps.all Unicode.isDigit) = true
  fst : ∃ c, z.cps.toList[0]? = some c ∧ (z = "0" ∨ (⟨#[c]⟩ : Str) ≠ "0")
  spc : 32 ∉ z.cps.toList
def wrB (z : Str) : Bool := decide (z.length ≤ 2) && z.cps.all (· < 128) && (z.length > 0 && z.cps.all Unicode.isDigit) && (match z.cps.toList[0]? with | some c => decide (z = "0") || decide ((⟨#[c]⟩ : Str) ≠ "0") | none => false) && decide (32 ∉ z.cps.toList)
theorem wr_of {z : Str} (h : wrB z = true) : Wr z := by
  unfold wrB at h
  simp only [Bool.and_eq_true, decide_eq_true_eq] at h
  obtain ⟨⟨⟨⟨h1, h2⟩, h3⟩, h4⟩, h5⟩ := h
  refine ⟨h1, h2, by simpa using h3, ?_, h5⟩
  cases e : z.cps.toList[0]? with
  | none => rw [e] at h4; cases h4
  | some c =>
    rw [e] at h4
    simp only [Bool.or_eq_true, decide_eq_true_eq] at h4
    exact ⟨c, rfl, h4⟩
theorem wr_all : (List.range 100).all (fun n => wrB (sN (n : Nat))) = true := by decide +kernel
theorem wr_num {n : Int} (h0 : 0 ≤ n) (h1 : n < 100) : Wr (sN n) := by
  have h := List.all_eq_true.mp wr_all n.toNat (List.mem_range.mpr (by omega))
  have e : ((n.toNat : Nat) : Int) = n := (by omega); rw [e] at h
  exact wr_of h
/-- an entry's word -/
def wE : Option Int → Str
  | none => "-"
  | some i => sN i
def RowIn (rw : List (Option Int)) : Prop := rw.length ≤ 100 ∧ ∀ i, some i ∈ rw → 0 ≤ i ∧ i < 100
def sp_row_text (K : PySem.W.Frag) : Sp := fun vs H Q _ => ∃ (r : Addr) (rw : List (Option Int)), vs = [.ref r] ∧ (SqL K H r (rw.map enc) ∨ SqT K H r (rw.map enc)) ∧ RowIn rw ∧ ∀ H', Same H H' → Q (.str (Str.join " " (rw.map wE))) H'
def sp_polynomial_text (K : PySem.W.Frag) : Sp := fun vs H Q _ => ∃ (r : Addr) (ms : List Int), vs = [.ref r] ∧ SqT K H r (ms.map V.int) ∧ RowIn (ms.map some) ∧ ∀ H', Same H H' → Q (.str (Str.join "," (ms.map sN))) H'
def sp_is_written (K : PySem.W.Frag) : Sp := fun vs H Q _ => ∃ z : Str, vs = [.str z] ∧ Wr z ∧ Q (.bl true) H
def sp_is_code_prime (K : PySem.W.Frag) : Sp := fun vs H Q _ => ∃ p : Int, vs = [.int p] ∧ p ∈ primesL ∧ ∀ H', Same H H' → Q (.bl true) H'
def sp_are_places (K : PySem.W.Frag) : Sp := fun vs H Q _ => ∃ (p k : Int) (tt : Addr) (pl : List Int), vs = [.int p, .int k, .ref tt] ∧ H tt = some (.tup (pl.map V.int)) ∧ CodeOk 5 16 p k pl ∧ ∀ H', Same H H' → Q (.bl true) H'
def sp_is_code (K : PySem.W.Frag) : Sp := fun vs H Q _ => ∃ (c tt : Addr) (p k : Int) (pl : List Int), vs = [.ref c] ∧ CodeAt H c tt p k pl ∧ CodeOk 5 16 p k pl ∧ ∀ H', Same H H' → Q (.bl true) H'
/-- the words of a code's text -/
def wordsC (p k : Int) (pl : List Int) : List Str := sN p :: sN k :: ":" :: pl.map sN
def sp_code_text (K : PySem.W.Frag) : Sp := fun vs H Q _ => ∃ (c tt : Addr) (p k : Int) (pl : List Int), vs = [.ref c] ∧ CodeAt H c tt p k pl ∧ CodeOk 5 16 p k pl ∧ ∀ H', Same H H' → Q (.str (Str.join " " (wordsC p k pl))) H'
theorem sp_len : (" " : Str).length = 1 := by decide +kernel
end
end My

end
section
set_option maxHeartbeats 3996000
namespace L2
open PySem PySem.Spec PyProof.Rows PySem.Builtin.Str
/-! ### the signs of a text, one by one -/
def Its (z : Str) : It := ⟨fun i _ => i < z.cps.size, fun i H x H' => H' = H ∧ ∃ c, z.cps[i]? = some c ∧ x = .str ⟨#[c]⟩, fun i _ => z.cps.size ≤ i⟩
theorem turn_ascii {P : Program} {w : World} {K : PySem.W.Frag} {tg : Expr} (z : Str) (t : Tok) (it : Addr) : Turn P w K tg (Its z) [it] it (fun i h => h.IsStrIter it "str_ascii_iterator" z t i) where
  mem := by simp
  obj := fun i h st b hb => by
    have e : b = it := by simpa using hb
    subst e
    obtain ⟨o, e, c, d⟩ := st
    exact ⟨o, e, fun v y => by rw [d] at y; cases y⟩
  keep := fun i h h' st k => by
    obtain ⟨o, e, r⟩ := st
    exact ⟨o, k it (by simp) o e, r⟩
  item := by
    intro X hP hw hK hc i pins s σ H E I hf st hg
    subst hP hw hK
    have hg : i < z.cps.size := hg
    obtain ⟨f0, f1, f2, f3, f4, f5⟩ := hf it (by simp)
    refine wpAny_pyNext_ascii_item st (c := z.cps[i]) (by simp [hg]) fun h' st' sb => ?_
    have I1 : Inv X pins σ H { s with heap := h', toks := s.toks + 1 } := I.turned (fun b o hb e => (sb.2 b hb).trans e) f0 f1 f3 f4 f5
    obtain ⟨o, e, c, d⟩ := id st'
    exact ⟨_, rfl, go_of (s := { s with heap := h', toks := s.toks + 1 }) e c d (by decide) ⟨.str ⟨#[z.cps[i]]⟩, H, I1, ⟨_, rfl⟩, ⟨rfl, z.cps[i], by simp [hg], rfl⟩, st', fun b hb => (hf b hb).1⟩⟩
  done := by
    intro X hP hw hK hc i pins s σ H E I hf st hg
    subst hP hw hK
    have hg : z.cps.size ≤ i := hg
    obtain ⟨f0, f1, f2, f3, f4, f5⟩ := hf it (by simp)
    exact wpAny_pyNext_ascii_end (I.ok.hd hc) st (by simp [hg]) fun h' eb => ⟨rfl, I.turned (t' := s.toks) (fun b o hb e => eb b o hb e) f0 f1 f3 f4 f5⟩
  self := fun _ _ _ _ _ st h => wpAny_pyIter_striter_ascii st h
theorem turn_wide {P : Program} {w : World} {K : PySem.W.Frag} {tg : Expr} (z : Str) (t : Tok) (it : Addr) : Turn P w K tg (Its z) [it] it (fun i h => h.IsStrIter it "str_iterator" z t i) where
  mem := by simp
  obj := fun i h st b hb => by
    have e : b = it := by simpa using hb
    subst e
    obtain ⟨o, e, c, d⟩ := st
    exact ⟨o, e, fun v y => by rw [d] at y; cases y⟩
  keep := fun i h h' st k => by
    obtain ⟨o, e, r⟩ := st
    exact ⟨o, k it (by simp) o e, r⟩
  item := by
    intro X hP hw hK hc i pins s σ H E I hf st hg
    subst hP hw hK
    have hg : i < z.cps.size := hg
    obtain ⟨f0, f1, f2, f3, f4, f5⟩ := hf it (by simp)
    refine wpAny_pyNext_wide_item st (c := z.cps[i]) (by simp [hg]) fun h' st' sb => ?_
    have I1 : Inv X pins σ H { s with heap := h', toks := s.toks + 1 } := I.turned (fun b o hb e => (sb.2 b hb).trans e) f0 f1 f3 f4 f5
    obtain ⟨o, e, c, d⟩ := id st'
    exact ⟨_, rfl, go_of (s := { s with heap := h', toks := s.toks + 1 }) e c d (by decide) ⟨.str ⟨#[z.cps[i]]⟩, H, I1, ⟨_, rfl⟩, ⟨rfl, z.cps[i], by simp [hg], rfl⟩, st', fun b hb => (hf b hb).1⟩⟩
  done := by
    intro X hP hw hK hc i pins s σ H E I hf st hg
    subst hP hw hK
    have hg : z.cps.size ≤ i := hg
    obtain ⟨f0, f1, f2, f3, f4, f5⟩ := hf it (by simp)
    exact wpAny_pyNext_wide_end (I.ok.hd hc) st (by simp [hg]) fun h' eb => ⟨rfl, I.turned (t' := s.toks) (fun b o hb e => eb b o hb e) f0 f1 f3 f4 f5⟩
  self := fun _ _ _ _ _ st h => wpAny_pyIter_striter_wide st h
def iStr (tl : TE) : TI := fun σ H R => tl σ H fun x H1 => ∃ z, x = .str z ∧ R (Its z) H1
theorem pi_str {X : Cx} {tg l : Expr} {tl : TE} (hl : PE X l tl) : PI X tg l (iStr tl) := by
  intro pins s σ H R I h
  refine thn (hl pins s σ H _ I h) fun v s1 ⟨x, H1, I1, r1, q1⟩ => ?_
  obtain ⟨z, e, q⟩ := q1
  subst e
  obtain ⟨t, rfl⟩ := r1
  have fin : ∀ b ∈ [s1.heap.objs.size], FpOk X pins H1 b := fun b hb => by
    have e : b = s1.heap.objs.size := by simpa using hb
    subst e
    exact I1.fpOk (Nat.le_refl _) (I1.hok.fresh (Nat.le_refl _))
  cases ha : z.cps.all (· < 128)
  · refine wpAny_pyIter_wide ha ?_
    exact ⟨s1.heap.objs.size, [s1.heap.objs.size], _, _, H1, rfl, I1.kept (t' := s1.toks) fun b o e => Heap.get?_push_of_some _ e, turn_wide z t _, ⟨_, Heap.get?_push_size _ rfl, rfl, rfl⟩, fin, q⟩
  · refine wpAny_pyIter_ascii ha ?_
    exact ⟨s1.heap.objs.size, [s1.heap.objs.size], _, _, H1, rfl, I1.kept (t' := s1.toks) fun b o e => Heap.get?_push_of_some _ e, turn_ascii z t _, ⟨_, Heap.get?_push_size _ rfl, rfl, rfl⟩, fin, q⟩
/-! ### a slice of a text, of which only the length is told -/
theorem sliceRange_len (a b : Int) (n : Nat) (ha : 0 ≤ a) (hb : b ≤ n) : (sliceRange a b 1).length ≤ n := by
  unfold sliceRange
  simp only [show (1 : Int) > 0 by decide, if_true]
  by_cases h : a < b
  · simp only [h, if_true]
    rw [List.length_map, List.length_range]
    have e : (b - a + 1 - 1) / 1 = b - a := by rw [Int.ediv_one]; omega
    rw [e]
    omega
  · simp only [h, if_false]
    simp
theorem slice_len (z : Str) (lo hi : Option Int) : (strSliceIndices lo hi 1 z.length).length ≤ z.length := by
  unfold strSliceIndices
  simp only [show (1 : Int) > 0 by decide, if_true]
  refine sliceRange_len _ _ _ ?_ ?_
  · cases lo with
    | none => exact Int.le_refl _
    | some i => dsimp only; omega
  · cases hi with
    | none => exact Int.le_refl _
    | some i => dsimp only; omega
def rSlS : V → Option Int → Option Int → Hp → VK → Prop := fun x lo hi H Q => ∃ z, x = .str z ∧ z.length ≤ sizeLine ∧ ∀ y : Str, y.length ≤ z.length → Q (.str y) H
theorem part_of {v : Value} {o : Option Int} (h : IsPart v o) : ∃ q : Option (Int × Tok), v = partValue q := by
  cases h with
  | none => exact ⟨none, rfl⟩
  | int i t => exact ⟨some (i, t), rfl⟩
theorem sl_str {X : Cx} : SlR X rSlS := by
  intro pins s σ H x v vl vu lo hi sl Q I rx hs pl pu h
  obtain ⟨z, rfl, hz, q⟩ := h
  obtain ⟨t, rfl⟩ := rx
  obtain ⟨l, rfl⟩ := part_of pl
  obtain ⟨u, rfl⟩ := part_of pu
  refine ⟨"str", _, F.slot_str_getitem.lookup, typeIs_str s z t, ?_⟩
  refine wpAny_getItem_str_slice (l := l) (u := u) (st := none) ?_ rfl ?_
  · obtain ⟨o, ho, hc, hd⟩ := hs
    exact ⟨o, ho, hc, hd⟩
  · unfold sliceMade
    split
    · exact ⟨.str z, H, I, ⟨_, rfl⟩, q z (Nat.le_refl _)⟩
    · have hl : (⟨((slicePicked z l u none).filterMap (z.cps[·]?)).toArray⟩ : Str).length ≤ z.length := by
        show ((slicePicked z l u none).filterMap (z.cps[·]?)).toArray.size ≤ _
        rw [List.size_toArray]
        exact Nat.le_trans (List.length_filterMap_le _ _) (slice_len z _ _)
      first
        | exact ⟨.str _, H, I.tok _, ⟨_, rfl⟩, q _ hl⟩
        | exact ⟨Nat.le_trans hl hz, .str _, H, I.tok _, ⟨_, rfl⟩, q _ hl⟩
/-! ### max of a list of numbers -/
theorem call_maxL {X : Cx} (hc : X.calm = true) : CallR X (.builtin "max") (fun xs H Q => ∃ (p : Addr) (ns : List Int), xs = [.ref p] ∧ SqL X.K H p (ns.map V.int) ∧ ns ≠ [] ∧ ∀ M : Int, M ∈ ns → (∀ a ∈ ns, a ≤ M) → Q (.int M) H) := by
  intro pins s σ H xs us Q I r h
  obtain ⟨p, ns, rfl, hq, hn, q⟩ := h
  obtain ⟨u, rfl, rx⟩ := vals1 r
  cases rx
  obtain ⟨its, rv, pl, hz⟩ := I.list hq
  have hi : IntsAre its ns := by simpa using intsAre_of rv
  obtain ⟨xs, e⟩ := hi.allInts.items; have hns : ns = xs.toList.map (·.1) := by rw [← hi.numsOf, ← nums_intItems, ← e]
  have hsz : 0 < xs.size := by
    have h3 := List.length_pos_iff.mpr hn
    rw [hns, List.length_map, Array.length_toList] at h3
    exact h3
  have hl := pl.isList
  rw [e] at hl
  refine max_intList (I.ok.hd hc) hl hsz fun v h' tk hv hk => ?_
  obtain ⟨t, rfl⟩ := intItems_at hv; obtain ⟨h1, h2⟩ := argBest_gt (numAt xs) (xs.size - 1)
  refine ⟨.int _, H, I.kept hk, ⟨_, rfl⟩, q _ ?_ fun a ha => ?_⟩; · rw [hns, numAt_eq]; exact getD_mem (by rw [List.length_map, Array.length_toList]; omega)
  · rw [hns] at ha
    obtain ⟨j, hj, rfl⟩ := mem_getD ha; rw [List.length_map, Array.length_toList] at hj; rw [← numAt_eq]; exact h2 j (by omega)
end L2

end
section
set_option maxHeartbeats 3996000
/-! ### set(a list of numbers) -/
namespace PySem
theorem lst_noSet : isSubtype (.type "list") (.type "set") = pure false := by rw [isSubtype_type]; kernel_rfl
theorem lst_noFz : isSubtype (.type "list") (.type "frozenset") = pure false := by rw [isSubtype_type]; kernel_rfl
section
variable {prog : Program} {w : World} {A : Around} {E : Value → Shared → Prop} {s : Shared}
theorem set_init_lst {l : Addr} {items : Array Value} {ns : List Int} {led : Bool} {R : Result → Shared → Prop} (hh : A.handled = none) (hl : s.heap.IsList l items) (hi : PyProof.Rows.IntsAre items.toList ns) (hb : items.size + 1 < scanBound)
    (h : ∀ h' tk, Filled prog w s ns items.size h' → R (.ok (.ret .none)) { s with heap := h', toks := tk }) :
    wpAny (model prog w) A.in1 (Builtin.«set.__init__» ⟨[.ref s.heap.objs.size, .ref l], []⟩) (fun fin s' => match fin with | .done f => R (.ok f) s' | .again c' => c'.quiet = true ∧ codeAny (model prog w) A c' R s') (fun e s' => R (.error e) s') { s with heap := s.heap.push (newSetO led) } := by
  have hS : (s.heap.push (newSetO led)).get? s.heap.objs.size = some (newSetO led) := Heap.get?_push_size _ rfl
  have hlt : l < s.heap.objs.size := (by obtain ⟨o, ho, _⟩ := hl; exact Heap.lt_size ho)
  have zz : (s.heap.push (newSetO led)).objs.size = s.heap.objs.size + 1 := Heap.size_push ..
  have hl1 : (s.heap.push (newSetO led)).IsList l items := hl.push _
  have hT : Shared.TypeIs { s with heap := s.heap.push (newSetO led) } (.ref s.heap.objs.size) "set" := ⟨_, hS, rfl⟩
  have q1 := lst_noSet
  have q2 := lst_noFz
  have q3 : (Value.type "list" == Value.type "dict") = false := by decide
  obtain ⟨ol, hol, hcl, nl, hdl⟩ := id hl1
  obtain ⟨ocls, odict, odata, oslots⟩ := ol; simp only at hcl hdl
  subst hcl hdl
  unfold Builtin.«set.__init__» noKeywords Builtin.Frozenset.updateFrom newSetO
  unfold newSetO at hS hT hol hl1 zz
  generalize hPI : pyIter = PI
  wp_walk
  subst hPI
  refine wpAny_pyIter_list hl1 (wpAny_bind (wpAny_runValue ?_))
  have z0 : s.heap.objs.size ≠ s.heap.objs.size + 1 := Nat.ne_of_lt (Nat.lt_succ_self _)
  refine PyProof.Rows.codeAny_set_update_loopS ((Walks.list (show A.in1.in1.handled = none by simp [hh]) (s.heap.push (newSetO led)).objs.size l (by rw [Heap.size_push]; exact Nat.ne_of_lt (Nat.lt_succ_of_lt hlt)) items).toS) s.heap.objs.size (by
      rw [Heap.size_push]
      intro m
      rcases (List.mem_cons.mp m) with e | e
      · exact z0 e
      · exact Nat.ne_of_gt hlt (List.mem_singleton.mp e)) (fun i => ns.getD i 0) (fun i v hv => PyProof.Rows.IntsAre.int_at hi i v (by rw [Array.getElem?_toList]; exact hv)) hb (items.size - 0) 0 _ (by omega) (Nat.zero_le _) ⟨⟨_, Heap.get?_push_size _ rfl, rfl, rfl⟩, hl1.push _⟩
    (PyProof.Rows.SetOf_congr ((PyProof.Rows.setObjOf_fresh (knd := intKind prog w) led).setOf (Heap.get?_push_of_some _ hS) (by unfold scanBound; omega)) (fun _ => rfl) rfl) fun s' hm hS' => ?_
  obtain ⟨h', g', d', tk', os'⟩ := s'; obtain rfl : g' = s.gens := hm.gens
  obtain rfl : d' = s.drawn := hm.drawn
  obtain rfl : os' = s.os := hm.os
  refine wpAny_pure ?_
  show wpAny _ _ (ret Value.none) _ _ _; refine wpAny_pure (h h' tk' ⟨hS', fun b o hb' e => ?_⟩)
  refine hm.heap b o ?_ (Heap.get?_push_of_some _ (Heap.get?_push_of_some _ e))
  intro m
  rcases (List.mem_cons.mp m) with e | e
  · exact Nat.ne_of_lt hb' e
  · have e := List.mem_singleton.mp e
    rw [Heap.size_push] at e
    exact Nat.ne_of_lt (Nat.lt_succ_of_lt hb') e
theorem call_set_lst {l : Addr} {items : Array Value} {ns : List Int} {Q : Value → Shared → Prop} (hh : A.handled = none) (hl : s.heap.IsList l items) (hi : PyProof.Rows.IntsAre items.toList ns) (hb : items.size + 1 < scanBound)
    (h : ∀ h' tk, Filled prog w s ns items.size h' → Q (.ref s.heap.objs.size) { s with heap := h', toks := tk }) : wpAny (model prog w) A (call (.type "set") [.ref l]) Q E s := by
  have ft := F.called_set
  obtain ⟨c, tl, hmro⟩ := ft.mro; have p1 := ft.made
  have p2 := ft.sub
  have p3 := ft.notType
  have p4 := ft.canCreate
  have p5 := F.typeCall_set_1 (.ref l)
  refine wpAny_call (codeAny_of_tree ?_); show wpAny _ _ (callAny (.type "set") _) _ _ _
  refine wpAny_pure ⟨Code.quiet_builtin _ (by decide +kernel), codeAny_builtin F.entry_type_call ?_⟩; rw [Around.under_plain (weight_type_call_type "set" [.ref l] []) rfl]; repeat (any_goals (first | assumption | wp_step))
  refine codeAny_mono (code_set_new_1 (.ref l) (E := E) (Q₁ := fun obj s₁ => ∃ led : Bool, obj = .ref s.heap.objs.size ∧ s₁ = { s with heap := s.heap.push (newSetO led) }) fun led => ⟨led, rfl, rfl⟩) fun r s₁ hr => ?_
  cases r with
  | error e => exact hr
  | ok fl =>
    cases fl with
    | ret obj =>
      obtain ⟨led, rfl, rfl⟩ := hr
      have hS : (s.heap.push (newSetO led)).get? s.heap.objs.size = some (newSetO led) := Heap.get?_push_size _ rfl
      have hT : Shared.TypeIs { s with heap := s.heap.push (newSetO led) } (.ref s.heap.objs.size) "set" := ⟨_, hS, rfl⟩
      have p6 := ft.init.lookup
      have p7 := ft.init.bind (.ref s.heap.objs.size); repeat (any_goals (first | assumption | wp_step))
      refine codeAny_mono (codeAny_call_builtin (R := wants (fun r s₂ => r = .none ∧ ∃ h' tk, s₂ = { s with heap := h', toks := tk } ∧ Filled prog w s ns items.size h') E) ft.init.plain F.entry_set_init (check_set_init_1 hT (set_init_lst (A := A.in1) (by simp [hh]) hl hi hb fun h' tk fl => ⟨rfl, h', tk, rfl, fl⟩))) fun r₂ s₂ hr₂ => ?_
      cases r₂ with
      | error e => exact hr₂
      | ok fl₂ =>
        cases fl₂ with
        | ret r =>
          obtain ⟨rfl, h', tk, rfl, fl⟩ := hr₂; repeat (any_goals (first | assumption | wp_step))
          exact h _ _ fl
        | _ => exact hr₂.elim
    | _ => exact hr.elim
/-- a list unpacked -/
theorem unpack_lst {l : Addr} {items : Array Value} {Q : List Value → Shared → Prop} (hh : A.handled = none) (hl : s.heap.IsList l items) (hQ : ∀ h', Heap.ExtBut s.heap.objs.size s.heap h' → Q items.toList { s with heap := h' }) : wpAny (model prog w) A (unpackItems (.ref l) items.size none) Q E s := by
  have hne : l ≠ s.heap.objs.size := (by obtain ⟨o, ho, _⟩ := hl; exact Nat.ne_of_lt (Heap.lt_size ho))
  unfold unpackItems
  refine wpAny_bind ?_; unfold notIterableAtAll
  refine wpAny_bind (wpAny_specialOf hl.typeIs slot_list_iter.lookup (wpAny_pure ?_)); simp only [Bool.false_eq_true, if_false]
  refine wpAny_bind (wpAny_holding (wpAny_pyIter_list hl ?_)); refine wpAny_bind (wpAny_holding (PySem.W.kun_draw hne items.size 0 _ _ ⟨_, Heap.get?_push_size _ rfl, rfl, rfl⟩ (hl.push _) (by omega) fun h1 hit hs1 => ?_))
  have hl1 : h1.IsList l items := (hl.push _).extBut hs1.extBut hne
  have hall : List.take items.size (List.drop 0 items.toList) = items.toList := by rw [List.drop_zero]; exact List.take_of_length_le (by simp)
  rw [hall, if_neg (by simp)]
  rw [Nat.zero_add] at hit
  refine wpAny_bind (wpAny_holding (wpAny_pyNext_list_end hh hit hl1 (by simp) fun h2 he2 => ?_))
  simp only [Option.isSome_none, Bool.false_eq_true, if_false]; exact wpAny_pure (hQ h2 fun b o hb e => he2 b o hb (hs1.extBut b o hb (Heap.get?_push_of_some _ e)))
end
end PySem
namespace L2
open PySem PySem.Spec PyProof.Rows PySem.Builtin.Str
theorem met_le {ns : List Int} : ∀ i, (firstMet (fun j => ns.getD j 0) i).length ≤ i
  | 0 => Nat.le_refl _
  | i + 1 => by
    have ih := met_le (ns := ns) i
    rw [firstMet_succ, step_length]
    split <;> omega
theorem getD_at {ns : List Int} {i : Nat} (h : i < ns.length) : ns.getD i 0 = ns[i] := by simp [List.getD_eq_getElem?_getD, List.getElem?_eq_getElem h]
/-- as many as there are: all unlike -/
theorem met_full {ns : List Int} : ∀ i, i ≤ ns.length → (firstMet (fun j => ns.getD j 0) i).length = i → (ns.take i).Nodup
  | 0, _, _ => by simp
  | i + 1, hi, h => by
    have hle := met_le (ns := ns) i
    rw [firstMet_succ, step_length] at h
    split at h
    · omega
    · rename_i hno
      have ih := met_full (ns := ns) i (by omega) (by omega)
      rw [List.take_succ_eq_append_getElem (by omega), List.nodup_append]
      refine ⟨ih, by simp, fun a ha b hb => ?_⟩
      rw [List.mem_singleton] at hb
      subst hb
      intro e
      apply hno
      rw [firstMet_any, List.any_eq_true]
      obtain ⟨j, hj, rfl⟩ := List.getElem_of_mem ha
      have hj2 : j < i := by rw [List.length_take] at hj; omega
      refine ⟨ns.getD j 0, List.mem_map.mpr ⟨j, List.mem_range.mpr hj2, rfl⟩, ?_⟩
      rw [getD_at (show j < ns.length by omega), getD_at (show i < ns.length by omega)]
      rw [List.getElem_take] at e
      rw [e]
      exact beq_self_eq_true _
/-- how many unlike ones -/
def cntU (ns : List Int) : Nat := (firstMet (fun j => ns.getD j 0) ns.length).length
theorem cntU_le (ns : List Int) : cntU ns ≤ ns.length := met_le _
theorem cntU_iff {ns : List Int} : cntU ns = ns.length ↔ ns.Nodup := by
  constructor
  · intro h
    have := met_full ns.length (Nat.le_refl _) h
    rwa [List.take_length] at this
  · intro h
    exact met_len h _ (Nat.le_refl _)
theorem call_setG {X : Cx} (hc : X.calm = true) : CallR X (.type "set") (fun xs H Q => ∃ (p : Addr) (ns : List Int), xs = [.ref p] ∧ (SqT X.K H p (ns.map V.int) ∨ SqL X.K H p (ns.map V.int)) ∧ ns.length ≤ 4000 ∧ ∀ l S, H l = none → Q (.ref l) (upd H l (.set S (cntU ns)))) := by
  intro pins s σ H xs us Q I r h
  obtain ⟨p, ns, rfl, hq, hn, q⟩ := h
  obtain ⟨u, rfl, rx⟩ := vals1 r
  cases rx
  rcases hq with hq | hq
  · obtain ⟨its, rv, pl, hz⟩ := I.tuple hq
    have hl := rv.length
    rw [List.length_map] at hl
    refine call_set_tup (ns := ns) (I.ok.hd hc) (show s.heap.IsTuple p its.toArray from pl) (by simpa using intsAre_of rv) (by rw [List.size_toArray]; unfold scanBound; omega) fun h' tk fl => ?_
    obtain ⟨f1, f2⟩ := fl
    have hz2 : its.toArray.size = ns.length := by rw [List.size_toArray]; exact hl.symm
    rw [hz2] at f1
    have k : ∀ b o, s.heap.get? b = some o → h'.get? b = some o := fun b o e => f2 b o (Heap.lt_size e) e
    exact ⟨.ref s.heap.objs.size, _, I.laid (o := .set _ (cntU ns)) k (Nat.le_refl _) f1, rfl, q _ _ I.fresh⟩
  · obtain ⟨its, rv, pl, hz⟩ := I.list hq
    have hl := rv.length
    rw [List.length_map] at hl
    refine call_set_lst (ns := ns) (I.ok.hd hc) pl.isList (by simpa using intsAre_of rv) (by rw [List.size_toArray]; unfold scanBound; omega) fun h' tk fl => ?_
    obtain ⟨f1, f2⟩ := fl
    have hz2 : its.toArray.size = ns.length := by rw [List.size_toArray]; exact hl.symm
    rw [hz2] at f1
    have k : ∀ b o, s.heap.get? b = some o → h'.get? b = some o := fun b o e => f2 b o (Heap.lt_size e) e
    exact ⟨.ref s.heap.objs.size, _, I.laid (o := .set _ (cntU ns)) k (Nat.le_refl _) f1, rfl, q _ _ I.fresh⟩
/-- (a, b, ..) = a list of that length -/
def gLst (K : PySem.W.Frag) (n : Nat) (t : TGs) : TG := fun v σ H Q => ∃ a xs, v = .ref a ∧ SqL K H a xs ∧ xs.length = n ∧ t xs σ H Q
theorem pg_lst {X : Cx} {es : List Expr} {k : Nat} {pos : Pos} {t : TGs} {n : Nat} (hc : X.calm = true) (h : PGs X es t)
    (hn : (assignEach es X.env).length = n := by rfl) (hst : (assignEach es X.env).findIdx? (·.1) = none := by rfl) : PG X (.Tuple es k pos) (gLst X.K n t) := by
  intro pins s σ H v u Q I r hw
  obtain ⟨a, xs, e1, hq, hl, hw⟩ := hw
  subst e1
  cases r
  obtain ⟨its, rv, pl, hz⟩ := I.list hq
  rw [assign_Tuple]
  refine wpAny_bind (wpAny_standAt ?_)
  unfold unpack
  have hsz : (assignEach es X.env).length = its.toArray.size := by rw [hn, ← hl, List.size_toArray]; exact rv.length
  rw [hsz, hst]
  refine wpAny_bind (wpAny_holding (unpack_lst (I.ok.hd hc) pl.isList fun h' hx => ?_))
  have I1 : Inv X pins σ H { s with heap := h' } := I.kept (t' := s.toks) fun b o e => hx b o (Nat.ne_of_lt (Heap.lt_size e)) e
  exact h pins _ σ H xs _ Q I1 (by simpa using rv) hw
end L2

end
section
set_option maxHeartbeats 3996000
namespace L2
open PySem PySem.Spec PyProof.Rows PySem.Builtin.Str
theorem sp_len' : (" " : Str).length = 1 := by decide +kernel
/-! ### lengths -/
def SL (ws : List Str) : Nat := (ws.map (·.length)).sum
theorem join_SL (ws : List Str) : (Str.join " " ws).length = SL ws + (ws.length - 1) := by
  rw [← StrLaws.glued_eq_join, size_glued, sp_len', Nat.mul_one]
  rfl
theorem split_SL (z : Str) : SL (Txt.split z " ") + ((Txt.split z " ").length - 1) = z.length := by
  rw [← join_SL, StrLaws.join_split]
theorem SL_append (a b : List Str) : SL (a ++ b) = SL a + SL b := by unfold SL; simp
theorem SL_mem : ∀ {ws : List Str} {w : Str}, w ∈ ws → w.length ≤ SL ws
  | [], _, h => by cases h
  | a :: ws, w, h => by
    have e : SL (a :: ws) = a.length + SL ws := by unfold SL; simp
    rw [e]
    rcases (List.mem_cons.mp h) with rfl | h
    · omega
    · have := SL_mem h
      omega
theorem SL_drop (ws : List Str) (n : Nat) : SL (ws.drop n) ≤ SL ws := by
  have := SL_append (ws.take n) (ws.drop n)
  rw [List.take_append_drop] at this
  omega
theorem split_le (z : Str) : (Txt.split z " ").length ≤ z.length + 1 := by
  have := split_SL z
  omega
/-- x.split(" "), any text -/
def rSplitG : V → List V → Hp → VK → Prop := fun x vs H Q => ∃ (z : Str), x = .str z ∧ vs = [.str " "] ∧ z.length ≤ 10000 ∧ ∀ l, H l = none → Q (.ref l) (upd H l (.lst ((Txt.split z " ").map V.str)))
theorem mt_splitG {X : Cx} : MtR X "str.split" rSplitG := by
  intro pins s σ H x vs v us Q I rx rv h
  obtain ⟨z, rfl, rfl, hz, q⟩ := h
  obtain ⟨t, rfl⟩ := rx
  obtain ⟨u, rfl, ru⟩ := rv.one
  obtain ⟨t2, rfl⟩ := ru
  have hsl := sizeLine_eq
  have hsp := split_le z
  have hone : ((" " : Str).length == 0) = false := by decide +kernel
  cases h1 : (decide (z.length < (" " : Str).length) || decide (strKind z < strKind (" " : Str)))
  · cases hf : (occurrences z " " 0 z.length (z.length + 1)).isEmpty
    · have hw : Txt.split z " " = partsBetween z (occurrences z " " 0 z.length (z.length + 1)) (" " : Str).length := by
        unfold Txt.split
        rw [if_neg (by rw [h1]; decide), if_neg (by rw [hf]; decide)]
      refine call_meets F.slot_str_split (typeIs_str _ _ _) F.entry_str_split (F.args_str_split_2 _ _) (meets_str_split_sep z " " t t2 h1 hone hf (by omega) (by rw [← hw]; omega)) ?_
      rw [← hw]
      exact ⟨.ref s.heap.objs.size, _, I.lnew (vals_from _ s.toks) (by rw [List.length_map]; omega), rfl, q _ I.fresh⟩
    · have hw : Txt.split z " " = [z] := by
        unfold Txt.split
        rw [if_neg (by rw [h1]; decide), if_pos hf]
      rw [hw] at q
      refine call_meets F.slot_str_split (typeIs_str _ _ _) F.entry_str_split (F.args_str_split_2 _ _) (meets_str_split_not_found z " " t t2 h1 hone hf) ?_
      exact ⟨.ref s.heap.objs.size, _, I.lnew (show Vals [V.str z] [Value.str z t] from .cons ⟨_, rfl⟩ .nil) (by show 1 ≤ sizeLine; omega), rfl, q _ I.fresh⟩
  · have hw : Txt.split z " " = [z] := by
      unfold Txt.split
      rw [if_pos h1]
    rw [hw] at q
    refine call_meets F.slot_str_split (typeIs_str _ _ _) F.entry_str_split (F.args_str_split_2 _ _) (meets_str_split_cannot_occur z " " t t2 h1) ?_
    exact ⟨.ref s.heap.objs.size, _, I.lnew (show Vals [V.str z] [Value.str z t] from .cons ⟨_, rfl⟩ .nil) (by show 1 ≤ sizeLine; omega), rfl, q _ I.fresh⟩
/-- == of tuples, or of flat values -/
theorem op_neU {X : Cx} (hu : X.A.units + 20 < cLine) : OpR X (compareOp .NotEq) (fun x y H Q => rEqD X.K true x y H Q ∨ rNe x y H Q) := (op_neD hu).or op_ne
end L2
namespace My
open PySem L2 PyProof.Rows PySem.Builtin.Str
section
variable {K : PySem.W.Frag}
/-! ### words that write numbers -/
def digB (c : Nat) : Bool := decide (48 ≤ c) && decide (c ≤ 57)
def isWr (m : Nat) (z : Str) : Bool := decide (1 ≤ z.length) && (decide (z.length ≤ m) && (z.cps.all digB && (decide (z = "0") || decide (z.cps.toList[0]? ≠ some 48))))
/-- the number that figures write -/
def numV (z : Str) : Int := ((z.cps.toList.foldl (fun acc c => acc * 10 + (c - 48)) 0 : Nat) : Int)
structure DigS (z : Str) : Prop where
  all : ∀ c ∈ z.cps.toList, 48 ≤ c ∧ c ≤ 57
  ne : z.cps.toList ≠ []
  len : z.length ≤ 640
theorem call_intD {X : Cx} : CallR X (.type "int") (fun xs H Q => ∃ z : Str, xs = [.str z] ∧ DigS z ∧ Q (.int (numV z)) H) := by
  intro pins s σ H xs us Q I r h
  obtain ⟨z, rfl, d, q⟩ := h
  obtain ⟨u, rfl, t, rfl⟩ := vals1 r
  exact PySem.W.KIN.call_text (PySem.intText_digits d.all d.ne (Nat.le_trans d.len (by decide))) d.len ⟨.int (numV z), H, I.tok _, ⟨_, rfl⟩, q⟩
structure OkW (z : Str) : Prop where
  d : DigS z
  lo : 0 ≤ numV z
  hi : numV z < 10000
  two : z.length ≤ 2 ↔ numV z < 100
theorem okW_iff {z : Str} (h : OkW z) : DigS z ∧ 0 ≤ numV z ∧ numV z < 10000 ∧ (z.length ≤ 2 ↔ numV z < 100) := ⟨h.d, h.lo, h.hi, h.two⟩
theorem wr_word {z : Str} (h : isWr 4 z = true) : OkW z := by
  unfold isWr at h
  simp only [Bool.and_eq_true, Bool.or_eq_true, decide_eq_true_eq] at h
  obtain ⟨h1, h2, h3, h4⟩ := h
  obtain ⟨⟨l⟩⟩ := z
  have h1 : 1 ≤ l.length := h1
  have h2 : l.length ≤ 4 := h2
  have h3 : ∀ x ∈ l, digB x = true := by simpa using h3
  have rg : ∀ x ∈ l, 48 ≤ x ∧ x ≤ 57 := fun x hx => by
    have := h3 x hx
    unfold digB at this
    simpa only [Bool.and_eq_true, decide_eq_true_eq] using this
  have hz : l.length = 1 ∨ l[0]? ≠ some 48 := by
    rcases h4 with h4 | h4
    · left
      have : (⟨⟨l⟩⟩ : Str).cps.size = 1 := by rw [h4]; rfl
      exact this
    · right
      exact h4
  have ds : DigS ⟨⟨l⟩⟩ := ⟨rg, by intro e; have e : l = [] := e; rw [e] at h1; simp at h1, by show l.length ≤ 640; omega⟩
  have key : ∀ n : Nat, l.foldl (fun acc c => acc * 10 + (c - 48)) 0 = n → n < 10000 ∧ (l.length ≤ 2 ↔ n < 100) := by
    intro n hn
    match l, h1, h2, rg, hz, hn with
    | [a], _, _, rg, _, hn =>
      have := rg a (by simp)
      simp only [List.foldl_cons, List.foldl_nil] at hn; simp only [List.length_cons, List.length_nil]; omega
    | [a, b], _, _, rg, hz, hn =>
      have := rg a (by simp)
      have := rg b (by simp)
      simp only [List.foldl_cons, List.foldl_nil] at hn; simp only [List.length_cons, List.length_nil]; omega
    | [a, b, c], _, _, rg, hz, hn =>
      have := rg a (by simp)
      have := rg b (by simp)
      have := rg c (by simp)
      have h48 : a ≠ 48 := by rintro rfl; simp at hz
      simp only [List.foldl_cons, List.foldl_nil] at hn; simp only [List.length_cons, List.length_nil]; omega
    | [a, b, c, f], _, _, rg, hz, hn =>
      have := rg a (by simp)
      have := rg b (by simp)
      have := rg c (by simp)
      have := rg f (by simp)
      have h48 : a ≠ 48 := by rintro rfl; simp at hz
      simp only [List.foldl_cons, List.foldl_nil] at hn; simp only [List.length_cons, List.length_nil]; omega
    | (_ :: _ :: _ :: _ :: _ :: r), _, h2, _, _, _ => simp at h2
  obtain ⟨k1, k2⟩ := key _ rfl
  refine ⟨ds, ?_, ?_, ?_⟩
  · exact Int.natCast_nonneg _
  · show ((l.foldl (fun acc c => acc * 10 + (c - 48)) 0 : Nat) : Int) < 10000
    omega
  · show l.length ≤ 2 ↔ ((l.foldl (fun acc c => acc * 10 + (c - 48)) 0 : Nat) : Int) < 100
    omega
theorem wr_two {z : Str} : isWr 2 z = (isWr 4 z && decide (z.length ≤ 2)) := by
  unfold isWr
  by_cases h : z.length ≤ 2
  · rw [decide_eq_true h, decide_eq_true (show z.length ≤ 4 by omega), Bool.and_true]
  · rw [decide_eq_false h]
    simp
theorem dig128 : (List.range 128).all (fun c => Unicode.isDigit c == digB c) = true := by decide +kernel
theorem dig_ascii {c : Nat} (h : c < 128) : Unicode.isDigit c = digB c := by simpa using List.all_eq_true.mp dig128 c (List.mem_range.mpr h)
theorem digs_ascii {z : Str} (h : z.cps.all (· < 128) = true) : z.cps.all Unicode.isDigit = z.cps.all digB := by
  rw [Array.all_eq_true'] at h
  rw [Bool.eq_iff_iff, Array.all_eq_true', Array.all_eq_true']
  constructor
  · intro g x hx
    rw [← dig_ascii (by simpa using h x hx)]
    exact g x hx
  · intro g x hx
    rw [dig_ascii (by simpa using h x hx)]
    exact g x hx
theorem digs_low {z : Str} (h : z.cps.all digB = true) : z.cps.all (· < 128) = true := by
  rw [Array.all_eq_true'] at h ⊢
  intro x hx
  have := h x hx
  unfold digB at this
  simp only [Bool.and_eq_true, decide_eq_true_eq] at this
  simp
  omega
/-! ### codes -/
def codeB (p k : Int) (pl : List Int) : Bool := primesL.contains p && (decide (1 ≤ k) && (decide (k ≤ 5) && (decide (k ≤ pl.length) && (decide (pl.length ≤ 16) && (pl.all (fun x => decide (0 ≤ x) && decide (x < p)) && decide pl.Nodup)))))
theorem codeB_iff {p k : Int} {pl : List Int} : codeB p k pl = true ↔ CodeOk 5 16 p k pl := by
  unfold codeB
  simp only [Bool.and_eq_true, decide_eq_true_eq, List.contains_iff_mem, List.all_eq_true]
  constructor
  · rintro ⟨h1, h2, h3, h4, h5, h6, h7⟩
    exact { pr := h1, k1 := h2, kk := h3, kl := h4, ln := by omega, rg := h6, nd := h7 }
  · intro h
    have := h.ln
    exact ⟨h.pr, h.k1, h.kk, h.kl, by omega, h.rg, h.nd⟩
def readW : List Str → Option (Int × Int × List Int)
  | a :: b :: c :: r => if (decide (c = ":") && ((a :: b :: r).all (isWr 2) && codeB (numV a) (numV b) (r.map numV))) = true then some (numV a, numV b, r.map numV) else none
  | _ => none
def readC (z : Str) : Option (Int × Int × List Int) := readW (PySem.Txt.split z " ")
theorem small_word {z : Str} (h : isWr 4 z = true) (hv : numV z < 100) : isWr 2 z = true := by
  rw [wr_two, h, decide_eq_true ((okW_iff (wr_word h)).2.2.2.mpr hv)]
  rfl
/-- four figures are not needed -/
theorem four_two {a b c : Str} {r : List Str} : (decide (c = ":") && ((a :: b :: r).all (isWr 4) && codeB (numV a) (numV b) (r.map numV))) = (decide (c = ":") && ((a :: b :: r).all (isWr 2) && codeB (numV a) (numV b) (r.map numV))) := by
  rw [Bool.eq_iff_iff]
  simp only [Bool.and_eq_true, List.all_eq_true]
  constructor
  · rintro ⟨h1, h2, h3⟩
    refine ⟨h1, fun z hz => ?_, h3⟩
    have co := codeB_iff.mp h3
    have rp := prime_rng co.pr
    have kk := co.kk
    refine small_word (h2 z hz) ?_
    rcases (List.mem_cons.mp hz) with rfl | hz
    · omega
    rcases (List.mem_cons.mp hz) with rfl | hz
    · omega
    · have := co.rg (numV z) (List.mem_map_of_mem hz)
      omega
  · rintro ⟨h1, h2, h3⟩
    refine ⟨h1, fun z hz => ?_, h3⟩
    have := h2 z hz
    rw [wr_two, Bool.and_eq_true] at this
    exact this.1
theorem prime_test : (List.range 93).all (fun n => ((List.range (n + 3)).all fun i => decide (((n : Int) + 5) % (2 + (i : Nat) : Int) ≠ 0)) == primesL.contains ((n : Int) + 5)) = true := by decide +kernel
theorem prime_of {p : Int} (h0 : 5 ≤ p) (h1 : p ≤ 97) : ((List.range (p - 2).toNat).all fun i => decide (p % (2 + (i : Nat) : Int) ≠ 0)) = primesL.contains p := by
  have h := List.all_eq_true.mp prime_test (p - 5).toNat (List.mem_range.mpr (by omega))
  have e : (((p - 5).toNat : Nat) : Int) + 5 = p := by omega
  have e2 : (p - 5).toNat + 3 = (p - 2).toNat := by omega
  rw [e, e2] at h
  simpa using h
theorem prime_out {p : Int} (h : ¬ (5 ≤ p ∧ p ≤ 97)) : primesL.contains p = false := by
  cases e : primesL.contains p with
  | false => rfl
  | true =>
    have := prime_rng (List.contains_iff_mem.mp e)
    exact absurd ⟨by omega, by omega⟩ h
/-- a short test of primes -/
theorem prime_short : (List.range 93).all (fun n => ((List.range 8).all fun i => !(decide (((n : Int) + 5) % (2 + (i : Nat) : Int) = 0) && decide ((n : Int) + 5 ≠ 2 + (i : Nat)))) == primesL.contains ((n : Int) + 5)) = true := by decide +kernel
theorem prime_by {p : Int} (h0 : 5 ≤ p) (h1 : p ≤ 97) : ((List.range 8).all fun i => !(decide (p % (2 + (i : Nat) : Int) = 0) && decide (p ≠ 2 + (i : Nat)))) = primesL.contains p := by
  have h := List.all_eq_true.mp prime_short (p - 5).toNat (List.mem_range.mpr (by omega))
  have e : (((p - 5).toNat : Nat) : Int) + 5 = p := by omega
  rw [e] at h
  simpa using h
end
end My

end
section
set_option maxHeartbeats 3999000
namespace My
open PySem L2 PyProof.Rows
def top (i : Nat) : Stmt := PySem.Challenge.pw_slipcurve_k31_code_texts_spoilt.main.body.getD i (.Pass ⟨0, 0, 0, 0⟩)
abbrev s_is_whole : Stmt := top 5
abbrev s_is_number : Stmt := top 6
abbrev s_is_code_prime : Stmt := top 7
abbrev s_are_places : Stmt := top 8
abbrev s_is_code : Stmt := top 9
abbrev s_is_written : Stmt := top 24
abbrev s_read_code : Stmt := top 25
abbrev s_l_cell : Stmt := top 27
abbrev s_l_draws : Stmt := top 28
abbrev s_l_number : Stmt := top 29
abbrev s_l_code : Stmt := top 30
abbrev s_l_spoilt : Stmt := top 31
abbrev s_l_read : Stmt := top 32
abbrev s_l_word : Stmt := top 33
abbrev s_l_told : Stmt := top 34
abbrev s_law : Stmt := top 35
structure Adr where
  SlipError : Addr
  TooFew : Addr
  NoCurve : Addr
  NoPaper : Addr
  NoPlace : Addr
  NoNumber : Addr
  Heard : Addr
  NotHeard : Addr
  NothingLeft : Addr
  NoText : Addr
  NoRow : Addr
  is_whole : Addr
  is_number : Addr
  is_code_prime : Addr
  are_places : Addr
  is_code : Addr
  is_written : Addr
  read_code : Addr
  l_cell : Addr
  l_draws : Addr
  l_number : Addr
  l_code : Addr
  l_spoilt : Addr
  l_read : Addr
  l_word : Addr
  l_told : Addr
  law : Addr
/-- what isinstance tells of an exception of the class at C -/
structure KW (K : PySem.W.Frag) (t : Adr) (C : Addr) (b0 b1 b2 b3 b4 b5 b6 b7 b8 b9 : Bool) : Prop where
  i0 : PySem.W.kitOne K (.ref C) (.ref t.TooFew) = some b0
  i1 : PySem.W.kitOne K (.ref C) (.ref t.NoCurve) = some b1
  i2 : PySem.W.kitOne K (.ref C) (.ref t.NoPaper) = some b2
  i3 : PySem.W.kitOne K (.ref C) (.ref t.NoPlace) = some b3
  i4 : PySem.W.kitOne K (.ref C) (.ref t.NoNumber) = some b4
  i5 : PySem.W.kitOne K (.ref C) (.ref t.Heard) = some b5
  i6 : PySem.W.kitOne K (.ref C) (.ref t.NotHeard) = some b6
  i7 : PySem.W.kitOne K (.ref C) (.ref t.NothingLeft) = some b7
  i8 : PySem.W.kitOne K (.ref C) (.ref t.NoText) = some b8
  i9 : PySem.W.kitOne K (.ref C) (.ref t.NoRow) = some b9
  iv : PySem.W.kitOne K (.ref C) (.type "ValueError") = some true
  xc : Xc K C
  sl : PySem.W.kitCls K (.ref C) (.ref t.SlipError) = some true
structure Txt (K : PySem.W.Frag) (mg : Str → Option Value) (t : Adr) : Prop where
  len_ : mg "len" = none
  range_ : mg "range" = none
  list_ : mg "list" = none
  tuple_ : mg "tuple" = none
  min_ : mg "min" = none
  max_ : mg "max" = none
  isinstance_ : mg "isinstance" = none
  int_ : mg "int" = none
  bool_ : mg "bool" = none
  str_ : mg "str" = none
  set_ : mg "set" = none
  all_ : mg "all" = none
  ValueError_ : mg "ValueError" = none
  g_LEAST_P : ∃ q, mg "LEAST_P" = some (.int 5 q)
  g_GREATEST_P : ∃ q, mg "GREATEST_P" = some (.int 97 q)
  g_MOST_NUMBERS : ∃ q, mg "MOST_NUMBERS" = some (.int 5 q)
  g_MOST_PLACES : ∃ q, mg "MOST_PLACES" = some (.int 16 q)
  g_MOST_FIGURES : ∃ q, mg "MOST_FIGURES" = some (.int 4 q)
  x_SlipError : mg "SlipError" = some (.ref t.SlipError)
  x_TooFew : mg "TooFew" = some (.ref t.TooFew)
  x_NoCurve : mg "NoCurve" = some (.ref t.NoCurve)
  x_NoPaper : mg "NoPaper" = some (.ref t.NoPaper)
  x_NoPlace : mg "NoPlace" = some (.ref t.NoPlace)
  x_NoNumber : mg "NoNumber" = some (.ref t.NoNumber)
  x_Heard : mg "Heard" = some (.ref t.Heard)
  x_NotHeard : mg "NotHeard" = some (.ref t.NotHeard)
  x_NothingLeft : mg "NothingLeft" = some (.ref t.NothingLeft)
  x_NoText : mg "NoText" = some (.ref t.NoText)
  x_NoRow : mg "NoRow" = some (.ref t.NoRow)
  xi_NoText : PySem.W.excIn K t.NoText vErr "ValueError.__new__" = true
  kw_NoText : KW K t t.NoText false false false false false false false false true false
  sb : PySem.W.mroIn K t.SlipError (.type "BaseException") = some true
  m_is_whole : mg "is_whole" = some (.ref t.is_whole)
  m_is_number : mg "is_number" = some (.ref t.is_number)
  m_is_code_prime : mg "is_code_prime" = some (.ref t.is_code_prime)
  m_are_places : mg "are_places" = some (.ref t.are_places)
  m_is_code : mg "is_code" = some (.ref t.is_code)
  m_is_written : mg "is_written" = some (.ref t.is_written)
  m_read_code : mg "read_code" = some (.ref t.read_code)
  m_l_cell : mg "_law_cell" = some (.ref t.l_cell)
  m_l_draws : mg "_law_draws" = some (.ref t.l_draws)
  m_l_number : mg "_law_number" = some (.ref t.l_number)
  m_l_code : mg "_law_code" = some (.ref t.l_code)
  m_l_spoilt : mg "_law_spoilt" = some (.ref t.l_spoilt)
  m_l_read : mg "_law_read" = some (.ref t.l_read)
  m_l_word : mg "_law_word" = some (.ref t.l_word)
  m_l_told : mg "_law_told" = some (.ref t.l_told)
  f_is_whole : ∃ fd, Fun K "is_whole" "is_whole" s_is_whole t.is_whole fd ∧ Binds K fd ["thing"] []
  f_is_number : ∃ fd, Fun K "is_number" "is_number" s_is_number t.is_number fd ∧ Binds K fd ["p", "thing"] []
  f_is_code_prime : ∃ fd, Fun K "is_code_prime" "is_code_prime" s_is_code_prime t.is_code_prime fd ∧ Binds K fd ["thing"] []
  f_are_places : ∃ fd, Fun K "are_places" "are_places" s_are_places t.are_places fd ∧ Binds K fd ["p", "k", "thing"] []
  f_is_code : ∃ fd, Fun K "is_code" "is_code" s_is_code t.is_code fd ∧ Binds K fd ["thing"] []
  f_is_written : ∃ fd, Fun K "is_written" "is_written" s_is_written t.is_written fd ∧ Binds K fd ["word"] []
  f_read_code : ∃ fd, Fun K "read_code" "read_code" s_read_code t.read_code fd ∧ Binds K fd ["text"] []
  f_l_cell : ∃ fd, Fun K "_law_cell" "_law_cell" s_l_cell t.l_cell fd ∧ Binds K fd ["script", "k"] []
  f_l_draws : ∃ fd, Fun K "_law_draws" "_law_draws" s_l_draws t.l_draws fd ∧ Binds K fd ["script", "k", "many", "base"] []
  f_l_number : ∃ fd, Fun K "_law_number" "_law_number" s_l_number t.l_number fd ∧ Binds K fd ["word", "most"] []
  f_l_code : ∃ fd, Fun K "_law_code" "_law_code" s_l_code t.l_code fd ∧ Binds K fd ["script", "at", "most_k", "most_n"] []
  f_l_spoilt : ∃ fd, Fun K "_law_spoilt" "_law_spoilt" s_l_spoilt t.l_spoilt fd ∧ Binds K fd ["text", "row", "some"] []
  f_l_read : ∃ fd, Fun K "_law_read" "_law_read" s_l_read t.l_read fd ∧ Binds K fd ["text"] []
  f_l_word : ∃ fd, Fun K "_law_word" "_law_word" s_l_word t.l_word fd ∧ Binds K fd ["e"] []
  f_l_told : ∃ fd, Fun K "_law_told" "_law_told" s_l_told t.l_told fd ∧ Binds K fd ["text"] []
section
variable {P : Program} {w : World} {K : PySem.W.Frag} {mg : Str → Option Value} {base : Heap} {t : Adr}
theorem sc_l_cell : FnScope ["script", "k"] ["script", "k"] (defScope s_l_cell) := ⟨rfl, rfl, rfl, by decide +kernel, rfl, by decide +kernel, by decide +kernel⟩
theorem ok_l_cell {fd : FuncData} (T : Txt K mg t) (F : Fun K "_law_cell" "_law_cell" s_l_cell t.l_cell fd) : FnOk P w K mg base CX0 1 t.l_cell fd ["script", "k"] (sp_l_cell K) := by
  refine F.ok sc_l_cell (fun vs H Q E h => ?_) (fun cdv A outer s H vs Q E hr h => ?_)
  · obtain ⟨a, ns, k, rfl, _⟩ := h; rfl
  · obtain ⟨a, ns, k, rfl, hS, hlen, k0, k1, q⟩ := h
    refine ⟨_, (@pss_cons _ _ _ _ _ (@ps_if _ _ _ _ _ _ _ _ (@pt_cmpR _ _ _ _ _ _ _ _ (@op_lt _) (@L2.pv _ 1 _ _ (by rfl) (by first | exact Or.inl rfl | exact Or.inr (Or.inl rfl) | exact Or.inr (Or.inr rfl)) (by decide) (by decide)) (@pe_callB _ _ _ _ _ _ _ _ _ (@call_len_seq _) (by rfl) T.len_ boot_len (@pa_cons _ _ _ _ _ (@L2.pv _ 0 _ _ (by rfl) (by first | exact Or.inl rfl | exact Or.inr (Or.inl rfl) | exact Or.inr (Or.inr rfl)) (by decide) (by decide)) (@pa_nil _) (by rfl)) (by decide) (by decide) (by rfl) (by rfl)) (nomark _)) (@pss_one _ _ _ (@ps_ret _ _ _ _ (@pe_ix _ _ _ _ _ _ _ (@ix_list _) (@L2.pv _ 0 _ _ (by rfl) (by first | exact Or.inl rfl | exact Or.inr (Or.inl rfl) | exact Or.inr (Or.inr rfl)) (by decide) (by decide)) (@L2.pv _ 1 _ _ (by rfl) (by first | exact Or.inl rfl | exact Or.inr (Or.inl rfl) | exact Or.inr (Or.inr rfl)) (by decide) (by decide)) (fun _ _ => rfl)))) (@pss_nil _)) (by exact (@pss_cons _ _ _ _ _ (@ps_if _ _ _ _ _ _ _ _ (@pt_cmpR _ _ _ _ _ _ _ _ (@op_eq _) (@pe_callB _ _ _ _ _ _ _ _ _ (@call_len_seq _) (by rfl) T.len_ boot_len (@pa_cons _ _ _ _ _ (@L2.pv _ 0 _ _ (by rfl) (by first | exact Or.inl rfl | exact Or.inr (Or.inl rfl) | exact Or.inr (Or.inr rfl)) (by decide) (by decide)) (@pa_nil _) (by rfl)) (by decide) (by decide) (by rfl) (by rfl)) (@pe_int _ _ _ _) (nomark _)) (@pss_one _ _ _ (@ps_ret _ _ _ _ (@pe_op _ _ _ _ _ _ _ _ (@op_add _) (@pe_op _ _ _ _ _ _ _ _ (@op_mul _) (@pe_int _ _ _ _) (@L2.pv _ 1 _ _ (by rfl) (by first | exact Or.inl rfl | exact Or.inr (Or.inl rfl) | exact Or.inr (Or.inr rfl)) (by decide) (by decide))) (@pe_int _ _ _ _)))) (@pss_nil _)) (by exact (@pss_one _ _ _ (@ps_ret _ _ _ _ (@pe_op _ _ _ _ _ _ _ _ (@op_add _) (@pe_op _ _ _ _ _ _ _ _ (@op_mod _) (@pe_ix _ _ _ _ _ _ _ (@ix_list _) (@L2.pv _ 0 _ _ (by rfl) (by first | exact Or.inl rfl | exact Or.inr (Or.inl rfl) | exact Or.inr (Or.inr rfl)) (by decide) (by decide)) (@pe_op _ _ _ _ _ _ _ _ (@op_mod _) (@L2.pv _ 1 _ _ (by rfl) (by first | exact Or.inl rfl | exact Or.inr (Or.inl rfl) | exact Or.inr (Or.inr rfl)) (by decide) (by decide)) (@pe_callB _ _ _ _ _ _ _ _ _ (@call_len_seq _) (by rfl) T.len_ boot_len (@pa_cons _ _ _ _ _ (@L2.pv _ 0 _ _ (by rfl) (by first | exact Or.inl rfl | exact Or.inr (Or.inl rfl) | exact Or.inr (Or.inr rfl)) (by decide) (by decide)) (@pa_nil _) (by rfl)) (by decide) (by decide) (by rfl) (by rfl))) (fun _ _ => rfl)) (@pe_int _ _ _ _)) (@pe_op _ _ _ _ _ _ _ _ (@op_mul _) (@pe_int _ _ _ _) (@L2.pv _ 1 _ _ (by rfl) (by first | exact Or.inl rfl | exact Or.inr (Or.inl rfl) | exact Or.inr (Or.inr rfl)) (by decide) (by decide)))))))))), ?_⟩
    refine ⟨_, rfl, _, rfl, a, _, rfl, .inl hS, _, _, rfl, rfl, _, rfl, ?_⟩; rw [List.length_map]
    refine ite2 (fun h => ?_) (fun h => ?_)
    · have h : k < (ns.length : Int) := by simpa using h
      obtain ⟨c, hc⟩ := at_ints k0 h
      exact ⟨_, rfl, _, rfl, a, _, k, _, rfl, rfl, hS, hc, q c⟩
    · have h : ¬ k < (ns.length : Int) := by simpa using h
      refine ⟨_, rfl, a, _, rfl, .inl hS, rfl, _, rfl, ?_⟩
      rw [List.length_map]
      refine ite2 (fun h2 => ?_) (fun h2 => ?_)
      · exact ⟨_, rfl, _, _, rfl, rfl, .inl ⟨by decide, by decide⟩, _, _, rfl, rfl, q _⟩
      · have h2 : ¬ V.int (ns.length : Int) = V.int 0 := by simpa using h2
        have hpos : 0 < (ns.length : Int) := by
          have : (ns.length : Int) ≠ 0 := fun z => h2 (by rw [z])
          omega
        have m0 := Int.emod_nonneg k (show (ns.length : Int) ≠ 0 by omega)
        have m1 := Int.emod_lt_of_pos k hpos
        obtain ⟨c, hc⟩ := at_ints m0 m1
        refine ⟨_, rfl, _, rfl, _, rfl, a, _, rfl, .inl hS, _, _, rfl, rfl, by rw [List.length_map]; exact hpos, a, _, _, _, rfl, rfl, hS, by rw [List.length_map]; exact hc, _, _, rfl, rfl, (by show (0 : Int) < 1000003; decide), ?_⟩
        exact ⟨_, rfl, _, _, rfl, rfl, .inl ⟨by decide, by decide⟩, _, _, rfl, rfl, q _⟩

theorem sc_l_draws : FnScope ["script", "k", "many", "base", "primes", "cell", "rest", "row", "j", "mash"] ["script", "k", "many", "base"] (defScope s_l_draws) := ⟨rfl, rfl, rfl, by decide +kernel, rfl, by decide +kernel, by decide +kernel⟩
theorem ok_l_draws {fd : FuncData} (T : Txt K mg t) (F : Fun K "_law_draws" "_law_draws" s_l_draws t.l_draws fd) : FnOk P w K mg base CX0 2 t.l_draws fd ["script", "k", "many", "base"] (sp_l_draws K) := by
  obtain ⟨fd_l_cell, F_l_cell, b_l_cell⟩ := T.f_l_cell
  have G_l_cell := ok_l_cell (P := P) (w := w) (base := base) T F_l_cell
  refine F.ok sc_l_draws (fun vs H Q E h => ?_) (fun cdv A outer s H vs Q E hr h => ?_)
  · obtain ⟨a, ns, k, many, base, rfl, _⟩ := h
    rfl
  · obtain ⟨a, ns, k, many, bs, rfl, hS, hlen, k0, k1, m0, m1, b0, b1, q⟩ := h
    refine ⟨_, (@pss_cons _ _ _ _ _ (@ps_set _ _ (4) _ _ _ _ sc_l_draws.nd rfl (Or.inl rfl) (@pe_tup _ _ _ _ _ (@pa_cI _ _ _ _ _ _ (by exact (@pa_cI _ _ _ _ _ _ (by exact (@pa_cI _ _ _ _ _ _ (by exact (@pa_cI _ _ _ _ _ _ (by exact (@pa_cI _ _ _ _ _ _ (by exact (@pa_cons _ _ _ _ _ (@pe_int _ _ _ _) (@pa_cons _ _ _ _ _ (@pe_int _ _ _ _) (@pa_cons _ _ _ _ _ (@pe_int _ _ _ _) (@pa_nil _) (by rfl)) (by rfl)) (by rfl))))))))))))) (by rfl) (by first | exact .inl rfl | exact .inr rfl | assumption)) (by exact (@pss_cons _ _ _ _ _ (@ps_set _ _ (5) _ _ _ _ sc_l_draws.nd rfl (Or.inl rfl) (@pe_call _ _ _ _ _ _ _ _ _ _ _ _ _ _ _ _ G_l_cell (hr.mono (by decide)) rfl T.m_l_cell F_l_cell.kp b_l_cell .nil (@pass0 _) (@pa_cons _ _ _ _ _ (@L2.pv _ 0 _ _ (by rfl) (by first | exact Or.inl rfl | exact Or.inr (Or.inl rfl) | exact Or.inr (Or.inr rfl)) (by decide) (by decide)) (@pa_cons _ _ _ _ _ (@L2.pv _ 1 _ _ (by rfl) (by first | exact Or.inl rfl | exact Or.inr (Or.inl rfl) | exact Or.inr (Or.inr rfl)) (by decide) (by decide)) (@pa_nil _) (by rfl)) (by rfl)) (by decide) (by rfl) (by rfl)) (by rfl) (by first | exact .inl rfl | exact .inr rfl | assumption)) (by exact (@pss_cons _ _ _ _ _ (@ps_set _ _ (6) _ _ _ _ sc_l_draws.nd rfl (Or.inl rfl) (@pe_int _ _ _ _) (by rfl) (by first | exact .inl rfl | exact .inr rfl | assumption)) (by exact (@pss_cons _ _ _ _ _ (@ps_if _ _ _ _ _ _ _ _ (@pt_cmpR _ _ _ _ _ _ _ _ (@op_ge _) (@L2.pv _ 5 _ _ (by rfl) (by first | exact Or.inl rfl | exact Or.inr (Or.inl rfl) | exact Or.inr (Or.inr rfl)) (by decide) (by decide)) (@pe_op _ _ _ _ _ _ _ _ (@op_pow _) (@pe_int _ _ _ _) (@pe_int _ _ _ _)) (nomark _)) (@pss_one _ _ _ (@ps_set _ _ (6) _ _ _ _ sc_l_draws.nd rfl (Or.inl rfl) (@L2.pv _ 5 _ _ (by rfl) (by first | exact Or.inl rfl | exact Or.inr (Or.inl rfl) | exact Or.inr (Or.inr rfl)) (by decide) (by decide)) (by rfl) (by first | exact .inl rfl | exact .inr rfl | assumption))) (@pss_nil _)) (by exact (@pss_cons _ _ _ _ _ (@ps_set _ _ (7) _ _ _ _ sc_l_draws.nd rfl (Or.inl rfl) (@pe_lst _ _ _ _ (@pa_nil _)) (by rfl) (by first | exact .inl rfl | exact .inr rfl | assumption)) (by exact (@pss_cons _ _ _ _ _ (@ps_for _ _ _ _ _ _ _ _ PassesOwn.never rfl (@pi_range1 _ _ _ _ _ _ rfl T.range_ (@pa_cons _ _ _ _ _ (@L2.pv _ 2 _ _ (by rfl) (by first | exact Or.inl rfl | exact Or.inr (Or.inl rfl) | exact Or.inr (Or.inr rfl)) (by decide) (by decide)) (@pa_nil _) (by rfl)) (by rfl)) (@pg_name _ _ (8) _ sc_l_draws.nd rfl (Or.inl rfl) (by first | exact .inl rfl | exact .inr rfl | assumption)) (@pss_cons _ _ _ _ _ (@ps_set _ _ (9) _ _ _ _ sc_l_draws.nd rfl (Or.inl rfl) (@pe_op _ _ _ _ _ _ _ _ (@op_mul _) (@pe_op _ _ _ _ _ _ _ _ (@op_mod _) (@L2.pv _ 5 _ _ (by rfl) (by first | exact Or.inl rfl | exact Or.inr (Or.inl rfl) | exact Or.inr (Or.inr rfl)) (by decide) (by decide)) (@pe_ix _ _ _ _ _ _ _ (@ix_tup _) (@L2.pv _ 4 _ _ (by rfl) (by first | exact Or.inl rfl | exact Or.inr (Or.inl rfl) | exact Or.inr (Or.inr rfl)) (by decide) (by decide)) (@pe_op _ _ _ _ _ _ _ _ (@op_mod _) (@L2.pv _ 8 _ _ (by rfl) (by first | exact Or.inl rfl | exact Or.inr (Or.inl rfl) | exact Or.inr (Or.inr rfl)) (by decide) (by decide)) (@pe_int _ _ _ _)) (fun _ _ => rfl))) (@pe_op _ _ _ _ _ _ _ _ (@op_add _) (@pe_int _ _ _ _) (@pe_op _ _ _ _ _ _ _ _ (@op_mul _) (@pe_op _ _ _ _ _ _ _ _ (@op_mul _) (@pe_int _ _ _ _) (@L2.pv _ 8 _ _ (by rfl) (by first | exact Or.inl rfl | exact Or.inr (Or.inl rfl) | exact Or.inr (Or.inr rfl)) (by decide) (by decide))) (@L2.pv _ 8 _ _ (by rfl) (by first | exact Or.inl rfl | exact Or.inr (Or.inl rfl) | exact Or.inr (Or.inr rfl)) (by decide) (by decide))))) (by rfl) (by first | exact .inl rfl | exact .inr rfl | assumption)) (by exact (@pss_cons _ _ _ _ _ (@ps_set _ _ (9) _ _ _ _ sc_l_draws.nd rfl (Or.inl rfl) (@pe_op _ _ _ _ _ _ _ _ (@op_add _) (@pe_op _ _ _ _ _ _ _ _ (@op_add _) (@L2.pv _ 9 _ _ (by rfl) (by first | exact Or.inl rfl | exact Or.inr (Or.inl rfl) | exact Or.inr (Or.inr rfl)) (by decide) (by decide)) (@pe_op _ _ _ _ _ _ _ _ (@op_mul _) (@pe_op _ _ _ _ _ _ _ _ (@op_mul _) (@pe_int _ _ _ _) (@pe_op _ _ _ _ _ _ _ _ (@op_add _) (@L2.pv _ 8 _ _ (by rfl) (by first | exact Or.inl rfl | exact Or.inr (Or.inl rfl) | exact Or.inr (Or.inr rfl)) (by decide) (by decide)) (@pe_int _ _ _ _))) (@pe_op _ _ _ _ _ _ _ _ (@op_add _) (@L2.pv _ 8 _ _ (by rfl) (by first | exact Or.inl rfl | exact Or.inr (Or.inl rfl) | exact Or.inr (Or.inr rfl)) (by decide) (by decide)) (@pe_int _ _ _ _)))) (@pe_op _ _ _ _ _ _ _ _ (@op_mul _) (@pe_int _ _ _ _) (@L2.pv _ 1 _ _ (by rfl) (by first | exact Or.inl rfl | exact Or.inr (Or.inl rfl) | exact Or.inr (Or.inr rfl)) (by decide) (by decide)))) (by rfl) (by first | exact .inl rfl | exact .inr rfl | assumption)) (by exact (@pss_cons _ _ _ _ _ (@ps_set _ _ (9) _ _ _ _ sc_l_draws.nd rfl (Or.inl rfl) (@pe_op _ _ _ _ _ _ _ _ (@op_mod _) (@L2.pv _ 9 _ _ (by rfl) (by first | exact Or.inl rfl | exact Or.inr (Or.inl rfl) | exact Or.inr (Or.inr rfl)) (by decide) (by decide)) (@pe_ix _ _ _ _ _ _ _ (@ix_tup _) (@L2.pv _ 4 _ _ (by rfl) (by first | exact Or.inl rfl | exact Or.inr (Or.inl rfl) | exact Or.inr (Or.inr rfl)) (by decide) (by decide)) (@pe_op _ _ _ _ _ _ _ _ (@op_mod _) (@pe_op _ _ _ _ _ _ _ _ (@op_add _) (@pe_op _ _ _ _ _ _ _ _ (@op_mul _) (@pe_int _ _ _ _) (@L2.pv _ 8 _ _ (by rfl) (by first | exact Or.inl rfl | exact Or.inr (Or.inl rfl) | exact Or.inr (Or.inr rfl)) (by decide) (by decide))) (@L2.pv _ 1 _ _ (by rfl) (by first | exact Or.inl rfl | exact Or.inr (Or.inl rfl) | exact Or.inr (Or.inr rfl)) (by decide) (by decide))) (@pe_int _ _ _ _)) (fun _ _ => rfl))) (by rfl) (by first | exact .inl rfl | exact .inr rfl | assumption)) (by exact (@pss_cons _ _ _ _ _ (@ps_set _ _ (9) _ _ _ _ sc_l_draws.nd rfl (Or.inl rfl) (@pe_op _ _ _ _ _ _ _ _ (@op_mod _) (@pe_op _ _ _ _ _ _ _ _ (@op_mul _) (@pe_op _ _ _ _ _ _ _ _ (@op_mul _) (@L2.pv _ 9 _ _ (by rfl) (by first | exact Or.inl rfl | exact Or.inr (Or.inl rfl) | exact Or.inr (Or.inr rfl)) (by decide) (by decide)) (@L2.pv _ 9 _ _ (by rfl) (by first | exact Or.inl rfl | exact Or.inr (Or.inl rfl) | exact Or.inr (Or.inr rfl)) (by decide) (by decide))) (@L2.pv _ 9 _ _ (by rfl) (by first | exact Or.inl rfl | exact Or.inr (Or.inl rfl) | exact Or.inr (Or.inr rfl)) (by decide) (by decide))) (@pe_ix _ _ _ _ _ _ _ (@ix_tup _) (@L2.pv _ 4 _ _ (by rfl) (by first | exact Or.inl rfl | exact Or.inr (Or.inl rfl) | exact Or.inr (Or.inr rfl)) (by decide) (by decide)) (@pe_op _ _ _ _ _ _ _ _ (@op_mod _) (@pe_op _ _ _ _ _ _ _ _ (@op_add _) (@L2.pv _ 8 _ _ (by rfl) (by first | exact Or.inl rfl | exact Or.inr (Or.inl rfl) | exact Or.inr (Or.inr rfl)) (by decide) (by decide)) (@pe_int _ _ _ _)) (@pe_int _ _ _ _)) (fun _ _ => rfl))) (by rfl) (by first | exact .inl rfl | exact .inr rfl | assumption)) (by exact (@pss_cons _ _ _ _ _ (@ps_if _ _ _ _ _ _ _ _ (@pt_cmpR _ _ _ _ _ _ _ _ (@op_gt _) (@L2.pv _ 6 _ _ (by rfl) (by first | exact Or.inl rfl | exact Or.inr (Or.inl rfl) | exact Or.inr (Or.inr rfl)) (by decide) (by decide)) (@pe_int _ _ _ _) (nomark _)) (@pss_one _ _ _ (@ps_set _ _ (9) _ _ _ _ sc_l_draws.nd rfl (Or.inl rfl) (@L2.pv _ 6 _ _ (by rfl) (by first | exact Or.inl rfl | exact Or.inr (Or.inl rfl) | exact Or.inr (Or.inr rfl)) (by decide) (by decide)) (by rfl) (by first | exact .inl rfl | exact .inr rfl | assumption))) (@pss_nil _)) (by exact (@pss_cons _ _ _ _ _ (@ps_expr _ _ _ _ (@pe_bm _ _ _ _ _ _ _ _ _ _ _ _ PySem.F.plainAttrs_list PySem.F.slot_list_append PySem.F.type_list_append (@mt_append _) (@L2.pv _ 7 _ _ (by rfl) (by first | exact Or.inl rfl | exact Or.inr (Or.inl rfl) | exact Or.inr (Or.inr rfl)) (by decide) (by decide)) (@pa_cons _ _ _ _ _ (@pe_op _ _ _ _ _ _ _ _ (@op_mod _) (@L2.pv _ 9 _ _ (by rfl) (by first | exact Or.inl rfl | exact Or.inr (Or.inl rfl) | exact Or.inr (Or.inr rfl)) (by decide) (by decide)) (@L2.pv _ 3 _ _ (by rfl) (by first | exact Or.inl rfl | exact Or.inr (Or.inl rfl) | exact Or.inr (Or.inr rfl)) (by decide) (by decide))) (@pa_nil _) (by rfl)) (by rfl) (by rfl) (by rfl) (by rfl) (by rfl)) (by rfl)) (by exact (@pss_one _ _ _ (@ps_set _ _ (6) _ _ _ _ sc_l_draws.nd rfl (Or.inl rfl) (@pe_op _ _ _ _ _ _ _ _ (@op_fdiv _) (@L2.pv _ 6 _ _ (by rfl) (by first | exact Or.inl rfl | exact Or.inr (Or.inl rfl) | exact Or.inr (Or.inr rfl)) (by decide) (by decide)) (@L2.pv _ 3 _ _ (by rfl) (by first | exact Or.inl rfl | exact Or.inr (Or.inl rfl) | exact Or.inr (Or.inr rfl)) (by decide) (by decide))) (by rfl) (by first | exact .inl rfl | exact .inr rfl | assumption))))))))))))))) (by intro _; rfl)) (by exact (@pss_one _ _ _ (@ps_ret _ _ _ _ (@L2.pv _ 7 _ _ (by rfl) (by first | exact Or.inl rfl | exact Or.inr (Or.inl rfl) | exact Or.inr (Or.inr rfl)) (by decide) (by decide)))))))))))))))), ?_⟩
    refine ⟨by show 8 ≤ sizeLine; rw [sizeLine_eq]; decide, fun tp ht => ?_⟩
    have s1 : Same H (upd H tp (.tup prs8)) := same_upd ht
    refine ⟨_, rfl, _, rfl, a, ns, k, rfl, s1.seq hS, hlen, k0, k1, fun c => ?_⟩
    refine ⟨_, rfl, _, _, rfl, rfl, ⟨by decide, by decide, by decide⟩, _, _, rfl, rfl, _, rfl, ?_⟩
    refine ite2 (fun _ => ⟨_, rfl, ?_⟩) (fun _ => ?_)
    all_goals
      refine ⟨Nat.zero_le _, fun l hl => ?_⟩
      have hln : H l = none := Same.free s1 hl
      have htl : tp ≠ l := ne_of_none upd_same hl
      refine ⟨_, rfl, many, rfl, by omega, by omega, for_range (lo := 0) (n := many.toNat) (fun i σ H' => ∃ (r : Int) (v8 v9 : Option V) (ds : List Int), σ = [some (.ref a), some (.int k), some (.int many), some (.int bs), some (.ref tp), some (.int c), some (.int r), some (.ref l), v8, v9] ∧ DrawsOk i bs ds ∧ Same H H' ∧ H' tp = some (.tup prs8) ∧ H' l = some (.lst (ds.map V.int)))
        ⟨_, none, none, [], rfl, ⟨rfl, by simp⟩, same_upd' s1 hln, by rw [upd_ne htl]; exact upd_same, upd_same⟩ ?_ ?_⟩
      · rintro i σ H2 hi ⟨r, v8, v9, ds, rfl, hd, s2, htp, hrow⟩
        obtain ⟨q1, e1, q1p, q1l⟩ := at_prs8m (0 + (i : Int))
        obtain ⟨q2, e2, q2p, q2l⟩ := at_prs8m (3 * (0 + (i : Int)) + k)
        obtain ⟨q3, e3, q3p, q3l⟩ := at_prs8m (0 + (i : Int) + 5)
        have c1 := Int.emod_nonneg c (show q1 ≠ 0 by omega)
        have c2 := Int.emod_lt_of_pos c q1p
        have hi' : (i : Int) < 1000 := by omega
        refine ⟨_, rfl, _, rfl, _, rfl, _, _, rfl, rfl, (by show (0 : Int) < 8; decide), tp, _, _, _, rfl, rfl, SqT.of htp, e1, _, _, rfl, rfl, q1p, _, rfl, _, _, rfl, rfl, .inl ⟨by decide, by decide⟩, _, rfl, _, _, rfl, rfl, .inl ⟨by omega, by omega⟩, _, _, rfl, rfl, _, _, rfl, rfl, .inl ⟨by omega, by omega⟩, ?_⟩
        refine ⟨_, rfl, _, rfl, _, _, rfl, rfl, _, _, rfl, rfl, .inl ⟨by decide, by decide⟩, _, rfl, _, _, rfl, rfl, _, _, rfl, rfl, .inl ⟨by omega, by omega⟩, _, _, rfl, rfl, _, rfl, _, _, rfl, rfl, .inl ⟨by decide, by decide⟩, _, _, rfl, rfl, ?_⟩
        refine ⟨_, rfl, _, rfl, _, rfl, _, _, rfl, rfl, .inl ⟨by decide, by decide⟩, _, rfl, _, _, rfl, rfl, _, _, rfl, rfl, (by show (0 : Int) < 8; decide), tp, _, _, _, rfl, rfl, SqT.of htp, e2, _, _, rfl, rfl, q2p, ?_⟩
        generalize c % q1 * (48271 + 2 * (0 + (i : Int)) * (0 + (i : Int))) + 7919 * (0 + (i : Int) + 1) * (0 + (i : Int) + 1) + 104729 * k = ms
        have d1 := Int.emod_nonneg ms (show q2 ≠ 0 by omega)
        have d2 := Int.emod_lt_of_pos ms q2p
        refine ⟨_, rfl, _, rfl, _, _, rfl, rfl, .inl ⟨by omega, by omega⟩, _, rfl, _, _, rfl, rfl, .inr ⟨by omega, by omega⟩, _, rfl, _, rfl, _, _, rfl, rfl, _, _, rfl, rfl, (by show (0 : Int) < 8; decide), tp, _, _, _, rfl, rfl, SqT.of htp, e3, _, _, rfl, rfl, q3p, ?_⟩
        refine ⟨_, rfl, _, _, rfl, rfl, _, rfl, ?_⟩
        have hdl := hd.1
        refine ite2 (fun _ => ⟨_, rfl, ?_⟩) (fun _ => ?_)
        all_goals
          refine ⟨_, rfl, .inl ⟨rfl, _, SqL.of hrow⟩, _, rfl, _, rfl, _, _, rfl, rfl, b0, l, _, _, rfl, rfl, hrow, small_line (by rw [List.length_map]; omega), ?_⟩
          refine ⟨_, rfl, _, rfl, _, _, rfl, rfl, ⟨b0, b1⟩, ?_⟩
          refine ⟨_, _, _, ds ++ [_], rfl, ⟨by rw [List.length_append, hdl]; rfl, fun d hm => ?_⟩, same_upd' s2 hln, by rw [upd_ne htl]; exact htp, by rw [upd_same, List.map_append]; rfl⟩; rcases List.mem_append.mp hm with hm | hm
          · exact hd.2 d hm
          · have e := List.mem_singleton.mp hm
            rw [e]
            exact ⟨Int.emod_nonneg _ (by omega), Int.emod_lt_of_pos _ b0⟩
      · rintro σ H2 ⟨r, v8, v9, ds, rfl, hd, s2, htp, hrow⟩
        exact ⟨_, rfl, q l ds H2 hln s2 hd hrow⟩
theorem sc_l_code : FnScope ["script", "at", "most_k", "most_n", "plan", "primes", "p", "k", "many", "left"] ["script", "at", "most_k", "most_n"] (defScope s_l_code) := ⟨rfl, rfl, rfl, by decide +kernel, rfl, by decide +kernel, by decide +kernel⟩
theorem ok_l_code {fd : FuncData} (T : Txt K mg t) (F : Fun K "_law_code" "_law_code" s_l_code t.l_code fd) : FnOk P w K mg base CX0 3 t.l_code fd ["script", "at", "most_k", "most_n"] (sp_l_code K) := by
  obtain ⟨fd_l_draws, F_l_draws, b_l_draws⟩ := T.f_l_draws
  have G_l_draws := ok_l_draws (P := P) (w := w) (base := base) T F_l_draws
  refine F.ok sc_l_code (fun vs H Q E h => ?_) (fun cdv A outer s H vs Q E hr h => ?_)
  · obtain ⟨a, ns, at', mk, mn, rfl, _⟩ := h
    rfl
  · obtain ⟨a, ns, at', mk, mn, rfl, hS, hlen, a0, a1, k1, k5, kn, n16, q⟩ := h
    refine ⟨_, (@pss_cons _ _ _ _ _ (@ps_set _ _ (4) _ _ _ _ sc_l_code.nd rfl (Or.inr rfl) (@pe_call _ _ _ _ _ _ _ _ _ _ _ _ _ _ _ _ G_l_draws (hr.mono (by decide)) rfl T.m_l_draws F_l_draws.kp b_l_draws .nil (@pass0 _) (@pa_cons _ _ _ _ _ (@L2.pv _ 0 _ _ (by rfl) (by first | exact Or.inl rfl | exact Or.inr (Or.inl rfl) | exact Or.inr (Or.inr rfl)) (by decide) (by decide)) (by exact (@pa_cons _ _ _ _ _ (@L2.pv _ 1 _ _ (by rfl) (by first | exact Or.inl rfl | exact Or.inr (Or.inl rfl) | exact Or.inr (Or.inr rfl)) (by decide) (by decide)) (@pa_cons _ _ _ _ _ (@pe_int _ _ _ _) (@pa_cons _ _ _ _ _ (@pe_int _ _ _ _) (@pa_nil _) (by rfl)) (by rfl)) (by rfl))) (by rfl)) (by decide) (by rfl) (by rfl)) (by rfl) (by first | exact .inl rfl | exact .inr rfl | assumption)) (by exact (by exact (@pss_ints _ 5 _ _ _ _ _ _ _ [5, 7, 11, 13, 17, 19, 23, 29, 31, 37, 41, 43, 47, 53, 59, 61, 67, 71, 73, 79, 83, 89, 97] (by decide +kernel) sc_l_code.nd rfl (Or.inl rfl) (by first | exact .inl rfl | exact .inr rfl) (by exact (@pss_cons _ _ _ _ _ (@ps_set _ _ (6) _ _ _ _ sc_l_code.nd rfl (Or.inl rfl) (@pe_ix _ _ _ _ _ _ _ (@ix_list _) (@pe_lst _ _ _ _ (@pa_cons _ _ _ _ _ (@pe_ix _ _ _ _ _ _ _ (@ix_list _) (@L2.pv _ 5 _ _ (by rfl) (by first | exact Or.inl rfl | exact Or.inr (Or.inl rfl) | exact Or.inr (Or.inr rfl)) (by decide) (by decide)) (@pe_op _ _ _ _ _ _ _ _ (@op_mod _) (@pe_ix _ _ _ _ _ _ _ (@ix_list _) (@L2.pv _ 4 _ _ (by rfl) (by first | exact Or.inl rfl | exact Or.inr (Or.inl rfl) | exact Or.inr (Or.inr rfl)) (by decide) (by decide)) (@pe_int _ _ _ _) (fun _ _ => rfl)) (@pe_int _ _ _ _)) (fun _ _ => rfl)) (@pa_cons _ _ _ _ _ (@pe_ix _ _ _ _ _ _ _ (@ix_list _) (@L2.pv _ 5 _ _ (by rfl) (by first | exact Or.inl rfl | exact Or.inr (Or.inl rfl) | exact Or.inr (Or.inr rfl)) (by decide) (by decide)) (@pe_op _ _ _ _ _ _ _ _ (@op_mod _) (@pe_ix _ _ _ _ _ _ _ (@ix_list _) (@L2.pv _ 4 _ _ (by rfl) (by first | exact Or.inl rfl | exact Or.inr (Or.inl rfl) | exact Or.inr (Or.inr rfl)) (by decide) (by decide)) (@pe_int _ _ _ _) (fun _ _ => rfl)) (@pe_int _ _ _ _)) (fun _ _ => rfl)) (@pa_nil _) (by rfl)) (by rfl))) (@pe_op _ _ _ _ _ _ _ _ (@op_mod _) (@pe_ix _ _ _ _ _ _ _ (@ix_list _) (@L2.pv _ 4 _ _ (by rfl) (by first | exact Or.inl rfl | exact Or.inr (Or.inl rfl) | exact Or.inr (Or.inr rfl)) (by decide) (by decide)) (@pe_int _ _ _ _) (fun _ _ => rfl)) (@pe_int _ _ _ _)) (fun _ _ => rfl)) (by rfl) (by first | exact .inl rfl | exact .inr rfl | assumption)) (by exact (@pss_cons _ _ _ _ _ (@ps_set _ _ (7) _ _ _ _ sc_l_code.nd rfl (Or.inl rfl) (@pe_op _ _ _ _ _ _ _ _ (@op_add _) (@pe_int _ _ _ _) (@pe_op _ _ _ _ _ _ _ _ (@op_mod _) (@pe_ix _ _ _ _ _ _ _ (@ix_list _) (@L2.pv _ 4 _ _ (by rfl) (by first | exact Or.inl rfl | exact Or.inr (Or.inl rfl) | exact Or.inr (Or.inr rfl)) (by decide) (by decide)) (@pe_int _ _ _ _) (fun _ _ => rfl)) (@pe_callB _ _ _ _ _ _ _ _ _ (@call_min2 _ rfl) (by rfl) T.min_ boot_min (@pa_cons _ _ _ _ _ (@L2.pv _ 2 _ _ (by rfl) (by first | exact Or.inl rfl | exact Or.inr (Or.inl rfl) | exact Or.inr (Or.inr rfl)) (by decide) (by decide)) (@pa_cons _ _ _ _ _ (@L2.pv _ 6 _ _ (by rfl) (by first | exact Or.inl rfl | exact Or.inr (Or.inl rfl) | exact Or.inr (Or.inr rfl)) (by decide) (by decide)) (@pa_nil _) (by rfl)) (by rfl)) (by decide) (by decide) (by rfl) (by rfl)))) (by rfl) (by first | exact .inl rfl | exact .inr rfl | assumption)) (by exact (@pss_cons _ _ _ _ _ (@ps_set _ _ (8) _ _ _ _ sc_l_code.nd rfl (Or.inl rfl) (@pe_op _ _ _ _ _ _ _ _ (@op_add _) (@L2.pv _ 7 _ _ (by rfl) (by first | exact Or.inl rfl | exact Or.inr (Or.inl rfl) | exact Or.inr (Or.inr rfl)) (by decide) (by decide)) (@pe_op _ _ _ _ _ _ _ _ (@op_mod _) (@pe_ix _ _ _ _ _ _ _ (@ix_list _) (@L2.pv _ 4 _ _ (by rfl) (by first | exact Or.inl rfl | exact Or.inr (Or.inl rfl) | exact Or.inr (Or.inr rfl)) (by decide) (by decide)) (@pe_int _ _ _ _) (fun _ _ => rfl)) (@pe_op _ _ _ _ _ _ _ _ (@op_add _) (@pe_op _ _ _ _ _ _ _ _ (@op_sub _) (@pe_callB _ _ _ _ _ _ _ _ _ (@call_min2 _ rfl) (by rfl) T.min_ boot_min (@pa_cons _ _ _ _ _ (@L2.pv _ 3 _ _ (by rfl) (by first | exact Or.inl rfl | exact Or.inr (Or.inl rfl) | exact Or.inr (Or.inr rfl)) (by decide) (by decide)) (@pa_cons _ _ _ _ _ (@L2.pv _ 6 _ _ (by rfl) (by first | exact Or.inl rfl | exact Or.inr (Or.inl rfl) | exact Or.inr (Or.inr rfl)) (by decide) (by decide)) (@pa_nil _) (by rfl)) (by rfl)) (by decide) (by decide) (by rfl) (by rfl)) (@L2.pv _ 7 _ _ (by rfl) (by first | exact Or.inl rfl | exact Or.inr (Or.inl rfl) | exact Or.inr (Or.inr rfl)) (by decide) (by decide))) (@pe_int _ _ _ _)))) (by rfl) (by first | exact .inl rfl | exact .inr rfl | assumption)) (by exact (@pss_cons _ _ _ _ _ (@ps_set _ _ (9) _ _ _ _ sc_l_code.nd rfl (Or.inr rfl) (@pe_callTy _ _ _ _ _ _ _ _ _ (@call_list_rng _ rfl) (by rfl) T.list_ boot_list (@pa_cons _ _ _ _ _ (@pe_callTy _ _ _ _ _ _ _ _ _ (@call_range1 _) (by rfl) T.range_ boot_range (@pa_cons _ _ _ _ _ (@L2.pv _ 6 _ _ (by rfl) (by first | exact Or.inl rfl | exact Or.inr (Or.inl rfl) | exact Or.inr (Or.inr rfl)) (by decide) (by decide)) (@pa_nil _) (by rfl)) (by decide) (by decide) (by rfl) (by rfl)) (@pa_nil _) (by rfl)) (by decide) (by decide) (by rfl) (by rfl)) (by rfl) (by first | exact .inl rfl | exact .inr rfl | assumption)) (by exact (@pss_one _ _ _ (@ps_ret _ _ _ _ (@pe_tup _ _ _ _ _ (@pa_cons _ _ _ _ _ (@L2.pv _ 6 _ _ (by rfl) (by first | exact Or.inl rfl | exact Or.inr (Or.inl rfl) | exact Or.inr (Or.inr rfl)) (by decide) (by decide)) (@pa_cons _ _ _ _ _ (@L2.pv _ 7 _ _ (by rfl) (by first | exact Or.inl rfl | exact Or.inr (Or.inl rfl) | exact Or.inr (Or.inr rfl)) (by decide) (by decide)) (@pa_cons _ _ _ _ _ (@pe_callTy _ _ _ _ _ _ _ _ _ (@call_tuple_of _) (by rfl) T.tuple_ boot_tuple (@pa_cons _ _ _ _ _ (@pe_comp _ _ _ _ _ _ _ _ _ _ _ _ _ (CompSc.of (N' := ["j", "left", "plan"]) (ix := [none, some 9, some 4]) (defScope s_l_code) ["script", "at", "most_k", "most_n", "plan", "primes", "p", "k", "many", "left"] rfl rfl (by decide +kernel)) rfl (@gk_name _ _ rfl) (@pi_range1 _ _ _ _ _ _ rfl T.range_ (@pa_cons _ _ _ _ _ (@L2.pv _ 8 _ _ (by rfl) (by first | exact Or.inl rfl | exact Or.inr (Or.inl rfl) | exact Or.inr (Or.inr rfl)) (by decide) (by decide)) (@pa_nil _) (by rfl)) (by rfl)) (fun _ _ _ _ => (@pg_name _ _ (0) _ (show (["j", "left", "plan"] : List Str).Nodup by decide +kernel) rfl (Or.inl rfl) (by first | exact .inl rfl | exact .inr rfl | assumption))) (fun _ _ _ _ => (@pifs_nil _)) (fun _ _ _ _ => (@pe_bmK _ (K) _ _ _ _ _ _ _ _ _ _ _ rfl PySem.F.plainAttrs_list PySem.F.slot_list_pop PySem.F.type_list_pop (@mt_popAt _) (@L2.pv _ 1 _ _ (by rfl) (by first | exact Or.inl rfl | exact Or.inr (Or.inl rfl) | exact Or.inr (Or.inr rfl)) (by decide) (by decide)) (@pa_cons _ _ _ _ _ (@pe_op _ _ _ _ _ _ _ _ (@op_mod _) (@pe_ix _ _ _ _ _ _ _ (@ix_listK _ (K) rfl) (@L2.pv _ 2 _ _ (by rfl) (by first | exact Or.inl rfl | exact Or.inr (Or.inl rfl) | exact Or.inr (Or.inr rfl)) (by decide) (by decide)) (@pe_op _ _ _ _ _ _ _ _ (@op_add _) (@pe_int _ _ _ _) (@L2.pv _ 0 _ _ (by rfl) (by first | exact Or.inl rfl | exact Or.inr (Or.inl rfl) | exact Or.inr (Or.inr rfl)) (by decide) (by decide))) (fun _ _ => rfl)) (@pe_callB _ _ _ _ _ _ _ _ _ (@call_len_seqK _ (K) rfl) (by rfl) T.len_ boot_len (@pa_cons _ _ _ _ _ (@L2.pv _ 1 _ _ (by rfl) (by first | exact Or.inl rfl | exact Or.inr (Or.inl rfl) | exact Or.inr (Or.inr rfl)) (by decide) (by decide)) (@pa_nil _) (by rfl)) (by decide) (by decide) (by rfl) (by rfl))) (@pa_nil _) (by rfl)) (by rfl) (by rfl) (by rfl) (by rfl) (by rfl))) (by intro _; rfl)) (@pa_nil _) (by rfl)) (by decide) (by decide) (by rfl) (by rfl)) (@pa_nil _) (by rfl)) (by rfl)) (by rfl)))))))))))))))))), ?_⟩
    refine ⟨_, rfl, _, rfl, a, ns, at', 20, 27720, rfl, hS, hlen, a0, a1, by decide, by decide, by decide, by decide, fun l ds H1 hl s1 hd hpl => ?_⟩
    have hdl : ds.length = 20 := hd.1
    have dat : ∀ m : Int, 0 ≤ m → m < 20 → ∃ c : Int, atI (ds.map V.int) m = some (.int c) := fun m h0 h1 => at_ints h0 (by omega)
    refine ⟨by show 23 ≤ sizeLine; rw [sizeLine_eq]; decide, fun pr hpr => ?_⟩
    have hlpr : l ≠ pr := ne_of_none hpl hpr
    obtain ⟨d0, ed0⟩ := dat 0 (by decide) (by decide)
    obtain ⟨d1, ed1⟩ := dat 1 (by decide) (by decide)
    obtain ⟨d2, ed2⟩ := dat 2 (by decide) (by decide)
    obtain ⟨d3, ed3⟩ := dat 3 (by decide) (by decide)
    have hp2 : (upd H1 pr (.lst (primesL.map V.int))) l = some (.lst (ds.map V.int)) := by rw [upd_ne hlpr]; exact hpl
    obtain ⟨p1, mp1, ep1⟩ := at_mem (ns := primesL) (k := d0 % 23) (Int.emod_nonneg _ (by decide)) (Int.emod_lt_of_pos _ (by decide))
    obtain ⟨p2, mp2, ep2⟩ := at_mem (ns := primesL) (k := d0 % 3) (Int.emod_nonneg _ (by decide)) (by have := Int.emod_lt_of_pos d0 (show (0 : Int) < 3 by decide); have e : (primesL.length : Int) = 23 := rfl; omega)
    obtain ⟨p, ep, hpp⟩ := at_two (x := p1) (y := p2) (m := d1 % 2) (Int.emod_nonneg _ (by decide)) (Int.emod_lt_of_pos _ (by decide))
    have mp : p ∈ primesL := by rcases hpp with e | e <;> rw [e] <;> assumption
    have rp := prime_rng mp
    refine ⟨_, rfl, _, rfl, l, _, _, _, rfl, rfl, SqL.of hp2, ed0, _, _, rfl, rfl, (by show (0 : Int) < 23; decide), pr, _, _, _, rfl, rfl, SqL.of upd_same, ep1,
      _, rfl, _, rfl, l, _, _, _, rfl, rfl, SqL.of hp2, ed0, _, _, rfl, rfl, (by show (0 : Int) < 3; decide), pr, _, _, _, rfl, rfl, SqL.of upd_same, ep2, two_le_line, fun l2 hl2 => ?_⟩
    have hll2 : l ≠ l2 := ne_of_none hp2 hl2
    have hp3 : (upd (upd H1 pr (.lst (primesL.map V.int))) l2 (.lst [.int p1, .int p2])) l = some (.lst (ds.map V.int)) := by rw [upd_ne hll2]; exact hp2
    refine ⟨_, rfl, l, _, _, _, rfl, rfl, SqL.of hp3, ed1, _, _, rfl, rfl, (by show (0 : Int) < 2; decide), l2, _, _, _, rfl, rfl, SqL.of upd_same, ep, ?_⟩
    -- k
    have hm1 : (0 : Int) < (if p < mk then p else mk) := by split <;> omega
    have hm2 : (if p < mk then p else mk) ≤ mk := by split <;> omega
    have hm3 : (if p < mk then p else mk) ≤ p := by split <;> omega
    refine ⟨_, rfl, l, _, _, _, rfl, rfl, SqL.of hp3, ed2, _, rfl, _, rfl, _, _, rfl, _, _, rfl, rfl, hm1, _, _, rfl, rfl, ?_⟩
    generalize (if p < mk then p else mk) = mm at hm1 hm2 hm3 ⊢
    have hk0 := Int.emod_nonneg d2 (show mm ≠ 0 by omega)
    have hk1 := Int.emod_lt_of_pos d2 hm1
    -- many
    have hn1 : (if p < mn then p else mn) ≤ mn := by split <;> omega
    have hn2 : (if p < mn then p else mn) ≤ p := by split <;> omega
    have hn3 : mm ≤ (if p < mn then p else mn) := by split <;> omega
    refine ⟨_, rfl, _, rfl, l, _, _, _, rfl, rfl, SqL.of hp3, ed3, _, rfl, _, rfl, _, _, rfl, _, rfl, _, _, rfl, rfl, _, _, rfl, rfl, _, _, rfl, rfl, (by omega), _, _, rfl, rfl, ?_⟩
    generalize (if p < mn then p else mn) = nn at hn1 hn2 hn3 ⊢
    have hq0 := Int.emod_nonneg d3 (show nn - (1 + d2 % mm) + 1 ≠ 0 by omega)
    have hq1 := Int.emod_lt_of_pos d3 (show 0 < nn - (1 + d2 % mm) + 1 by omega)
    -- left
    refine ⟨_, rfl, p, rfl, fun r hr2 => ⟨r, p, rfl, upd_same, by omega, by omega, fun lf hlf => ?_⟩⟩
    have hlr : l ≠ r := ne_of_none hp3 hr2
    have hlf1 : l ≠ lf := by
      refine ne_of_none (H := upd (upd (upd H1 pr (.lst (primesL.map V.int))) l2 (.lst [.int p1, .int p2])) r (.rng 0 p)) (o := .lst (ds.map V.int)) ?_ hlf
      rw [upd_ne hlr]; exact hp3
    have sA : Same H (upd (upd H1 pr (.lst (primesL.map V.int))) l2 (.lst [.int p1, .int p2])) := (s1.trans (same_upd hpr)).trans (same_upd hl2)
    have sB := (sA.trans (same_upd (o := .rng 0 p) hr2)).trans (same_upd (o := .lst ((intsTo 0 p.toNat).map V.int)) hlf)
    have hlfH : H lf = none := (sA.trans (same_upd (o := .rng 0 p) hr2)).free hlf
    obtain ⟨nd0, rg0⟩ := intsTo_ok p
    refine ⟨_, rfl, _, rfl, _, rfl, _, rfl, by omega, by omega, comp_by (n := (1 + d2 % mm + d3 % (nn - (1 + d2 % mm) + 1)).toNat) (fun i ys H' => ∃ xs ls : List Int, ys = xs.map V.int ∧ xs.length = i ∧ Same H H' ∧ H' l = some (.lst (ds.map V.int)) ∧ H' lf = some (.lst (ls.map V.int)) ∧ ls.length + i = p.toNat ∧ (xs ++ ls).Nodup ∧ ∀ y ∈ xs ++ ls, 0 ≤ y ∧ y < p)
      ⟨[], intsTo 0 p.toNat, rfl, rfl, sB, by rw [upd_ne hlf1, upd_ne hlr]; exact hp3, upd_same, by rw [intsTo_length]; rfl, by simpa using nd0, by simpa using rg0⟩ (fun i ys H' hi _ => hi) (fun ys H' _ => Nat.le_refl _) ?_ ?_⟩
    · rintro i x ys H4 H5 hi ⟨xs, ls, rfl, hxl, s4, hpl4, hlf4, hll, nd, rg⟩ ⟨rfl, rfl⟩
      refine gY ?_
      obtain ⟨c, ec⟩ := dat (4 + (0 + (i : Int))) (by omega) (by omega)
      have lpos : 0 < ls.length := by omega
      have lm : ((ls.map V.int).length : Int) = (ls.length : Int) := by rw [List.length_map]
      have c0 := Int.emod_nonneg c (show (ls.length : Int) ≠ 0 by omega)
      have c1 := Int.emod_lt_of_pos c (show (0 : Int) < ls.length by omega)
      have hsl := sizeLine_eq
      obtain ⟨y, ey⟩ : ∃ y, ls[(c % (ls.length : Int)).toNat]? = some y := ⟨ls[(c % (ls.length : Int)).toNat]'(by omega), by simp⟩
      refine ⟨_, rfl, .inl ⟨rfl, _, SqL.of hlf4⟩, _, rfl, _, rfl, _, _, rfl, rfl, l, _, _, _, rfl, rfl, SqL.of hpl4, ec, _, rfl, lf, _, rfl, .inl (SqL.of hlf4), _, _, rfl, rfl, (by rw [lm]; omega), lf, _, _, (c % (ls.length : Int)).toNat, .int y, rfl, rfl, hlf4, ?_⟩
      rw [lm]
      refine ⟨by omega, by omega, by rw [List.length_map]; exact seqIndex_of c0 c1, by rw [List.getElem?_map, ey]; rfl, small_line (by rw [List.length_map]; omega), xs ++ [y], ls.eraseIdx (c % (ls.length : Int)).toNat, by rw [List.map_append]; rfl, by rw [List.length_append, hxl]; rfl, same_upd' s4 hlfH, by rw [upd_ne hlf1]; exact hpl4, by rw [upd_same, erase_map], ?_, move_ok ey nd rg⟩
      rw [List.length_eraseIdx]
      split <;> omega
    · rintro ys H4 D ⟨xs, ls, rfl, hxl, s4, hpl4, hlf4, hll, nd, rg⟩ hD
      refine ⟨D, _, rfl, .inl ⟨SqL.of upd_same, fun tt htt => ⟨by show 3 ≤ sizeLine; rw [sizeLine_eq]; decide, fun c hc => ?_⟩⟩⟩
      have s5 := (s4.trans (same_upd (o := .lst (xs.map V.int)) hD)).trans (same_upd (o := .tup (xs.map V.int)) htt)
      refine q c tt p _ xs _ (s5.free hc) (s5.trans (same_upd hc)) ⟨mp, by omega, by omega, by omega, by omega, (List.nodup_append.mp nd).1, fun y hy => rg y (List.mem_append_left _ hy)⟩ upd_same ?_
      rw [upd_ne (ne_of_none upd_same hc)]
      exact upd_same
theorem sc_is_whole : FnScope ["thing"] ["thing"] (defScope s_is_whole) := ⟨rfl, rfl, rfl, by decide +kernel, rfl, by decide +kernel, by decide +kernel⟩
theorem ok_is_whole {fd : FuncData} (T : Txt K mg t) (F : Fun K "is_whole" "is_whole" s_is_whole t.is_whole fd) : FnOk P w K mg base CX0 1 t.is_whole fd ["thing"] (sp_any_whole K) := by
  refine F.ok sc_is_whole (fun vs H Q E h => ?_) (fun cdv A outer s H vs Q E hr h => ?_)
  · obtain ⟨v, rfl, _⟩ := h
    rfl
  · obtain ⟨v, rfl, hv, q⟩ := h
    refine ⟨_, (@pss_one _ _ _ (@ps_ret _ _ _ _ (@pe_and _ _ _ _ _ _ _ (@pe_callB _ _ _ _ _ _ _ _ _ (@call_isinst _) (by rfl) T.isinstance_ boot_isinstance (@pa_cons _ _ _ _ _ (@L2.pv _ 0 _ _ (by rfl) (by first | exact Or.inl rfl | exact Or.inr (Or.inl rfl) | exact Or.inr (Or.inr rfl)) (by decide) (by decide)) (@pa_cons _ _ _ _ _ (@pe_bltn _ _ (.ty "int") _ _ rfl T.int_ boot_int rfl (by decide) (by decide)) (@pa_nil _) (by rfl)) (by rfl)) (by decide) (by decide) (by rfl) (by rfl)) (@pe_one _ _ _ _ _ (@pe_not _ _ _ _ (@pe_callB _ _ _ _ _ _ _ _ _ (@call_isinst _) (by rfl) T.isinstance_ boot_isinstance (@pa_cons _ _ _ _ _ (@L2.pv _ 0 _ _ (by rfl) (by first | exact Or.inl rfl | exact Or.inr (Or.inl rfl) | exact Or.inr (Or.inr rfl)) (by decide) (by decide)) (@pa_cons _ _ _ _ _ (@pe_bltn _ _ (.ty "bool") _ _ rfl T.bool_ boot_bool rfl (by decide) (by decide)) (@pa_nil _) (by rfl)) (by rfl)) (by decide) (by decide) (by rfl) (by rfl))))))), ?_⟩
    obtain ⟨ty, ht, hi, hb, _⟩ := any_ty (K := K) hv
    refine ⟨_, rfl, _, _, _, _, rfl, ht, hi, _, rfl, ?_⟩
    refine ite2 (fun h => ⟨_, rfl, _, _, _, _, rfl, ht, hb, _, rfl, ?_⟩) (fun h => ?_)
    · have e : isW v = !isB v := by cases v <;> simp_all [isI, isB, isW]
      rw [← e]
      exact q
    · have e : isW v = false := by cases v <;> simp_all [isI, isB, isW]
      rw [← e]
      exact q
theorem sc_is_number : FnScope ["p", "thing"] ["p", "thing"] (defScope s_is_number) := ⟨rfl, rfl, rfl, by decide +kernel, rfl, by decide +kernel, by decide +kernel⟩
theorem ok_is_number {fd : FuncData} (T : Txt K mg t) (F : Fun K "is_number" "is_number" s_is_number t.is_number fd) : FnOk P w K mg base CX0 2 t.is_number fd ["p", "thing"] (sp_is_number K) := by
  obtain ⟨fd_is_whole, F_is_whole, b_is_whole⟩ := T.f_is_whole
  have G_is_whole := ok_is_whole (P := P) (w := w) (base := base) T F_is_whole
  refine F.ok sc_is_number (fun vs H Q E h => ?_) (fun cdv A outer s H vs Q E hr h => ?_)
  · obtain ⟨p, v, rfl, _⟩ := h
    rfl
  · obtain ⟨p, v, rfl, hv, q⟩ := h
    refine ⟨_, (@pss_one _ _ _ (@ps_ret _ _ _ _ (@pe_and _ _ _ _ _ _ _ (@pe_call _ _ _ _ _ _ _ _ _ _ _ _ _ _ _ _ G_is_whole (hr.mono (by decide)) rfl T.m_is_whole F_is_whole.kp b_is_whole .nil (@pass0 _) (@pa_cons _ _ _ _ _ (@L2.pv _ 1 _ _ (by rfl) (by first | exact Or.inl rfl | exact Or.inr (Or.inl rfl) | exact Or.inr (Or.inr rfl)) (by decide) (by decide)) (@pa_nil _) (by rfl)) (by decide) (by rfl) (by rfl)) (@pe_one _ _ _ _ _ (@pe_chain _ _ _ _ _ _ _ _ _ _ _ _ (@op_le _) (@op_lt _) (@pe_int _ _ _ _) (@L2.pv _ 1 _ _ (by rfl) (by first | exact Or.inl rfl | exact Or.inr (Or.inl rfl) | exact Or.inr (Or.inr rfl)) (by decide) (by decide)) (@L2.pv _ 0 _ _ (by rfl) (by first | exact Or.inl rfl | exact Or.inr (Or.inl rfl) | exact Or.inr (Or.inr rfl)) (by decide) (by decide)) (by with_unfolding_all rfl)))))), ?_⟩
    refine ⟨_, rfl, v, rfl, hv, _, rfl, ?_⟩
    refine ite2 (fun h => ?_) (fun h => ?_)
    · obtain ⟨i, rfl⟩ := isW_int h
      refine ⟨_, rfl, _, _, rfl, rfl, _, rfl, ?_⟩
      refine ite2 (fun h0 => ⟨_, rfl, _, _, rfl, rfl, ?_⟩) (fun h0 => ?_)
      · have e : numB p (.int i) = decide (i < p) := by simp only [numB]; rw [h0]; rfl
        rw [e] at q
        exact q
      · have e : numB p (.int i) = false := by simp only [numB]; rw [Bool.eq_false_iff.mpr h0]; rfl
        rw [e] at q
        exact q
    · have e : numB p v = false := by cases v <;> simp_all [numB, isW]
      rw [← e]
      exact q
end
end My

end
section
set_option maxHeartbeats 3999000
namespace My
open PySem L2 PyProof.Rows
section
variable {P : Program} {w : World} {K : PySem.W.Frag} {mg : Str → Option Value} {base : Heap} {t : Adr}
/-! ### is_code -/
def sp_is_code_prime' (K : PySem.W.Frag) : Sp := fun vs H Q _ => ∃ p : Int, vs = [.int p] ∧ ∀ H', Same H H' → Q (.bl (primesL.contains p)) H'
def placesB (p k : Int) (pl : List Int) : Bool := decide (k ≤ pl.length) && (decide (pl.length ≤ 16) && (pl.all (fun x => decide (0 ≤ x) && decide (x < p)) && decide pl.Nodup))
def sp_are_places' (K : PySem.W.Frag) : Sp := fun vs H Q _ => ∃ (p k : Int) (tt : Addr) (pl : List Int), vs = [.int p, .int k, .ref tt] ∧ H tt = some (.tup (pl.map V.int)) ∧ ∀ H', Same H H' → Q (.bl (placesB p k pl)) H'
def sp_is_code' (K : PySem.W.Frag) : Sp := fun vs H Q _ => ∃ (c tt : Addr) (p k : Int) (pl : List Int), vs = [.ref c] ∧ CodeAt H c tt p k pl ∧ ∀ H', Same H H' → Q (.bl (codeB p k pl)) H'
theorem sc_is_code_prime : FnScope ["thing"] ["thing"] (defScope s_is_code_prime) := ⟨rfl, rfl, rfl, by decide +kernel, rfl, by decide +kernel, by decide +kernel⟩
theorem ok_is_code_prime {fd : FuncData} (T : Txt K mg t) (F : Fun K "is_code_prime" "is_code_prime" s_is_code_prime t.is_code_prime fd) : FnOk P w K mg base CX0 2 t.is_code_prime fd ["thing"] (sp_is_code_prime' K) := by
  obtain ⟨fd_is_whole, F_is_whole, b_is_whole⟩ := T.f_is_whole
  have G_is_whole := ok_is_whole (P := P) (w := w) (base := base) T F_is_whole
  refine F.ok sc_is_code_prime (fun vs H Q E h => ?_) (fun cdv A outer s H vs Q E hr h => ?_)
  · obtain ⟨p, rfl, _⟩ := h
    rfl
  · obtain ⟨p, rfl, q⟩ := h
    refine ⟨_, (@pss_cons _ _ _ _ _ (@ps_if _ _ _ _ _ _ _ _ (@PW.pt _ _ _ (@pw_or _ _ _ _ _ _ _ (@pt_not _ _ _ _ (@pt_val _ _ _ (@pe_call _ _ _ _ _ _ _ _ _ _ _ _ _ _ _ _ G_is_whole (hr.mono (by decide)) rfl T.m_is_whole F_is_whole.kp b_is_whole .nil (@pass0 _) (@pa_cons _ _ _ _ _ (@L2.pv _ 0 _ _ (by rfl) (by first | exact Or.inl rfl | exact Or.inr (Or.inl rfl) | exact Or.inr (Or.inr rfl)) (by decide) (by decide)) (@pa_nil _) (by rfl)) (by decide) (by rfl) (by rfl)) (by intro _; rfl))) (@pw_or1 _ _ _ _ (@pt_not _ _ _ _ (@pt_chain _ _ _ _ _ _ _ _ _ _ _ _ (@op_le _) (@op_le _) (@pe_glob _ _ (.int 5) _ _ rfl T.g_LEAST_P.choose_spec ⟨_, rfl⟩ (by decide)) (@L2.pv _ 0 _ _ (by rfl) (by first | exact Or.inl rfl | exact Or.inr (Or.inl rfl) | exact Or.inr (Or.inr rfl)) (by decide) (by decide)) (@pe_glob _ _ (.int 97) _ _ rfl T.g_GREATEST_P.choose_spec ⟨_, rfl⟩ (by decide)) (by with_unfolding_all rfl)))))) (@pss_one _ _ _ (@ps_ret _ _ _ _ (@pe_bl _ _ _ _))) (@pss_nil _)) (by exact (@pss_one _ _ _ (@ps_ret _ _ _ _ (@pe_callB _ _ _ _ _ _ _ _ _ (@call_allB _ rfl) (by rfl) T.all_ boot_all (@pa_cons _ _ _ _ _ (@pe_comp _ _ _ _ _ _ _ _ _ _ _ _ _ (CompSc.of (N' := ["divisor", "thing"]) (ix := [none, some 0]) (defScope s_is_code_prime) ["thing"] rfl rfl (by decide +kernel)) rfl (@gk_name _ _ rfl) (@pi_range2 _ _ _ _ _ _ _ rfl T.range_ (@pa_cons _ _ _ _ _ (@pe_int _ _ _ _) (@pa_cons _ _ _ _ _ (@L2.pv _ 0 _ _ (by rfl) (by first | exact Or.inl rfl | exact Or.inr (Or.inl rfl) | exact Or.inr (Or.inr rfl)) (by decide) (by decide)) (@pa_nil _) (by rfl)) (by rfl)) (by rfl) (by rfl)) (fun _ _ _ _ => (@pg_name _ _ (0) _ (show (["divisor", "thing"] : List Str).Nodup by decide +kernel) rfl (Or.inl rfl) (by first | exact .inl rfl | exact .inr rfl | assumption))) (fun _ _ _ _ => (@pifs_nil _)) (fun _ _ _ _ => (@pe_cmpR _ _ _ _ _ _ _ _ (@op_ne _) (@pe_op _ _ _ _ _ _ _ _ (@op_mod _) (@L2.pv _ 1 _ _ (by rfl) (by first | exact Or.inl rfl | exact Or.inr (Or.inl rfl) | exact Or.inr (Or.inr rfl)) (by decide) (by decide)) (@L2.pv _ 0 _ _ (by rfl) (by first | exact Or.inl rfl | exact Or.inr (Or.inl rfl) | exact Or.inr (Or.inr rfl)) (by decide) (by decide))) (@pe_int _ _ _ _) (nomark _))) (by intro _; rfl)) (@pa_nil _) (by rfl)) (by decide) (by decide) (by rfl) (by rfl)))))), ?_⟩
    have hsl := sizeLine_eq
    refine ⟨_, rfl, .int p, rfl, .int p, _, rfl, iteF ?_⟩
    refine ⟨_, rfl, _, _, rfl, rfl, _, rfl, ite2 (fun h1 => ?_) (fun h1 => ?_)⟩
    rotate_left
    · have h1 : ¬ (5 : Int) ≤ p := by simpa using h1
      rw [prime_out (fun z => h1 z.1)] at q
      exact ⟨_, rfl, iteT (q _ (fun _ _ e => e))⟩
    have h1 : (5 : Int) ≤ p := by simpa using h1
    refine ⟨_, _, rfl, rfl, _, rfl, ?_⟩
    by_cases h2 : p ≤ 97
    rotate_left
    · rw [decide_eq_false h2]
      rw [prime_out (fun z => h2 z.2)] at q
      exact iteT (q _ (fun _ _ e => e))
    rw [decide_eq_true h2]
    refine iteF ?_
    refine ⟨_, rfl, 2, p, rfl, ⟨by omega, by omega, by omega, by omega⟩, comp_by (n := (p - 2).toNat) (fun i ys H' => ys = ((List.range i).map fun i => decide (p % (2 + (i : Nat) : Int) ≠ 0)).map V.bl ∧ H' = H) ⟨rfl, rfl⟩ (fun i ys H' hi _ => hi) (fun ys H' _ => Nat.le_refl _) ?_ ?_⟩
    · rintro i xx ys H3 H4 hi ⟨rfl, rfl⟩ ⟨rfl, rfl⟩
      refine gY ?_
      refine ⟨_, rfl, _, rfl, _, _, rfl, rfl, by omega, rfl, ?_⟩
      refine ⟨by rw [List.length_map, List.length_map, List.length_range]; omega, ?_, rfl⟩
      rw [List.range_succ, List.map_append, List.map_append]
      have e : (!decide (V.int (p % (2 + (i : Int))) = V.int 0)) = decide (p % (2 + (i : Int)) ≠ 0) := by
        rw [Bool.eq_iff_iff]
        simp
      rw [e]
      rfl
    · rintro ys H3 D ⟨rfl, rfl⟩ hD
      refine ⟨D, (List.range (p - 2).toNat).map fun i => decide (p % (2 + (i : Nat) : Int) ≠ 0), rfl, SqL.of upd_same, ?_⟩
      have e : ((List.range (p - 2).toNat).map fun i => decide (p % (2 + (i : Nat) : Int) ≠ 0)).all id = primesL.contains p := by
        rw [← prime_of h1 h2, List.all_map]
        rfl
      rw [e]
      exact q _ (same_upd hD)
theorem sc_are_places : FnScope ["p", "k", "thing"] ["p", "k", "thing"] (defScope s_are_places) := ⟨rfl, rfl, rfl, by decide +kernel, rfl, by decide +kernel, by decide +kernel⟩
theorem ok_are_places {fd : FuncData} (T : Txt K mg t) (F : Fun K "are_places" "are_places" s_are_places t.are_places fd) : FnOk P w K mg base CX0 3 t.are_places fd ["p", "k", "thing"] (sp_are_places' K) := by
  obtain ⟨fd_is_number, F_is_number, b_is_number⟩ := T.f_is_number
  have G_is_number := ok_is_number (P := P) (w := w) (base := base) T F_is_number
  refine F.ok sc_are_places (fun vs H Q E h => ?_) (fun cdv A outer s H vs Q E hr h => ?_)
  · obtain ⟨p, k, tt, pl, rfl, _⟩ := h
    rfl
  · obtain ⟨p, k, tt, pl, rfl, ht, q⟩ := h
    refine ⟨_, (@pss_cons _ _ _ _ _ (@ps_if _ _ _ _ _ _ _ _ (@PW.pt _ _ _ (@pw_or _ _ _ _ _ _ _ (@pt_not _ _ _ _ (@pt_val _ _ _ (@pe_callB _ _ _ _ _ _ _ _ _ (@call_isinst _) (by rfl) T.isinstance_ boot_isinstance (@pa_cons _ _ _ _ _ (@L2.pv _ 2 _ _ (by rfl) (by first | exact Or.inl rfl | exact Or.inr (Or.inl rfl) | exact Or.inr (Or.inr rfl)) (by decide) (by decide)) (@pa_cons _ _ _ _ _ (@pe_bltn _ _ (.ty "tuple") _ _ rfl T.tuple_ boot_tuple rfl (by decide) (by decide)) (@pa_nil _) (by rfl)) (by rfl)) (by decide) (by decide) (by rfl) (by rfl)) (by intro _; rfl))) (@pw_or1 _ _ _ _ (@pt_not _ _ _ _ (@pt_chain _ _ _ _ _ _ _ _ _ _ _ _ (@op_le _) (@op_le _) (@L2.pv _ 1 _ _ (by rfl) (by first | exact Or.inl rfl | exact Or.inr (Or.inl rfl) | exact Or.inr (Or.inr rfl)) (by decide) (by decide)) (@pe_callB _ _ _ _ _ _ _ _ _ (@call_len_seq _) (by rfl) T.len_ boot_len (@pa_cons _ _ _ _ _ (@L2.pv _ 2 _ _ (by rfl) (by first | exact Or.inl rfl | exact Or.inr (Or.inl rfl) | exact Or.inr (Or.inr rfl)) (by decide) (by decide)) (@pa_nil _) (by rfl)) (by decide) (by decide) (by rfl) (by rfl)) (@pe_glob _ _ (.int 16) _ _ rfl T.g_MOST_PLACES.choose_spec ⟨_, rfl⟩ (by decide)) (by with_unfolding_all rfl)))))) (@pss_one _ _ _ (@ps_ret _ _ _ _ (@pe_bl _ _ _ _))) (@pss_nil _)) (by exact (@pss_cons _ _ _ _ _ (@ps_if _ _ _ _ _ _ _ _ (@pt_not _ _ _ _ (@pt_val _ _ _ (@pe_callB _ _ _ _ _ _ _ _ _ (@call_allB _ rfl) (by rfl) T.all_ boot_all (@pa_cons _ _ _ _ _ (@pe_comp _ _ _ _ _ _ _ _ _ _ _ _ _ (CompSc.of (N' := ["place", "p"]) (ix := [none, some 0]) (defScope s_are_places) ["p", "k", "thing"] rfl rfl (by decide +kernel)) rfl (@gk_name _ _ rfl) (@pi_tup _ _ _ _ (@L2.pv _ 2 _ _ (by rfl) (by first | exact Or.inl rfl | exact Or.inr (Or.inl rfl) | exact Or.inr (Or.inr rfl)) (by decide) (by decide))) (fun _ _ _ _ => (@pg_name _ _ (0) _ (show (["place", "p"] : List Str).Nodup by decide +kernel) rfl (Or.inl rfl) (by first | exact .inl rfl | exact .inr rfl | assumption))) (fun _ _ _ _ => (@pifs_nil _)) (fun _ _ _ _ => (@pe_call _ _ _ _ _ _ _ _ _ _ _ _ _ _ _ _ G_is_number (hr.mono (by decide)) rfl T.m_is_number F_is_number.kp b_is_number .nil (@pass0 _) (@pa_cons _ _ _ _ _ (@L2.pv _ 1 _ _ (by rfl) (by first | exact Or.inl rfl | exact Or.inr (Or.inl rfl) | exact Or.inr (Or.inr rfl)) (by decide) (by decide)) (@pa_cons _ _ _ _ _ (@L2.pv _ 0 _ _ (by rfl) (by first | exact Or.inl rfl | exact Or.inr (Or.inl rfl) | exact Or.inr (Or.inr rfl)) (by decide) (by decide)) (@pa_nil _) (by rfl)) (by rfl)) (by decide) (by rfl) (by rfl))) (by intro _; rfl)) (@pa_nil _) (by rfl)) (by decide) (by decide) (by rfl) (by rfl)) (by intro _; rfl))) (@pss_one _ _ _ (@ps_ret _ _ _ _ (@pe_bl _ _ _ _))) (@pss_nil _)) (by exact (@pss_one _ _ _ (@ps_ret _ _ _ _ (@pe_cmpR _ _ _ _ _ _ _ _ (@op_eq _) (@pe_callB _ _ _ _ _ _ _ _ _ (@call_lenSet _) (by rfl) T.len_ boot_len (@pa_cons _ _ _ _ _ (@pe_callTy _ _ _ _ _ _ _ _ _ (@call_setG _ rfl) (by rfl) T.set_ boot_set (@pa_cons _ _ _ _ _ (@L2.pv _ 2 _ _ (by rfl) (by first | exact Or.inl rfl | exact Or.inr (Or.inl rfl) | exact Or.inr (Or.inr rfl)) (by decide) (by decide)) (@pa_nil _) (by rfl)) (by decide) (by decide) (by rfl) (by rfl)) (@pa_nil _) (by rfl)) (by decide) (by decide) (by rfl) (by rfl)) (@pe_callB _ _ _ _ _ _ _ _ _ (@call_len_seq _) (by rfl) T.len_ boot_len (@pa_cons _ _ _ _ _ (@L2.pv _ 2 _ _ (by rfl) (by first | exact Or.inl rfl | exact Or.inr (Or.inl rfl) | exact Or.inr (Or.inr rfl)) (by decide) (by decide)) (@pa_nil _) (by rfl)) (by decide) (by decide) (by rfl) (by rfl)) (nomark _)))))))), ?_⟩
    have hsl := sizeLine_eq
    refine ⟨_, rfl, _, _, _, _, rfl, .tup ht, rfl, _, rfl, iteF ?_⟩
    refine ⟨_, rfl, _, rfl, tt, _, rfl, .inr (SqT.of ht), _, _, rfl, rfl, _, rfl, ite2 (fun h1 => ?_) (fun h1 => ?_)⟩
    rotate_left
    · have h1 : ¬ k ≤ (pl.length : Int) := by
        rw [List.length_map] at h1
        simpa using h1
      have e : placesB p k pl = false := by unfold placesB; rw [decide_eq_false h1]; rfl
      rw [e] at q
      exact ⟨_, rfl, iteT (q _ (fun _ _ e => e))⟩
    have h1 : k ≤ (pl.length : Int) := by
      rw [List.length_map] at h1
      simpa using h1
    refine ⟨_, _, rfl, rfl, _, rfl, ?_⟩
    by_cases h2 : pl.length ≤ 16
    rotate_left
    · rw [decide_eq_false (show ¬ ((((pl.map V.int).length : Nat) : Int) ≤ 16) by rw [List.length_map]; omega)]
      have e : placesB p k pl = false := by unfold placesB; rw [decide_eq_true h1, decide_eq_false h2]; rfl
      rw [e] at q
      exact iteT (q _ (fun _ _ e => e))
    rw [decide_eq_true (show (((pl.map V.int).length : Nat) : Int) ≤ 16 by rw [List.length_map]; omega)]
    refine iteF ?_
    refine ⟨_, rfl, tt, rfl, ⟨_, SqT.of ht⟩, comp_mapT (K := K) (xs := pl.map V.int) (fs := pl.map fun x => V.bl (decide (0 ≤ x) && decide (x < p))) (SqT.of ht) (by rw [List.length_map, List.length_map]) (by rw [List.length_map]; omega) ?_ ?_⟩
    · intro j x y R B hx hy hR
      obtain ⟨i, hi, rfl, rfl⟩ := map_map_get hx hy
      refine gY ?_
      exact ⟨_, rfl, _, rfl, p, .int i, rfl, .int i, hR⟩
    · intro D hD
      have e1 : (pl.map fun x => V.bl (decide (0 ≤ x) && decide (x < p))) = (pl.map fun x => decide (0 ≤ x) && decide (x < p)).map V.bl := by rw [List.map_map]; rfl
      rw [e1]
      refine ⟨D, _, rfl, SqL.of upd_same, ?_⟩
      have e : (pl.map fun x => decide (0 ≤ x) && decide (x < p)).all id = pl.all (fun x => decide (0 ≤ x) && decide (x < p)) := by rw [List.all_map]; rfl
      rw [e]
      have s1 := same_upd (o := .lst ((pl.map fun x => decide (0 ≤ x) && decide (x < p)).map V.bl)) hD
      by_cases h3 : pl.all (fun x => decide (0 ≤ x) && decide (x < p)) = true
      rotate_left
      · have h3 : pl.all (fun x => decide (0 ≤ x) && decide (x < p)) = false := by simpa using h3
        rw [h3]
        have e : placesB p k pl = false := by unfold placesB; rw [decide_eq_true h1, decide_eq_true h2, h3]; rfl
        rw [e] at q
        exact ⟨_, rfl, iteT (q _ s1)⟩
      rw [h3]
      refine ⟨_, rfl, iteF ?_⟩
      refine ⟨_, rfl, tt, pl, rfl, .inl (SqT.of (s1 _ _ ht)), by omega, fun l S hl => ?_⟩
      refine ⟨l, S, _, rfl, upd_same, _, rfl, tt, _, rfl, .inr (SqT.of ((same_upd hl) _ _ (s1 _ _ ht))), rfl, ?_⟩
      have e4 : decide (V.int ((cntU pl : Nat) : Int) = V.int (((pl.map V.int).length : Nat) : Int)) = decide pl.Nodup := by
        rw [Bool.eq_iff_iff, decide_eq_true_eq, decide_eq_true_eq, List.length_map, ← cntU_iff]
        constructor
        · intro z
          injection z with z
          omega
        · intro z
          rw [z]
      rw [e4]
      have e5 : placesB p k pl = decide pl.Nodup := by unfold placesB; rw [decide_eq_true h1, decide_eq_true h2, h3]; rfl
      rw [e5] at q
      exact q _ (s1.trans (same_upd hl))
theorem sc_is_code : FnScope ["thing", "p", "k", "places"] ["thing"] (defScope s_is_code) := ⟨rfl, rfl, rfl, by decide +kernel, rfl, by decide +kernel, by decide +kernel⟩
theorem ok_is_code {fd : FuncData} (T : Txt K mg t) (F : Fun K "is_code" "is_code" s_is_code t.is_code fd) : FnOk P w K mg base CX0 4 t.is_code fd ["thing"] (sp_is_code' K) := by
  obtain ⟨fd_is_whole, F_is_whole, b_is_whole⟩ := T.f_is_whole
  have G_is_whole := ok_is_whole (P := P) (w := w) (base := base) T F_is_whole
  obtain ⟨fd_is_code_prime, F_is_code_prime, b_is_code_prime⟩ := T.f_is_code_prime
  have G_is_code_prime := ok_is_code_prime (P := P) (w := w) (base := base) T F_is_code_prime
  obtain ⟨fd_are_places, F_are_places, b_are_places⟩ := T.f_are_places
  have G_are_places := ok_are_places (P := P) (w := w) (base := base) T F_are_places
  refine F.ok sc_is_code (fun vs H Q E h => ?_) (fun cdv A outer s H vs Q E hr h => ?_)
  · obtain ⟨c, tt, p, k, pl, rfl, _⟩ := h
    rfl
  · obtain ⟨c, tt, p, k, pl, rfl, hc, q⟩ := h
    refine ⟨_, (@pss_cons _ _ _ _ _ (@ps_if _ _ _ _ _ _ _ _ (@PW.pt _ _ _ (@pw_or _ _ _ _ _ _ _ (@pt_not _ _ _ _ (@pt_val _ _ _ (@pe_callB _ _ _ _ _ _ _ _ _ (@call_isinst _) (by rfl) T.isinstance_ boot_isinstance (@pa_cons _ _ _ _ _ (@L2.pv _ 0 _ _ (by rfl) (by first | exact Or.inl rfl | exact Or.inr (Or.inl rfl) | exact Or.inr (Or.inr rfl)) (by decide) (by decide)) (@pa_cons _ _ _ _ _ (@pe_bltn _ _ (.ty "tuple") _ _ rfl T.tuple_ boot_tuple rfl (by decide) (by decide)) (@pa_nil _) (by rfl)) (by rfl)) (by decide) (by decide) (by rfl) (by rfl)) (by intro _; rfl))) (@pw_or1 _ _ _ _ (@pt_cmpR _ _ _ _ _ _ _ _ (@op_ne _) (@pe_callB _ _ _ _ _ _ _ _ _ (@call_len_seq _) (by rfl) T.len_ boot_len (@pa_cons _ _ _ _ _ (@L2.pv _ 0 _ _ (by rfl) (by first | exact Or.inl rfl | exact Or.inr (Or.inl rfl) | exact Or.inr (Or.inr rfl)) (by decide) (by decide)) (@pa_nil _) (by rfl)) (by decide) (by decide) (by rfl) (by rfl)) (@pe_int _ _ _ _) (nomark _))))) (@pss_one _ _ _ (@ps_ret _ _ _ _ (@pe_bl _ _ _ _))) (@pss_nil _)) (by exact (@pss_cons _ _ _ _ _ (@ps_asg _ _ _ _ _ _ (@L2.pv _ 0 _ _ (by rfl) (by first | exact Or.inl rfl | exact Or.inr (Or.inl rfl) | exact Or.inr (Or.inr rfl)) (by decide) (by decide)) (@pg_tup _ _ _ _ _ _ rfl (@pgs_cons _ _ _ _ _ (@pg_name _ _ (1) _ sc_is_code.nd rfl (Or.inl rfl) (by first | exact .inl rfl | exact .inr rfl | assumption)) (@pgs_cons _ _ _ _ _ (@pg_name _ _ (2) _ sc_is_code.nd rfl (Or.inl rfl) (by first | exact .inl rfl | exact .inr rfl | assumption)) (@pgs_cons _ _ _ _ _ (@pg_name _ _ (3) _ sc_is_code.nd rfl (Or.inl rfl) (by first | exact .inl rfl | exact .inr rfl | assumption)) (@pgs_nil _) (by rfl)) (by rfl)) (by rfl)) (by rfl) (by rfl)) (by rfl) (by rfl) (by rfl)) (by exact (@pss_cons _ _ _ _ _ (@ps_if _ _ _ _ _ _ _ _ (@PW.pt _ _ _ (@pw_or _ _ _ _ _ _ _ (@pt_not _ _ _ _ (@pt_val _ _ _ (@pe_call _ _ _ _ _ _ _ _ _ _ _ _ _ _ _ _ G_is_code_prime (hr.mono (by decide)) rfl T.m_is_code_prime F_is_code_prime.kp b_is_code_prime .nil (@pass0 _) (@pa_cons _ _ _ _ _ (@L2.pv _ 1 _ _ (by rfl) (by first | exact Or.inl rfl | exact Or.inr (Or.inl rfl) | exact Or.inr (Or.inr rfl)) (by decide) (by decide)) (@pa_nil _) (by rfl)) (by decide) (by rfl) (by rfl)) (by intro _; rfl))) (@pw_or _ _ _ _ _ _ _ (@pt_not _ _ _ _ (@pt_val _ _ _ (@pe_call _ _ _ _ _ _ _ _ _ _ _ _ _ _ _ _ G_is_whole (hr.mono (by decide)) rfl T.m_is_whole F_is_whole.kp b_is_whole .nil (@pass0 _) (@pa_cons _ _ _ _ _ (@L2.pv _ 2 _ _ (by rfl) (by first | exact Or.inl rfl | exact Or.inr (Or.inl rfl) | exact Or.inr (Or.inr rfl)) (by decide) (by decide)) (@pa_nil _) (by rfl)) (by decide) (by rfl) (by rfl)) (by intro _; rfl))) (@pw_or1 _ _ _ _ (@pt_not _ _ _ _ (@pt_chain _ _ _ _ _ _ _ _ _ _ _ _ (@op_le _) (@op_le _) (@pe_int _ _ _ _) (@L2.pv _ 2 _ _ (by rfl) (by first | exact Or.inl rfl | exact Or.inr (Or.inl rfl) | exact Or.inr (Or.inr rfl)) (by decide) (by decide)) (@pe_glob _ _ (.int 5) _ _ rfl T.g_MOST_NUMBERS.choose_spec ⟨_, rfl⟩ (by decide)) (by with_unfolding_all rfl))))))) (@pss_one _ _ _ (@ps_ret _ _ _ _ (@pe_bl _ _ _ _))) (@pss_nil _)) (by exact (@pss_one _ _ _ (@ps_ret _ _ _ _ (@pe_call _ _ _ _ _ _ _ _ _ _ _ _ _ _ _ _ G_are_places (hr.mono (by decide)) rfl T.m_are_places F_are_places.kp b_are_places .nil (@pass0 _) (@pa_cons _ _ _ _ _ (@L2.pv _ 1 _ _ (by rfl) (by first | exact Or.inl rfl | exact Or.inr (Or.inl rfl) | exact Or.inr (Or.inr rfl)) (by decide) (by decide)) (@pa_cons _ _ _ _ _ (@L2.pv _ 2 _ _ (by rfl) (by first | exact Or.inl rfl | exact Or.inr (Or.inl rfl) | exact Or.inr (Or.inr rfl)) (by decide) (by decide)) (@pa_cons _ _ _ _ _ (@L2.pv _ 3 _ _ (by rfl) (by first | exact Or.inl rfl | exact Or.inr (Or.inl rfl) | exact Or.inr (Or.inr rfl)) (by decide) (by decide)) (@pa_nil _) (by rfl)) (by rfl)) (by rfl)) (by decide) (by rfl) (by rfl)))))))))), ?_⟩
    refine ⟨_, rfl, _, _, _, _, rfl, .tup hc.1, rfl, _, rfl, iteF ?_⟩
    refine ⟨_, rfl, c, _, rfl, .inr (SqT.of hc.1), rfl, _, rfl, iteF ?_⟩
    refine ⟨_, rfl, c, _, rfl, SqT.of hc.1, rfl, _, _, rfl, _, _, rfl, _, _, rfl, rfl, ?_⟩
    refine ⟨_, rfl, p, rfl, fun H1 s1 => ⟨_, rfl, ?_⟩⟩
    by_cases h1 : primesL.contains p = true
    rotate_left
    · have h1 : primesL.contains p = false := by simpa using h1
      rw [h1]
      have e : codeB p k pl = false := by unfold codeB; rw [h1]; rfl
      rw [e] at q
      exact iteT (q _ s1)
    rw [h1]
    refine iteF ?_
    refine ⟨_, rfl, .int k, rfl, .int k, _, rfl, iteF ?_⟩
    refine ⟨_, rfl, _, _, rfl, rfl, _, rfl, ite2 (fun h2 => ?_) (fun h2 => ?_)⟩
    rotate_left
    · have h2 : ¬ (1 : Int) ≤ k := by simpa using h2
      have e : codeB p k pl = false := by unfold codeB; rw [h1, decide_eq_false h2]; rfl
      rw [e] at q
      exact ⟨_, rfl, iteT (q _ s1)⟩
    have h2 : (1 : Int) ≤ k := by simpa using h2
    refine ⟨_, _, rfl, rfl, _, rfl, ?_⟩
    by_cases h3 : k ≤ 5
    rotate_left
    · rw [decide_eq_false h3]
      have e : codeB p k pl = false := by unfold codeB; rw [h1, decide_eq_true h2, decide_eq_false h3]; rfl
      rw [e] at q
      exact iteT (q _ s1)
    rw [decide_eq_true h3]
    refine iteF ?_
    have e : codeB p k pl = placesB p k pl := by unfold codeB placesB; rw [h1, decide_eq_true h2, decide_eq_true h3]; rfl
    rw [e] at q
    exact ⟨_, rfl, _, rfl, _, rfl, p, k, tt, pl, rfl, s1 _ _ hc.2, fun H' s' => q H' (s1.trans s')⟩
end
end My

end
section
set_option maxHeartbeats 3999000
namespace My
open PySem L2 PyProof.Rows
section
variable {P : Program} {w : World} {K : PySem.W.Frag} {mg : Str → Option Value} {base : Heap} {t : Adr}
theorem ps_mid {X : Cx} {st : Stmt} {ts : TS} (h : PS X st ts) : PS X st (fun D σ H => ∃ Pv : L2.St → Hp → Prop, ts { D with nx := Pv } σ H ∧ ∀ σ' H', Pv σ' H' → D.nx σ' H') := by
  intro pins s σ H D I hq
  obtain ⟨Pv, h1, h2⟩ := hq
  refine thn (h pins s σ H _ I h1) fun f s1 q => ?_
  cases f with
  | next =>
    obtain ⟨σ', H', I', p⟩ := q
    exact ⟨σ', H', I', h2 _ _ p⟩
  | ret v => exact q
  | brk => exact q
  | cont => exact q
/-! ### is_written, read_code -/
theorem zero_is : ("0" : Str) = ⟨#[48]⟩ := by decide +kernel
theorem one_zero {c : Nat} : ((⟨#[c]⟩ : Str) = "0") ↔ c = 48 := by
  rw [zero_is]
  constructor
  · intro h
    injection h with h
    injection h with h
    injection h
  · intro h
    rw [h]
theorem str_len (z : Str) : z.cps.toList.length = z.length := by simp [Str.length]
def sp_is_written' (K : PySem.W.Frag) : Sp := fun vs H Q _ => ∃ z : Str, vs = [.str z] ∧ z.length ≤ 100000 ∧ Q (.bl (isWr 4 z)) H
theorem sc_is_written : FnScope ["word"] ["word"] (defScope s_is_written) := ⟨rfl, rfl, rfl, by decide +kernel, rfl, by decide +kernel, by decide +kernel⟩
theorem ok_is_written {fd : FuncData} (T : Txt K mg t) (F : Fun K "is_written" "is_written" s_is_written t.is_written fd) : FnOk P w K mg base CX0 1 t.is_written fd ["word"] (sp_is_written' K) := by
  refine F.ok sc_is_written (fun vs H Q E h => ?_) (fun cdv A outer s H vs Q E hr h => ?_)
  · obtain ⟨z, rfl, _⟩ := h
    rfl
  · obtain ⟨z, rfl, hz, q⟩ := h
    refine ⟨_, (@pss_cons _ _ _ _ _ (@ps_if _ _ _ _ _ _ _ _ (@PW.pt _ _ _ (@pw_or _ _ _ _ _ _ _ (@pt_cmpR _ _ _ _ _ _ _ _ (@op_gt _) (@pe_callB _ _ _ _ _ _ _ _ _ (@call_len_str _) (by rfl) T.len_ boot_len (@pa_cons _ _ _ _ _ (@L2.pv _ 0 _ _ (by rfl) (by first | exact Or.inl rfl | exact Or.inr (Or.inl rfl) | exact Or.inr (Or.inr rfl)) (by decide) (by decide)) (@pa_nil _) (by rfl)) (by decide) (by decide) (by rfl) (by rfl)) (@pe_glob _ _ (.int 4) _ _ rfl T.g_MOST_FIGURES.choose_spec ⟨_, rfl⟩ (by decide)) (nomark _)) (@pw_or _ _ _ _ _ _ _ (@pt_not _ _ _ _ (@pt_val _ _ _ (@pe_bm0 _ _ _ _ _ _ _ _ _ PySem.F.plainAttrs_str PySem.F.slot_str_isascii PySem.F.type_str_isascii (@mt_isascii _) (@L2.pv _ 0 _ _ (by rfl) (by first | exact Or.inl rfl | exact Or.inr (Or.inl rfl) | exact Or.inr (Or.inr rfl)) (by decide) (by decide)) (by rfl) (by rfl)) (by intro _; rfl))) (@pw_or1 _ _ _ _ (@pt_not _ _ _ _ (@pt_val _ _ _ (@pe_bm0 _ _ _ _ _ _ _ _ _ PySem.F.plainAttrs_str PySem.F.slot_str_isdigit PySem.F.type_str_isdigit (@mt_isdigit _) (@L2.pv _ 0 _ _ (by rfl) (by first | exact Or.inl rfl | exact Or.inr (Or.inl rfl) | exact Or.inr (Or.inr rfl)) (by decide) (by decide)) (by rfl) (by rfl)) (by intro _; rfl))))))) (@pss_one _ _ _ (@ps_ret _ _ _ _ (@pe_bl _ _ _ _))) (@pss_nil _)) (by exact (@pss_one _ _ _ (@ps_ret _ _ _ _ (@pe_or _ _ _ _ _ _ _ (@pe_cmpR _ _ _ _ _ _ _ _ (@op_eq _) (@L2.pv _ 0 _ _ (by rfl) (by first | exact Or.inl rfl | exact Or.inr (Or.inl rfl) | exact Or.inr (Or.inr rfl)) (by decide) (by decide)) (@pe_str _ _ _ _) (nomark _)) (@pe_one _ _ _ _ _ (@pe_cmpR _ _ _ _ _ _ _ _ (@op_ne _) (@pe_ix _ _ _ _ _ _ _ (@ix_str _) (@L2.pv _ 0 _ _ (by rfl) (by first | exact Or.inl rfl | exact Or.inr (Or.inl rfl) | exact Or.inr (Or.inr rfl)) (by decide) (by decide)) (@pe_int _ _ _ _) (fun _ _ => rfl)) (@pe_str _ _ _ _) (nomark _)))))))), ?_⟩
    have hsl := sizeLine_eq
    refine ⟨_, rfl, z, rfl, by omega, _, _, rfl, rfl, _, rfl, ?_⟩
    by_cases h1 : z.length ≤ 4
    rotate_left
    · rw [decide_eq_true (show ((4 : Int) < (z.length : Nat)) by omega)]
      have e : isWr 4 z = false := by unfold isWr; rw [decide_eq_false h1]; simp
      rw [e] at q
      exact iteT q
    rw [decide_eq_false (show ¬ ((4 : Int) < (z.length : Nat)) by omega)]
    refine iteF ?_
    refine ⟨_, rfl, rfl, z, rfl, rfl, _, rfl, ?_⟩
    cases h2 : z.cps.all (fun x => decide (x < 128)) with
    | false =>
      have e : isWr 4 z = false := by
        unfold isWr
        cases h3 : z.cps.all digB with
        | false => simp
        | true => rw [digs_low h3] at h2; cases h2
      rw [e] at q
      exact iteT q
    | true =>
    refine iteF ?_
    refine ⟨_, rfl, rfl, z, rfl, rfl, _, rfl, ?_⟩
    have e2 : (decide (z.length > 0) && z.cps.all Unicode.isDigit) = (decide (1 ≤ z.length) && z.cps.all digB) := by rw [digs_ascii h2]; rfl
    rw [e2]
    cases h3 : (decide (1 ≤ z.length) && z.cps.all digB) with
    | false =>
      have e : isWr 4 z = false := by
        unfold isWr
        rw [Bool.and_eq_false_iff] at h3
        rcases h3 with h3 | h3 <;> rw [h3] <;> simp
      rw [e] at q
      exact iteT q
    | true =>
    rw [Bool.and_eq_true] at h3
    refine iteF ?_
    have ew : isWr 4 z = (decide (z = "0") || decide (z.cps.toList[0]? ≠ some 48)) := by unfold isWr; rw [h3.1, h3.2, decide_eq_true h1]; rfl
    have h0 : 1 ≤ z.length := by simpa using h3.1
    rw [ew] at q
    refine ⟨_, rfl, rfl, _, rfl, ?_⟩
    by_cases e : z = "0"
    · rw [decide_eq_true (by rw [e])]
      rw [decide_eq_true e] at q
      exact iteT q
    · rw [decide_eq_false (fun w' => e (by injection w'))]
      rw [decide_eq_false e] at q
      refine iteF ?_
      have hl := str_len z
      have hc : z.cps.toList[0]? = some (z.cps.toList[0]'(by omega)) := List.getElem?_eq_getElem (by omega)
      have hat : atI z.cps.toList 0 = some (z.cps.toList[0]'(by omega)) := atI_nat (j := 0) hc
      refine ⟨_, rfl, z, 0, _, rfl, rfl, by omega, hat, rfl, ?_⟩
      rw [hc] at q
      generalize z.cps.toList[0]'(by omega) = c at q ⊢
      have e5 : (!decide (V.str (⟨#[c]⟩ : Str) = V.str "0")) = (false || decide (some c ≠ some 48)) := by
        rw [Bool.eq_iff_iff]
        simp only [Bool.not_eq_true', decide_eq_false_iff_not, Bool.false_or, decide_eq_true_eq, ne_eq, Option.some.injEq, V.str.injEq]
        rw [one_zero]
      rw [e5]
      exact q
def sp_read_code (t : Adr) (K : PySem.W.Frag) : Sp := fun vs H Q E => ∃ z : Str, vs = [.str z] ∧ z.length ≤ 900 ∧
  (∀ (p k : Int) (pl : List Int), readC z = some (p, k, pl) → ∀ (c tt : Addr) (H' : Hp), H c = none → Same H H' → CodeAt H' c tt p k pl → Q (.ref c) H') ∧ (readC z = none → ∀ H', Same H H' → E (.ref t.NoText) none H')
theorem cutTo (xs : List V) (j : Nat) : cutV xs none (some (j : Int)) = xs.take j := by
  unfold cutV
  rw [HT.sIx_nat, HT.sIx_none, Nat.sub_zero, List.drop_zero]
  by_cases h : j ≤ xs.length
  · rw [Nat.min_eq_left h]
  · rw [show min j xs.length = xs.length by omega, List.take_of_length_le (Nat.le_refl _), List.take_of_length_le (show xs.length ≤ j by omega)]
theorem cutFrom (xs : List V) (i : Nat) : cutV xs (some (i : Int)) none = xs.drop i := by
  unfold cutV
  rw [HT.sIx_nat, HT.sIx_none]
  by_cases h : i ≤ xs.length
  · rw [Nat.min_eq_left h]
    exact List.take_of_length_le (by rw [List.length_drop]; exact Nat.le_refl _)
  · rw [Nat.min_eq_right (by omega), List.drop_eq_nil_of_le (Nat.le_refl _), List.drop_eq_nil_of_le (by omega)]
    simp
theorem cutMid (xs : List V) : cutV xs (some 2) (some 3) = (xs.drop 2).take 1 := by
  show cutV xs (some ((2 : Nat) : Int)) (some ((3 : Nat) : Int)) = _
  unfold cutV
  rw [HT.sIx_nat, HT.sIx_nat]
  by_cases h : 3 ≤ xs.length
  · have e2 : min 2 xs.length = 2 := by omega
    have e3 : min 3 xs.length = 3 := by omega
    rw [e2, e3]
  · have e1 : min 3 xs.length - min 2 xs.length = 0 := by omega
    rw [e1, List.take_zero, List.drop_eq_nil_of_le (show xs.length ≤ 2 by omega)]
    rfl
theorem eqD_strs {H : Hp} {d : Nat} (x y : Str) : EqD K H d (.str x) (.str y) (decide (x = y)) := by
  have h := EqD.flat (K := K) (H := H) (d := d) (x := .str x) (y := .str y) rfl rfl
  have e : eqV (.str x) (.str y) = decide (x = y) := by
    simp only [eqV]
    rw [Bool.eq_iff_iff]
    simp
  rw [e] at h
  exact h
/-- three words at least, or fewer -/
theorem three_or (ws : List Str) : (∃ a b c r, ws = a :: b :: c :: r) ∨ ws.length ≤ 2 := by
  match ws with
  | a :: b :: c :: r => exact .inl ⟨a, b, c, r, rfl⟩
  | [] => exact .inr (by simp)
  | [_] => exact .inr (by simp)
  | [_, _] => exact .inr (by simp)
theorem readW_few {ws : List Str} (h : ws.length ≤ 2) : readW ws = none := by
  match ws, h with
  | [], _ => rfl
  | [_], _ => rfl
  | [_, _], _ => rfl
  | _ :: _ :: _ :: _, h => simp at h
theorem sc_read_code : FnScope ["text", "words", "numbers", "p", "k", "places", "code"] ["text"] (defScope s_read_code) := ⟨rfl, rfl, rfl, by decide +kernel, rfl, by decide +kernel, by decide +kernel⟩
theorem ok_read_code {fd : FuncData} (T : Txt K mg t) (F : Fun K "read_code" "read_code" s_read_code t.read_code fd) : FnOk P w K mg base (CX1 P w) 5 t.read_code fd ["text"] (sp_read_code t K) := by
  obtain ⟨fd_is_written, F_is_written, b_is_written⟩ := T.f_is_written
  have G_is_written := ok_is_written (P := P) (w := w) (base := base) T F_is_written
  obtain ⟨fd_is_code, F_is_code, b_is_code⟩ := T.f_is_code
  have G_is_code := ok_is_code (P := P) (w := w) (base := base) T F_is_code
  refine F.okX sc_read_code (fun vs H Q E h => ?_) (fun cdv A outer s H vs Q E hr h => ?_)
  · obtain ⟨z, rfl, _⟩ := h
    rfl
  · have hu : (A.deeper (envOfC (Str.ofString "read_code") (defScope s_read_code) s.heap.objs.size t.read_code cdv)).units + 20 < cLine := by have := hr.units; omega
    refine ⟨_, (@pss_cons _ _ _ _ _ (@ps_if _ _ _ _ _ _ _ _ (@pt_not _ _ _ _ (@pt_val _ _ _ (@pe_callB _ _ _ _ _ _ _ _ _ (@call_isinst _) (by rfl) T.isinstance_ boot_isinstance (@pa_cons _ _ _ _ _ (@L2.pv _ 0 _ _ (by rfl) (by first | exact Or.inl rfl | exact Or.inr (Or.inl rfl) | exact Or.inr (Or.inr rfl)) (by decide) (by decide)) (@pa_cons _ _ _ _ _ (@pe_bltn _ _ (.ty "str") _ _ rfl T.str_ boot_str rfl (by decide) (by decide)) (@pa_nil _) (by rfl)) (by rfl)) (by decide) (by decide) (by rfl) (by rfl)) (by intro _; rfl))) (@pss_one _ _ _ (@ps_raise _ _ _ _ _ _ _ _ _ (fun _ _ _ _ _ _ _ _ I m q => raises_out I m q) rfl rfl T.x_NoText T.xi_NoText (@pe_str _ _ _ _) (by decide) (by rfl) (by rfl))) (@pss_nil _)) (by exact (@pss_cons _ _ _ _ _ (@ps_set _ _ (1) _ _ _ _ sc_read_code.nd rfl (Or.inl rfl) (@pe_bm _ _ _ _ _ _ _ _ _ _ _ _ PySem.F.plainAttrs_str PySem.F.slot_str_split PySem.F.type_str_split (@mt_splitG _) (@L2.pv _ 0 _ _ (by rfl) (by first | exact Or.inl rfl | exact Or.inr (Or.inl rfl) | exact Or.inr (Or.inr rfl)) (by decide) (by decide)) (@pa_cons _ _ _ _ _ (@pe_str _ _ _ _) (@pa_nil _) (by rfl)) (by rfl) (by rfl) (by rfl) (by rfl) (by rfl)) (by rfl) (by first | exact .inl rfl | exact .inr rfl | assumption)) (by exact (@pss_cons _ _ _ _ _ (@ps_set _ _ (2) _ _ _ _ sc_read_code.nd rfl (Or.inl rfl) (@pe_op _ _ _ _ _ _ _ _ (@op_cat _) (@pe_slice _ _ _ _ _ _ _ _ _ _ sl_list (@L2.pv _ 1 _ _ (by rfl) (by first | exact Or.inl rfl | exact Or.inr (Or.inl rfl) | exact Or.inr (Or.inr rfl)) (by decide) (by decide)) (@po_none _) (@po_some _ _ _ (@pe_int _ _ _ _))) (@pe_slice _ _ _ _ _ _ _ _ _ _ sl_list (@L2.pv _ 1 _ _ (by rfl) (by first | exact Or.inl rfl | exact Or.inr (Or.inl rfl) | exact Or.inr (Or.inr rfl)) (by decide) (by decide)) (@po_some _ _ _ (@pe_int _ _ _ _)) (@po_none _))) (by rfl) (by first | exact .inl rfl | exact .inr rfl | assumption)) (by exact (@pss_cons _ _ _ _ _ (@ps_if _ _ _ _ _ _ _ _ (@PW.pt _ _ _ (@pw_or _ _ _ _ _ _ _ (@pt_cmpR _ _ _ _ _ _ _ _ (@op_neD _ hu) (@pe_slice _ _ _ _ _ _ _ _ _ _ sl_list (@L2.pv _ 1 _ _ (by rfl) (by first | exact Or.inl rfl | exact Or.inr (Or.inl rfl) | exact Or.inr (Or.inr rfl)) (by decide) (by decide)) (@po_some _ _ _ (@pe_int _ _ _ _)) (@po_some _ _ _ (@pe_int _ _ _ _))) (@pe_lst _ _ _ _ (@pa_cons _ _ _ _ _ (@pe_str _ _ _ _) (@pa_nil _) (by rfl))) (nomark _)) (@pw_or1 _ _ _ _ (@pt_not _ _ _ _ (@pt_val _ _ _ (@pe_callB _ _ _ _ _ _ _ _ _ (@call_allB _ rfl) (by rfl) T.all_ boot_all (@pa_cons _ _ _ _ _ (@pe_comp _ _ _ _ _ _ _ _ _ _ _ _ _ (CompSc.of (N' := ["word"]) (ix := [none]) (defScope s_read_code) ["text", "words", "numbers", "p", "k", "places", "code"] rfl rfl (by decide +kernel)) rfl (@gk_name _ _ rfl) (@pi_list _ _ _ _ (@L2.pv _ 2 _ _ (by rfl) (by first | exact Or.inl rfl | exact Or.inr (Or.inl rfl) | exact Or.inr (Or.inr rfl)) (by decide) (by decide))) (fun _ _ _ _ => (@pg_name _ _ (0) _ (show (["word"] : List Str).Nodup by decide +kernel) rfl (Or.inl rfl) (by first | exact .inl rfl | exact .inr rfl | assumption))) (fun _ _ _ _ => (@pifs_nil _)) (fun _ _ _ _ => (@pe_call _ _ _ _ _ _ _ _ _ _ _ _ _ _ _ _ G_is_written (hr.mono (by decide)) rfl T.m_is_written F_is_written.kp b_is_written .nil (@pass0 _) (@pa_cons _ _ _ _ _ (@L2.pv _ 0 _ _ (by rfl) (by first | exact Or.inl rfl | exact Or.inr (Or.inl rfl) | exact Or.inr (Or.inr rfl)) (by decide) (by decide)) (@pa_nil _) (by rfl)) (by decide) (by rfl) (by rfl))) (by intro _; rfl)) (@pa_nil _) (by rfl)) (by decide) (by decide) (by rfl) (by rfl)) (by intro _; rfl)))))) (@pss_one _ _ _ (@ps_raise _ _ _ _ _ _ _ _ _ (fun _ _ _ _ _ _ _ _ I m q => raises_out I m q) rfl rfl T.x_NoText T.xi_NoText (@pe_str _ _ _ _) (by decide) (by rfl) (by rfl))) (@pss_nil _)) (by exact (@pss_cons _ _ _ _ _ (@ps_asg _ _ _ _ _ _ (@pe_comp _ _ _ _ _ _ _ _ _ _ _ _ _ (CompSc.of (N' := ["word"]) (ix := [none]) (defScope s_read_code) ["text", "words", "numbers", "p", "k", "places", "code"] rfl rfl (by decide +kernel)) rfl (@gk_name _ _ rfl) (@pi_list _ _ _ _ (@L2.pv _ 2 _ _ (by rfl) (by first | exact Or.inl rfl | exact Or.inr (Or.inl rfl) | exact Or.inr (Or.inr rfl)) (by decide) (by decide))) (fun _ _ _ _ => (@pg_name _ _ (0) _ (show (["word"] : List Str).Nodup by decide +kernel) rfl (Or.inl rfl) (by first | exact .inl rfl | exact .inr rfl | assumption))) (fun _ _ _ _ => (@pifs_nil _)) (fun _ _ _ _ => (@pe_callTy _ _ _ _ _ _ _ _ _ (@call_intD _) (by rfl) T.int_ boot_int (@pa_cons _ _ _ _ _ (@L2.pv _ 0 _ _ (by rfl) (by first | exact Or.inl rfl | exact Or.inr (Or.inl rfl) | exact Or.inr (Or.inr rfl)) (by decide) (by decide)) (@pa_nil _) (by rfl)) (by decide) (by decide) (by rfl) (by rfl))) (by intro _; rfl)) (@pg_star _ _ _ _ _ _ rfl (@pgs_cons _ _ _ _ _ (@pg_name _ _ (3) _ sc_read_code.nd rfl (Or.inl rfl) (by first | exact .inl rfl | exact .inr rfl | assumption)) (@pgs_cons _ _ _ _ _ (@pg_name _ _ (4) _ sc_read_code.nd rfl (Or.inl rfl) (by first | exact .inl rfl | exact .inr rfl | assumption)) (@pgs_cons _ _ _ _ _ (@pg_name _ _ (5) _ sc_read_code.nd rfl (Or.inl rfl) (by first | exact .inl rfl | exact .inr rfl | assumption)) (@pgs_nil _) (by rfl)) (by rfl)) (by rfl)) (by rfl) (by rfl) (by rfl)) (by rfl) (by rfl) (by rfl)) (by exact (@pss_cons _ _ _ _ _ (@ps_set _ _ (6) _ _ _ _ sc_read_code.nd rfl (Or.inl rfl) (@pe_tup _ _ _ _ _ (@pa_cons _ _ _ _ _ (@L2.pv _ 3 _ _ (by rfl) (by first | exact Or.inl rfl | exact Or.inr (Or.inl rfl) | exact Or.inr (Or.inr rfl)) (by decide) (by decide)) (@pa_cons _ _ _ _ _ (@L2.pv _ 4 _ _ (by rfl) (by first | exact Or.inl rfl | exact Or.inr (Or.inl rfl) | exact Or.inr (Or.inr rfl)) (by decide) (by decide)) (@pa_cons _ _ _ _ _ (@pe_callTy _ _ _ _ _ _ _ _ _ (@call_tuple_of _) (by rfl) T.tuple_ boot_tuple (@pa_cons _ _ _ _ _ (@L2.pv _ 5 _ _ (by rfl) (by first | exact Or.inl rfl | exact Or.inr (Or.inl rfl) | exact Or.inr (Or.inr rfl)) (by decide) (by decide)) (@pa_nil _) (by rfl)) (by decide) (by decide) (by rfl) (by rfl)) (@pa_nil _) (by rfl)) (by rfl)) (by rfl))) (by rfl) (by first | exact .inl rfl | exact .inr rfl | assumption)) (by exact (@pss_cons _ _ _ _ _ (@ps_if _ _ _ _ _ _ _ _ (@pt_not _ _ _ _ (@pt_val _ _ _ (@pe_call _ _ _ _ _ _ _ _ _ _ _ _ _ _ _ _ G_is_code (hr.mono (by decide)) rfl T.m_is_code F_is_code.kp b_is_code .nil (@pass0 _) (@pa_cons _ _ _ _ _ (@L2.pv _ 6 _ _ (by rfl) (by first | exact Or.inl rfl | exact Or.inr (Or.inl rfl) | exact Or.inr (Or.inr rfl)) (by decide) (by decide)) (@pa_nil _) (by rfl)) (by decide) (by rfl) (by rfl)) (by intro _; rfl))) (@pss_one _ _ _ (@ps_raise _ _ _ _ _ _ _ _ _ (fun _ _ _ _ _ _ _ _ I m q => raises_out I m q) rfl rfl T.x_NoText T.xi_NoText (@pe_str _ _ _ _) (by decide) (by rfl) (by rfl))) (@pss_nil _)) (by exact (@pss_one _ _ _ (@ps_ret _ _ _ _ (@L2.pv _ 6 _ _ (by rfl) (by first | exact Or.inl rfl | exact Or.inr (Or.inl rfl) | exact Or.inr (Or.inr rfl)) (by decide) (by decide)))))))))))))))))), ?_⟩
    have hsl := sizeLine_eq
    obtain ⟨z, rfl, hz, q1, q2⟩ := h
    refine ⟨_, rfl, _, _, _, _, rfl, .str _, rfl, _, rfl, iteF ?_⟩
    refine ⟨_, rfl, rfl, z, rfl, rfl, by omega, fun l hl => ?_⟩
    have hsp := L2.split_le z
    have hSL := split_SL z
    unfold readC at q1 q2
    generalize PySem.Txt.split z " " = ws at hsp hSL q1 q2 ⊢
    have hwd : ∀ w ∈ ws, w.length ≤ 900 := fun w hw => by have := SL_mem hw; omega
    have s1 := same_upd (o := .lst (ws.map V.str)) hl
    have h1 : upd H l (.lst (ws.map V.str)) l = some (.lst (ws.map V.str)) := upd_same
    generalize upd H l (.lst (ws.map V.str)) = H1 at s1 h1 ⊢
    refine ⟨_, rfl, _, rfl, l, _, rfl, SqL.of h1, fun a1 ha1 => ?_⟩
    have c1 : cutV (ws.map V.str) none (some 2) = (ws.map V.str).take 2 := cutTo _ 2
    have c2 : cutV (ws.map V.str) (some 3) none = (ws.map V.str).drop 3 := cutFrom _ 3
    have c3 : cutV (ws.map V.str) (some 2) (some 3) = ((ws.map V.str).drop 2).take 1 := cutMid _
    rw [c1]
    have s2 := same_upd (o := .lst ((ws.map V.str).take 2)) ha1
    refine ⟨_, rfl, _, rfl, l, _, rfl, SqL.of (s2 _ _ h1), fun a2 ha2 => ?_⟩
    rw [c2]
    have s3 := same_upd (o := .lst ((ws.map V.str).drop 3)) ha2
    refine ⟨a1, a2, _, _, rfl, rfl, s3 _ _ upd_same, upd_same, by rw [List.length_take, List.length_drop, List.length_map]; omega, fun a3 ha3 => ?_⟩
    have sA := s2.trans (s3.trans (same_upd (o := .lst ((ws.map V.str).take 2 ++ (ws.map V.str).drop 3)) ha3))
    have h3 : upd (upd (upd H1 a1 (.lst ((ws.map V.str).take 2))) a2 (.lst ((ws.map V.str).drop 3))) a3 (.lst ((ws.map V.str).take 2 ++ (ws.map V.str).drop 3)) a3 = some (.lst ((ws.map V.str).take 2 ++ (ws.map V.str).drop 3)) := upd_same
    have h2 := sA _ _ h1
    generalize upd (upd (upd H1 a1 (.lst ((ws.map V.str).take 2))) a2 (.lst ((ws.map V.str).drop 3))) a3 (.lst ((ws.map V.str).take 2 ++ (ws.map V.str).drop 3)) = H3 at sA h2 h3 ⊢
    have s13 := s1.trans sA
    refine ⟨_, rfl, _, rfl, _, rfl, l, _, rfl, SqL.of h2, fun a4 ha4 => ?_⟩
    rw [c3]
    refine ⟨by show 1 ≤ sizeLine; omega, fun a5 ha5 => ?_⟩
    have t4 := same_upd (o := .lst (((ws.map V.str).drop 2).take 1)) ha4
    have t5 := same_upd (o := .lst [.str ":"]) ha5
    have s15 := s13.trans (t4.trans t5)
    have h5 := t5 _ _ (t4 _ _ h3)
    have h4 : upd (upd H3 a4 (.lst (((ws.map V.str).drop 2).take 1))) a5 (.lst [.str ":"]) a4 = some (.lst (((ws.map V.str).drop 2).take 1)) := t5 _ _ upd_same
    have h5' : upd (upd H3 a4 (.lst (((ws.map V.str).drop 2).take 1))) a5 (.lst [.str ":"]) a5 = some (.lst [.str ":"]) := upd_same
    generalize upd (upd H3 a4 (.lst (((ws.map V.str).drop 2).take 1))) a5 (.lst [.str ":"]) = H5 at s15 h5 h4 h5' ⊢
    rcases three_or ws with ⟨a, b, c, r, rfl⟩ | hfew
    rotate_left
    · have e0 : ((ws.map V.str).drop 2).take 1 = [] := by rw [List.drop_eq_nil_of_le (by rw [List.length_map]; omega)]; rfl
      rw [e0] at h4
      refine ⟨a4, a5, [], [.str ":"], rfl, rfl, .inl ⟨SqL.of h4, SqL.of h5'⟩, .inl ⟨by decide, fun j x y hx => by simp at hx, ?_⟩⟩
      refine ⟨_, rfl, iteT ?_⟩
      exact ⟨rfl, q2 (readW_few hfew) _ s15⟩
    have e0 : (((a :: b :: c :: r).map V.str).drop 2).take 1 = [.str c] := rfl
    rw [e0] at h4
    have e3 : (((a :: b :: c :: r).map V.str).take 2 ++ ((a :: b :: c :: r).map V.str).drop 3) = (a :: b :: r).map V.str := rfl
    rw [e3] at h5
    refine ⟨a4, a5, [.str c], [.str ":"], rfl, rfl, .inl ⟨SqL.of h4, SqL.of h5'⟩, .inr ⟨rfl, fun _ => decide (c = ":"), fun j x y hx hy => ?_, ?_⟩⟩
    · match j, hx, hy with
      | 0, hx, hy => cases hx; cases hy; exact eqD_strs c ":"
      | (j + 1), hx, hy => simp at hx
    have er : (List.range [V.str c].length).all (fun _ => decide (c = ":")) = decide (c = ":") := by
      show (List.range 1).all (fun _ => decide (c = ":")) = _
      simp
    rw [er, if_pos rfl]
    refine ⟨_, rfl, ?_⟩
    have hrw : readW (a :: b :: c :: r) = if (decide (c = ":") && ((a :: b :: r).all (isWr 4) && codeB (numV a) (numV b) (r.map numV))) = true then some (numV a, numV b, r.map numV) else none := by rw [four_two]; rfl
    rw [hrw] at q1 q2
    cases hc : decide (c = ":") with
    | false =>
      rw [hc] at q2
      refine iteT ?_
      exact ⟨rfl, q2 (if_neg (by simp)) _ s15⟩
    | true =>
    rw [hc, Bool.true_and] at q1 q2
    refine iteF ?_
    have hmem : ∀ w ∈ a :: b :: r, w.length ≤ 900 := fun w hw => hwd w (by
      rcases (List.mem_cons.mp hw) with rfl | hw
      · simp
      rcases (List.mem_cons.mp hw) with rfl | hw
      · simp
      · simp [hw])
    have hrl : r.length ≤ 900 := by simp only [List.length_cons] at hsp; omega
    refine ⟨_, rfl, a3, rfl, ⟨_, SqL.of h5⟩, comp_mapL (K := K) (xs := (a :: b :: r).map V.str) (fs := ((a :: b :: r).map (isWr 4)).map V.bl) (SqL.of h5) (by rw [List.length_map, List.length_map, List.length_map]) (by rw [List.length_map]; simp only [List.length_cons]; omega) ?_ ?_⟩
    · intro j x y R B hx hy hR
      rw [List.getElem?_map] at hx
      obtain ⟨w1, hw1, rfl⟩ := Option.map_eq_some_iff.mp hx
      rw [List.getElem?_map, List.getElem?_map, hw1] at hy
      obtain rfl : V.bl (isWr 4 w1) = y := Option.some.inj hy
      refine gY ?_
      exact ⟨_, rfl, w1, rfl, by have := hmem w1 (List.mem_of_getElem? hw1); omega, hR⟩
    intro D hD
    refine ⟨D, (a :: b :: r).map (isWr 4), rfl, SqL.of upd_same, ?_⟩
    have e : ((a :: b :: r).map (isWr 4)).all id = (a :: b :: r).all (isWr 4) := by rw [List.all_map]; rfl
    rw [e]
    have s16 := s15.trans (same_upd (o := .lst (((a :: b :: r).map (isWr 4)).map V.bl)) hD)
    have h6 := (same_upd (o := .lst (((a :: b :: r).map (isWr 4)).map V.bl)) hD) _ _ h5
    generalize upd H5 D (.lst (((a :: b :: r).map (isWr 4)).map V.bl)) = H6 at s16 h6 ⊢
    cases hall : (a :: b :: r).all (isWr 4) with
    | false =>
      rw [hall] at q2
      refine ⟨_, rfl, iteT ?_⟩
      exact ⟨rfl, q2 (if_neg (by simp)) _ s16⟩
    | true =>
    rw [hall, Bool.true_and] at q1 q2
    refine ⟨_, rfl, iteF ?_⟩
    refine ⟨_, rfl, a3, rfl, ⟨_, SqL.of h6⟩, comp_mapL (K := K) (xs := (a :: b :: r).map V.str) (fs := ((a :: b :: r).map numV).map V.int) (SqL.of h6) (by rw [List.length_map, List.length_map, List.length_map]) (by rw [List.length_map]; simp only [List.length_cons]; omega) ?_ ?_⟩
    · intro j x y R B hx hy hR
      rw [List.getElem?_map] at hx
      obtain ⟨w1, hw1, rfl⟩ := Option.map_eq_some_iff.mp hx
      rw [List.getElem?_map, List.getElem?_map, hw1] at hy
      obtain rfl : V.int (numV w1) = y := Option.some.inj hy
      obtain ⟨g1, g2, g3, _⟩ := okW_iff (wr_word (List.all_eq_true.mp hall w1 (List.mem_of_getElem? hw1)))
      refine gY ?_
      exact ⟨_, rfl, w1, rfl, g1, hR⟩
    intro D2 hD2
    have s17 := s16.trans (same_upd (o := .lst (((a :: b :: r).map numV).map V.int)) hD2)
    refine ⟨D2, .int (numV a), .int (numV b), (r.map numV).map V.int, rfl, SqL.of upd_same, by rw [List.length_map, List.length_map]; omega, fun l5 hl5 => ?_⟩
    have s18 := s17.trans (same_upd (o := .lst ((r.map numV).map V.int)) hl5)
    refine ⟨_, _, rfl, _, _, rfl, _, _, rfl, rfl, ?_⟩
    refine ⟨_, rfl, _, rfl, _, rfl, l5, _, rfl, .inl ⟨SqL.of upd_same, fun tt htt => ?_⟩⟩
    have s19 := s18.trans (same_upd (o := .tup ((r.map numV).map V.int)) htt)
    refine ⟨by show 3 ≤ sizeLine; omega, fun c' hc' => ?_⟩
    have s20 := s19.trans (same_upd (o := .tup [.int (numV a), .int (numV b), .ref tt]) hc')
    have hcc : CodeAt (upd (upd (upd (upd H6 D2 (.lst (((a :: b :: r).map numV).map V.int))) l5 (.lst ((r.map numV).map V.int))) tt (.tup ((r.map numV).map V.int))) c' (.tup [.int (numV a), .int (numV b), .ref tt])) c' tt (numV a) (numV b) (r.map numV) := ⟨upd_same, (same_upd hc') _ _ upd_same⟩
    refine ⟨_, rfl, c', tt, _, _, _, rfl, hcc, fun H' s' => ⟨_, rfl, ?_⟩⟩
    cases hcb : codeB (numV a) (numV b) (r.map numV) with
    | false =>
      rw [hcb] at q2
      refine iteT ?_
      exact ⟨rfl, q2 (if_neg (by simp)) _ (s20.trans s')⟩
    | true =>
      rw [hcb] at q1
      refine iteF ?_
      exact ⟨_, rfl, q1 _ _ _ (if_pos rfl) c' tt H' (s19.free hc') (s20.trans s') (hcc.same s')⟩
end
end My

end
section
set_option maxHeartbeats 3999000
namespace My
open PySem L2 PyProof.Rows
section
variable {P : Program} {w : World} {K : PySem.W.Frag} {mg : Str → Option Value} {base : Heap} {t : Adr}
/-! ### the law's own reader -/
/-- a comprehension with a test over a text -/
theorem comp_filS {z : Str} {kp : Nat → Bool} {g : TG} {ts : TT} {te : TE} {σ0 : L2.St} {Q : VK} {H : Hp} (hn : z.length ≤ 10000)
    (hs : ∀ (i : Nat) (c : Nat) (R : VK) (B : Hp → Prop), z.cps.toList[i]? = some c → (if kp c = true then R (.str ⟨#[c]⟩) H else B H) → g (.str ⟨#[c]⟩) σ0 H fun σ2 H2 => ts σ2 H2 fun b H3 => if b = true then te σ2 H3 R else B H3)
    (hd : ∀ D, H D = none → Q (.ref D) (upd H D (.lst ((z.cps.toList.filter kp).map fun c => V.str ⟨#[c]⟩)))) : cGo g ts te σ0 (Its z) Q H := by
  have hl := str_len z
  have hsz : z.cps.size = z.cps.toList.length := by simp
  refine comp_by (n := z.cps.size) (fun i ys H' => ys = ((z.cps.toList.take i).filter kp).map (fun c => V.str ⟨#[c]⟩) ∧ H' = H) ⟨by simp, rfl⟩ (fun i ys H' hi _ => hi) (fun ys H' _ => Nat.le_refl _) ?_ ?_
  · rintro i x ys H3 H4 hi ⟨rfl, rfl⟩ ⟨rfl, c, hc, rfl⟩
    have hc' : z.cps.toList[i]? = some c := by rw [Array.getElem?_toList]; exact hc
    refine hs i c _ _ hc' ?_
    have ht : z.cps.toList.take (i + 1) = z.cps.toList.take i ++ [c] := by
      rw [List.take_succ, hc']
      rfl
    rw [ht, List.filter_append, List.map_append]
    by_cases h : kp c = true
    · rw [if_pos h]
      refine ⟨small_line ?_, ?_, rfl⟩
      · rw [List.length_map]
        exact Nat.le_trans (List.length_filter_le _ _) (Nat.le_trans (List.length_take_le _ _) (by omega))
      · congr 1
        simp [h]
    · rw [if_neg h]
      refine ⟨?_, rfl⟩
      simp [h]
  · rintro ys H3 D ⟨rfl, rfl⟩ hD
    rw [hsz, List.take_length]
    exact hd D hD
theorem digs_is : ("0123456789" : Str).cps.toList = [48, 49, 50, 51, 52, 53, 54, 55, 56, 57] := by decide +kernel
theorem in_digs (c : Nat) : (!(PySem.Builtin.Str.occurrences "0123456789" ⟨#[c]⟩ 0 ("0123456789" : Str).length 1).isEmpty) = digB c := by
  rw [PySem.StrLaws.found_one, digs_is]
  unfold digB
  rw [Bool.eq_iff_iff]
  simp only [decide_eq_true_eq, Bool.and_eq_true, List.mem_cons, List.not_mem_nil, or_false]
  omega
theorem fil_digs (z : Str) : (z.cps.toList.filter (fun c => !digB c) = []) ↔ z.cps.all digB = true := by
  rw [List.filter_eq_nil_iff, Array.all_eq_true']
  constructor
  · intro h x hx
    have := h x (by simpa using hx)
    simpa using this
  · intro h x hx
    rw [h x (by simpa using hx)]
    decide
def vN (z : Str) : V := if isWr 2 z = true then .int (numV z) else .non
def sp_l_number (K : PySem.W.Frag) : Sp := fun vs H Q _ => ∃ z : Str, vs = [.str z, .int 2] ∧ z.length ≤ 10000 ∧ ∀ H', Same H H' → Q (vN z) H'
theorem sc_l_number : FnScope ["word", "most"] ["word", "most"] (defScope s_l_number) := ⟨rfl, rfl, rfl, by decide +kernel, rfl, by decide +kernel, by decide +kernel⟩
theorem ok_l_number {fd : FuncData} (T : Txt K mg t) (F : Fun K "_law_number" "_law_number" s_l_number t.l_number fd) : FnOk P w K mg base CX0 1 t.l_number fd ["word", "most"] (sp_l_number K) := by
  refine F.ok sc_l_number (fun vs H Q E h => ?_) (fun cdv A outer s H vs Q E hr h => ?_)
  · obtain ⟨z, rfl, _⟩ := h
    rfl
  · have hu : (A.deeper (envOfC (Str.ofString "_law_number") (defScope s_l_number) s.heap.objs.size t.l_number cdv)).units + 20 < cLine := by have := hr.units; omega
    obtain ⟨z, rfl, hz, q⟩ := h
    refine ⟨_, (@pss_cons _ _ _ _ _ (@ps_mid _ _ _ (@ps_if _ _ _ _ _ _ _ _ (@PW.pt _ _ _ (@pw_or _ _ _ _ _ _ _ (@pt_cmpR _ _ _ _ _ _ _ _ (@op_eq _) (@L2.pv _ 0 _ _ (by rfl) (by first | exact Or.inl rfl | exact Or.inr (Or.inl rfl) | exact Or.inr (Or.inr rfl)) (by decide) (by decide)) (@pe_str _ _ _ _) (nomark _)) (@pw_or _ _ _ _ _ _ _ (@pt_cmpR _ _ _ _ _ _ _ _ (@op_gt _) (@pe_callB _ _ _ _ _ _ _ _ _ (@call_len_str _) (by rfl) T.len_ boot_len (@pa_cons _ _ _ _ _ (@L2.pv _ 0 _ _ (by rfl) (by first | exact Or.inl rfl | exact Or.inr (Or.inl rfl) | exact Or.inr (Or.inr rfl)) (by decide) (by decide)) (@pa_nil _) (by rfl)) (by decide) (by decide) (by rfl) (by rfl)) (@L2.pv _ 1 _ _ (by rfl) (by first | exact Or.inl rfl | exact Or.inr (Or.inl rfl) | exact Or.inr (Or.inr rfl)) (by decide) (by decide)) (nomark _)) (@pw_or1 _ _ _ _ (@PW.pt _ _ _ (@pw_and _ _ _ _ _ _ _ (@pt_cmpR _ _ _ _ _ _ _ _ (@op_eq _) (@pe_ix _ _ _ _ _ _ _ (@ix_str _) (@L2.pv _ 0 _ _ (by rfl) (by first | exact Or.inl rfl | exact Or.inr (Or.inl rfl) | exact Or.inr (Or.inr rfl)) (by decide) (by decide)) (@pe_int _ _ _ _) (fun _ _ => rfl)) (@pe_str _ _ _ _) (nomark _)) (@pw_and1 _ _ _ _ (@pt_cmpR _ _ _ _ _ _ _ _ (@op_ne _) (@L2.pv _ 0 _ _ (by rfl) (by first | exact Or.inl rfl | exact Or.inr (Or.inl rfl) | exact Or.inr (Or.inr rfl)) (by decide) (by decide)) (@pe_str _ _ _ _) (nomark _))))))))) (@pss_one _ _ _ (@ps_ret _ _ _ _ (@pe_non _ _ _))) (@pss_nil _))) (by exact (@pss_cons _ _ _ _ _ (@ps_if _ _ _ _ _ _ _ _ (@pt_cmpR _ _ _ _ _ _ _ _ (@op_neD _ hu) (@pe_comp _ _ _ _ _ _ _ _ _ _ _ _ _ (CompSc.of (N' := ["sign"]) (ix := [none]) (defScope s_l_number) ["word", "most"] rfl rfl (by decide +kernel)) rfl (@gk_name _ _ rfl) (@pi_str _ _ _ _ (@L2.pv _ 0 _ _ (by rfl) (by first | exact Or.inl rfl | exact Or.inr (Or.inl rfl) | exact Or.inr (Or.inr rfl)) (by decide) (by decide))) (fun _ _ _ _ => (@pg_name _ _ (0) _ (show (["sign"] : List Str).Nodup by decide +kernel) rfl (Or.inl rfl) (by first | exact .inl rfl | exact .inr rfl | assumption))) (fun _ _ _ _ => (@pifs_one _ _ _ (@pt_cmpR _ _ _ _ _ _ _ _ (@op_notin_str _) (@L2.pv _ 0 _ _ (by rfl) (by first | exact Or.inl rfl | exact Or.inr (Or.inl rfl) | exact Or.inr (Or.inr rfl)) (by decide) (by decide)) (@pe_str _ _ _ _) (by with_unfolding_all rfl)))) (fun _ _ _ _ => (@L2.pv _ 0 _ _ (by rfl) (by first | exact Or.inl rfl | exact Or.inr (Or.inl rfl) | exact Or.inr (Or.inr rfl)) (by decide) (by decide))) (by intro _; rfl)) (@pe_lst _ _ _ _ (@pa_nil _)) (nomark _)) (@pss_one _ _ _ (@ps_ret _ _ _ _ (@pe_non _ _ _))) (@pss_nil _)) (by exact (@pss_one _ _ _ (@ps_ret _ _ _ _ (@pe_callTy _ _ _ _ _ _ _ _ _ (@call_intD _) (by rfl) T.int_ boot_int (@pa_cons _ _ _ _ _ (@L2.pv _ 0 _ _ (by rfl) (by first | exact Or.inl rfl | exact Or.inr (Or.inl rfl) | exact Or.inr (Or.inr rfl)) (by decide) (by decide)) (@pa_nil _) (by rfl)) (by decide) (by decide) (by rfl) (by rfl)))))))), ?_⟩
    have hsl := sizeLine_eq
    have non : isWr 2 z = false → Q .non H := fun e => by
      have := q H (fun _ _ e => e)
      unfold vN at this
      rw [if_neg (by rw [e]; decide)] at this
      exact this
    refine ⟨fun σ' H' => σ' = [some (.str z), some (.int 2)] ∧ H' = H ∧ isWr 2 z = z.cps.all digB, ?_, ?_⟩
    · refine ⟨_, rfl, rfl, _, rfl, ?_⟩
      by_cases h1 : z = ""
      · rw [decide_eq_true (by rw [h1])]
        exact iteT (non (by rw [h1]; decide +kernel))
      rw [decide_eq_false (fun w' => h1 (by injection w'))]
      refine iteF ?_
      have h0 : 1 ≤ z.length := by
        rcases Nat.eq_zero_or_pos z.length with e | e
        · exact absurd (Str.ext' (Array.eq_empty_of_size_eq_zero e)) h1
        · exact e
      refine ⟨_, rfl, z, rfl, by omega, _, rfl, _, _, rfl, rfl, _, rfl, ?_⟩
      by_cases h2 : z.length ≤ 2
      rotate_left
      · rw [decide_eq_true (show ((2 : Int) < (z.length : Nat)) by omega)]
        exact iteT (non (by unfold isWr; rw [decide_eq_false h2]; simp))
      rw [decide_eq_false (show ¬ ((2 : Int) < (z.length : Nat)) by omega)]
      refine iteF ?_
      have hl := str_len z
      have hc : z.cps.toList[0]? = some (z.cps.toList[0]'(by omega)) := List.getElem?_eq_getElem (by omega)
      have hat : atI z.cps.toList 0 = some (z.cps.toList[0]'(by omega)) := atI_nat (j := 0) hc
      refine ⟨_, rfl, z, 0, _, rfl, rfl, by omega, hat, rfl, _, rfl, ?_⟩
      have ew : isWr 2 z = (z.cps.all digB && (decide (z = "0") || decide (z.cps.toList[0]? ≠ some 48))) := by unfold isWr; rw [decide_eq_true h0, decide_eq_true h2]; rfl
      rw [hc] at ew
      generalize z.cps.toList[0]'(by omega) = c at ew ⊢
      by_cases h3 : c = 48
      rotate_left
      · rw [decide_eq_false (fun w' => h3 (one_zero.mp (by injection w')))]
        refine iteF (iteF ⟨rfl, rfl, ?_⟩)
        rw [ew, decide_eq_true (show some c ≠ some 48 from fun e => h3 (by injection e))]
        simp
      · rw [decide_eq_true (by rw [one_zero.mpr h3])]
        refine iteT ?_
        refine ⟨_, rfl, rfl, _, rfl, ?_⟩
        by_cases h4 : z = "0"
        · rw [decide_eq_true (by rw [h4])]
          refine iteF ⟨rfl, rfl, ?_⟩
          rw [ew, decide_eq_true h4]
          simp
        · rw [decide_eq_false (fun w' => h4 (by injection w'))]
          refine iteT (non ?_)
          rw [ew, decide_eq_false h4, decide_eq_false (show ¬ (some c ≠ some 48) from fun e => e (by rw [h3]))]
          simp
    · rintro σ' H' ⟨rfl, rfl, ew⟩
      refine ⟨_, rfl, z, rfl, comp_filS (kp := fun c => !digB c) hz ?_ ?_⟩
      · intro i c R B hc hR
        refine ⟨_, rfl, _, _, rfl, rfl, _, rfl, ?_⟩
        rw [in_digs]
        cases hd : digB c with
        | true =>
          rw [if_neg (by rw [hd]; decide)] at hR
          exact iteF hR
        | false =>
          rw [if_pos (by rw [hd]; rfl)] at hR
          exact iteT ⟨_, rfl, hR⟩
      intro D hD
      refine ⟨by show 0 ≤ sizeLine; omega, fun b1 hb1 => ?_⟩
      have s1 := same_upd (o := .lst ((z.cps.toList.filter (fun c => !digB c)).map fun c => V.str ⟨#[c]⟩)) hD
      have s2 := s1.trans (same_upd (o := .lst []) hb1)
      have hD1 := (same_upd (o := .lst []) hb1) _ _ (upd_same (H := H') (a := D) (o := .lst ((z.cps.toList.filter (fun c => !digB c)).map fun c => V.str ⟨#[c]⟩)))
      refine ⟨D, b1, _, [], rfl, rfl, .inl ⟨SqL.of hD1, SqL.of upd_same⟩, ?_⟩
      by_cases hf : z.cps.toList.filter (fun c => !digB c) = []
      · rw [hf]
        refine .inr ⟨rfl, fun _ => true, fun j x y hx => by simp at hx, ?_⟩
        refine ⟨_, rfl, iteF ?_⟩
        have e : isWr 2 z = true := by rw [ew]; exact (fil_digs z).mp hf
        have e4 : isWr 4 z = true := by rw [wr_two, Bool.and_eq_true] at e; exact e.1
        obtain ⟨g1, g2, g3, _⟩ := okW_iff (wr_word e4)
        have q' := q _ s2
        unfold vN at q'
        rw [if_pos e] at q'
        rw [hf] at q'
        exact ⟨_, rfl, z, rfl, g1, q'⟩
      · refine .inl ⟨?_, fun j x y hx hy => by simp at hy, ?_⟩
        · rw [List.length_map]
          intro e
          exact hf (List.length_eq_zero_iff.mp e)
        · refine ⟨_, rfl, iteT ?_⟩
          have e : isWr 2 z = false := by
            rw [ew]
            cases ha : z.cps.all digB with
            | false => rfl
            | true => exact absurd ((fil_digs z).mpr ha) hf
          have q' := q _ s2
          unfold vN at q'
          rw [if_neg (by rw [e]; decide)] at q'
          exact q'
end
end My

end
section
set_option maxHeartbeats 3999000
namespace My
open PySem L2 PyProof.Rows
section
variable {P : Program} {w : World} {K : PySem.W.Frag} {mg : Str → Option Value} {base : Heap} {t : Adr}
/-- a comprehension over a list, the heap growing -/
theorem comp_growL {a : Addr} {xs fs : List V} {g : TG} {ts : TT} {te : TE} {σ0 : L2.St} {Q : VK} {H : Hp} (ha : SqL K H a xs) (hl : fs.length = xs.length) (hn : xs.length ≤ 10000)
    (hs : ∀ (i : Nat) (x y : V) (H1 : Hp) (R : VK) (B : Hp → Prop), Same H H1 → xs[i]? = some x → fs[i]? = some y → (∀ H2, Same H1 H2 → R y H2) → g x σ0 H1 fun σ2 H2 => ts σ2 H2 fun b H3 => if b = true then te σ2 H3 R else B H3)
    (hd : ∀ D H1, Same H H1 → H1 D = none → Q (.ref D) (upd H1 D (.lst fs))) : cGo g ts te σ0 (Itl K a) Q H := by
  refine comp_by (n := xs.length) (fun i ys H' => ys = fs.take i ∧ Same H H') ⟨by simp, fun _ _ e => e⟩ ?_ ?_ ?_ ?_
  · rintro i ys H3 hi ⟨_, s3⟩
    exact ⟨_, xs[i], s3.seq ha, by simp⟩
  · rintro ys H3 ⟨_, s3⟩
    exact ⟨_, s3.seq ha, Nat.le_refl _⟩
  · rintro i x ys H3 H4 hi ⟨rfl, s3⟩ ⟨rfl, hx⟩
    have hy : fs[i]? = some (fs[i]'(by omega)) := List.getElem?_eq_getElem (by omega)
    refine hs i x _ _ _ _ s3 (hx _ (s3.seq ha)) hy fun H5 s5 => ?_
    refine ⟨small_line (Nat.le_trans (List.length_take_le _ _) (by omega)), ?_, s3.trans s5⟩
    rw [take_snoc hy]
  · rintro ys H3 D ⟨rfl, s3⟩ hD
    rw [List.take_of_length_le (by omega)]
    exact hd D H3 s3 hD
theorem readW_eq (a b c : Str) (r : List Str) : readW (a :: b :: c :: r) = if (decide (c = ":") && ((a :: b :: r).all (isWr 2) && codeB (numV a) (numV b) (r.map numV))) = true then some (numV a, numV b, r.map numV) else none := rfl
theorem readW_lt4 {ws : List Str} (h : ws.length < 4) : readW ws = none := by
  match ws, h with
  | [], _ => rfl
  | [_], _ => rfl
  | [_, _], _ => rfl
  | [a, b, c], _ =>
    rw [readW_eq, if_neg]
    intro e
    simp only [Bool.and_eq_true] at e; have co := codeB_iff.mp e.2.2
    have h1 := co.k1
    have h2 := co.kl
    simp at h2
    omega
  | _ :: _ :: _ :: _ :: _, h => simp only [List.length_cons] at h; omega
theorem four_ws {ws : List Str} (h : ¬ ws.length < 4) : ∃ a b c r, ws = a :: b :: c :: r ∧ r ≠ [] := by
  match ws, h with
  | [], h => simp at h
  | [_], h => simp at h
  | [_, _], h => simp at h
  | [_, _, _], h => simp at h
  | a :: b :: c :: d :: r, _ => exact ⟨a, b, c, d :: r, rfl, by simp⟩
theorem vN_flat (z : Str) : flatV (vN z) = true := by unfold vN; split <;> rfl
theorem vN_non (z : Str) : eqV (vN z) .non = !isWr 2 z := by
  unfold vN
  cases e : isWr 2 z with
  | true => rw [if_pos rfl]; rfl
  | false => rw [if_neg (by decide)]; rfl
theorem in_vN (ws : List Str) : inV .non (ws.map vN) = !(ws.all (isWr 2)) := by
  unfold inV
  rw [List.any_map]
  induction ws with
  | nil => rfl
  | cons w ws ih =>
    rw [List.any_cons, ih, List.all_cons, Bool.not_and]
    show (eqV (vN w) .non || _) = _
    rw [vN_non]
def sp_l_read (K : PySem.W.Frag) : Sp := fun vs H Q _ => ∃ z : Str, vs = [.str z] ∧ z.length ≤ 900 ∧
  (∀ (p k : Int) (pl : List Int), readC z = some (p, k, pl) → ∀ (c tt : Addr) (H' : Hp), H c = none → Same H H' → CodeAt H' c tt p k pl → Q (.ref c) H') ∧ (readC z = none → ∀ H', Same H H' → Q .non H')
theorem sc_l_read : FnScope ["text", "words", "numbers", "p", "k", "places"] ["text"] (defScope s_l_read) := ⟨rfl, rfl, rfl, by decide +kernel, rfl, by decide +kernel, by decide +kernel⟩
theorem ok_l_read {fd : FuncData} (T : Txt K mg t) (F : Fun K "_law_read" "_law_read" s_l_read t.l_read fd) : FnOk P w K mg base CX0 2 t.l_read fd ["text"] (sp_l_read K) := by
  obtain ⟨fd_l_number, F_l_number, b_l_number⟩ := T.f_l_number
  have G_l_number := ok_l_number (P := P) (w := w) (base := base) T F_l_number
  refine F.ok sc_l_read (fun vs H Q E h => ?_) (fun cdv A outer s H vs Q E hr h => ?_)
  · obtain ⟨z, rfl, _⟩ := h
    rfl
  · have hu : (A.deeper (envOfC (Str.ofString "_law_read") (defScope s_l_read) s.heap.objs.size t.l_read cdv)).units + 20 < cLine := by have := hr.units; omega
    obtain ⟨z, rfl, hz, q1, q2⟩ := h
    refine ⟨_, (@pss_cons _ _ _ _ _ (@ps_set _ _ (1) _ _ _ _ sc_l_read.nd rfl (Or.inl rfl) (@pe_bm _ _ _ _ _ _ _ _ _ _ _ _ PySem.F.plainAttrs_str PySem.F.slot_str_split PySem.F.type_str_split (@mt_splitG _) (@L2.pv _ 0 _ _ (by rfl) (by first | exact Or.inl rfl | exact Or.inr (Or.inl rfl) | exact Or.inr (Or.inr rfl)) (by decide) (by decide)) (@pa_cons _ _ _ _ _ (@pe_str _ _ _ _) (@pa_nil _) (by rfl)) (by rfl) (by rfl) (by rfl) (by rfl) (by rfl)) (by rfl) (by first | exact .inl rfl | exact .inr rfl | assumption)) (by exact (@pss_cons _ _ _ _ _ (@ps_if _ _ _ _ _ _ _ _ (@PW.pt _ _ _ (@pw_or _ _ _ _ _ _ _ (@pt_cmpR _ _ _ _ _ _ _ _ (@op_lt _) (@pe_callB _ _ _ _ _ _ _ _ _ (@call_len_seq _) (by rfl) T.len_ boot_len (@pa_cons _ _ _ _ _ (@L2.pv _ 1 _ _ (by rfl) (by first | exact Or.inl rfl | exact Or.inr (Or.inl rfl) | exact Or.inr (Or.inr rfl)) (by decide) (by decide)) (@pa_nil _) (by rfl)) (by decide) (by decide) (by rfl) (by rfl)) (@pe_int _ _ _ _) (nomark _)) (@pw_or1 _ _ _ _ (@pt_cmpR _ _ _ _ _ _ _ _ (@op_ne _) (@pe_ix _ _ _ _ _ _ _ (@ix_list _) (@L2.pv _ 1 _ _ (by rfl) (by first | exact Or.inl rfl | exact Or.inr (Or.inl rfl) | exact Or.inr (Or.inr rfl)) (by decide) (by decide)) (@pe_int _ _ _ _) (fun _ _ => rfl)) (@pe_str _ _ _ _) (nomark _))))) (@pss_one _ _ _ (@ps_ret _ _ _ _ (@pe_non _ _ _))) (@pss_nil _)) (by exact (@pss_cons _ _ _ _ _ (@ps_setComp _ _ _ _ _ _ _ _ _ _ _ _ _ (2) _ _ _ sc_l_read.nd rfl (Or.inl rfl) (CompSc.of (N' := ["word"]) (ix := [none]) (defScope s_l_read) ["text", "words", "numbers", "p", "k", "places"] rfl rfl (by decide +kernel)) rfl (@gk_name _ _ rfl) (@pi_list _ _ _ _ (@pe_op _ _ _ _ _ _ _ _ (@op_cat _) (@pe_slice _ _ _ _ _ _ _ _ _ _ sl_list (@L2.pv _ 1 _ _ (by rfl) (by first | exact Or.inl rfl | exact Or.inr (Or.inl rfl) | exact Or.inr (Or.inr rfl)) (by decide) (by decide)) (@po_none _) (@po_some _ _ _ (@pe_int _ _ _ _))) (@pe_slice _ _ _ _ _ _ _ _ _ _ sl_list (@L2.pv _ 1 _ _ (by rfl) (by first | exact Or.inl rfl | exact Or.inr (Or.inl rfl) | exact Or.inr (Or.inr rfl)) (by decide) (by decide)) (@po_some _ _ _ (@pe_int _ _ _ _)) (@po_none _)))) (fun _ _ _ _ => (@pg_name _ _ (0) _ (show (["word"] : List Str).Nodup by decide +kernel) rfl (Or.inl rfl) (by first | exact .inl rfl | exact .inr rfl | assumption))) (fun _ _ _ _ => (@pifs_nil _)) (fun _ _ _ _ => (@pe_call _ _ _ _ _ _ _ _ _ _ _ _ _ _ _ _ G_l_number (hr.mono (by decide)) rfl T.m_l_number F_l_number.kp b_l_number .nil (@pass0 _) (@pa_cons _ _ _ _ _ (@L2.pv _ 0 _ _ (by rfl) (by first | exact Or.inl rfl | exact Or.inr (Or.inl rfl) | exact Or.inr (Or.inr rfl)) (by decide) (by decide)) (@pa_cons _ _ _ _ _ (@pe_int _ _ _ _) (@pa_nil _) (by rfl)) (by rfl)) (by decide) (by rfl) (by rfl))) (by rfl) (by intro _; rfl) (by first | exact .inl rfl | exact .inr rfl | assumption)) (by exact (@pss_cons _ _ _ _ _ (@ps_if _ _ _ _ _ _ _ _ (@pt_cmpR _ _ _ _ _ _ _ _ (@op_in_seq _) (@pe_non _ _ _) (@L2.pv _ 2 _ _ (by rfl) (by first | exact Or.inl rfl | exact Or.inr (Or.inl rfl) | exact Or.inr (Or.inr rfl)) (by decide) (by decide)) (by with_unfolding_all rfl)) (@pss_one _ _ _ (@ps_ret _ _ _ _ (@pe_non _ _ _))) (@pss_nil _)) (by exact (@pss_cons _ _ _ _ _ (@ps_asg _ _ _ _ _ _ (@pe_slice _ _ _ _ _ _ _ _ _ _ sl_list (@L2.pv _ 2 _ _ (by rfl) (by first | exact Or.inl rfl | exact Or.inr (Or.inl rfl) | exact Or.inr (Or.inr rfl)) (by decide) (by decide)) (@po_none _) (@po_some _ _ _ (@pe_int _ _ _ _))) (@pg_lst _ _ _ _ _ _ rfl (@pgs_cons _ _ _ _ _ (@pg_name _ _ (3) _ sc_l_read.nd rfl (Or.inr rfl) (by first | exact .inl rfl | exact .inr rfl | assumption)) (@pgs_cons _ _ _ _ _ (@pg_name _ _ (4) _ sc_l_read.nd rfl (Or.inl rfl) (by first | exact .inl rfl | exact .inr rfl | assumption)) (@pgs_nil _) (by rfl)) (by rfl)) (by rfl) (by rfl)) (by rfl) (by rfl) (by rfl)) (by exact (@pss_cons _ _ _ _ _ (@ps_set _ _ (5) _ _ _ _ sc_l_read.nd rfl (Or.inl rfl) (@pe_slice _ _ _ _ _ _ _ _ _ _ sl_list (@L2.pv _ 2 _ _ (by rfl) (by first | exact Or.inl rfl | exact Or.inr (Or.inl rfl) | exact Or.inr (Or.inr rfl)) (by decide) (by decide)) (@po_some _ _ _ (@pe_int _ _ _ _)) (@po_none _)) (by rfl) (by first | exact .inl rfl | exact .inr rfl | assumption)) (by exact (@pss_cons _ _ _ _ _ (@ps_if _ _ _ _ _ _ _ _ (@PW.pt _ _ _ (@pw_or _ _ _ _ _ _ _ (@pt_not _ _ _ _ (@pt_chain _ _ _ _ _ _ _ _ _ _ _ _ (@op_le _) (@op_lt _) (@pe_int _ _ _ _) (@L2.pv _ 3 _ _ (by rfl) (by first | exact Or.inl rfl | exact Or.inr (Or.inl rfl) | exact Or.inr (Or.inr rfl)) (by decide) (by decide)) (@pe_int _ _ _ _) (by with_unfolding_all rfl))) (@pw_or _ _ _ _ _ _ _ (@pt_cmpR _ _ _ _ _ _ _ _ (@op_neD _ hu) (@pe_comp _ _ _ _ _ _ _ _ _ _ _ _ _ (CompSc.of (N' := ["j", "p"]) (ix := [none, some 3]) (defScope s_l_read) ["text", "words", "numbers", "p", "k", "places"] rfl rfl (by decide +kernel)) rfl (@gk_name _ _ rfl) (@pi_range2 _ _ _ _ _ _ _ rfl T.range_ (@pa_cons _ _ _ _ _ (@pe_int _ _ _ _) (@pa_cons _ _ _ _ _ (@pe_int _ _ _ _) (@pa_nil _) (by rfl)) (by rfl)) (by rfl) (by rfl)) (fun _ _ _ _ => (@pg_name _ _ (0) _ (show (["j", "p"] : List Str).Nodup by decide +kernel) rfl (Or.inl rfl) (by first | exact .inl rfl | exact .inr rfl | assumption))) (fun _ _ _ _ => (@pifs_one _ _ _ (@PW.pt _ _ _ (@pw_and _ _ _ _ _ _ _ (@pt_cmpR _ _ _ _ _ _ _ _ (@op_eq _) (@pe_op _ _ _ _ _ _ _ _ (@op_mod _) (@L2.pv _ 1 _ _ (by rfl) (by first | exact Or.inl rfl | exact Or.inr (Or.inl rfl) | exact Or.inr (Or.inr rfl)) (by decide) (by decide)) (@L2.pv _ 0 _ _ (by rfl) (by first | exact Or.inl rfl | exact Or.inr (Or.inl rfl) | exact Or.inr (Or.inr rfl)) (by decide) (by decide))) (@pe_int _ _ _ _) (nomark _)) (@pw_and1 _ _ _ _ (@pt_cmpR _ _ _ _ _ _ _ _ (@op_ne _) (@L2.pv _ 1 _ _ (by rfl) (by first | exact Or.inl rfl | exact Or.inr (Or.inl rfl) | exact Or.inr (Or.inr rfl)) (by decide) (by decide)) (@L2.pv _ 0 _ _ (by rfl) (by first | exact Or.inl rfl | exact Or.inr (Or.inl rfl) | exact Or.inr (Or.inr rfl)) (by decide) (by decide)) (nomark _))))))) (fun _ _ _ _ => (@L2.pv _ 0 _ _ (by rfl) (by first | exact Or.inl rfl | exact Or.inr (Or.inl rfl) | exact Or.inr (Or.inr rfl)) (by decide) (by decide))) (by intro _; rfl)) (@pe_lst _ _ _ _ (@pa_nil _)) (nomark _)) (@pw_or1 _ _ _ _ (@pt_not _ _ _ _ (@pt_chain _ _ _ _ _ _ _ _ _ _ _ _ (@op_le _) (@op_lt _) (@pe_int _ _ _ _) (@L2.pv _ 4 _ _ (by rfl) (by first | exact Or.inl rfl | exact Or.inr (Or.inl rfl) | exact Or.inr (Or.inr rfl)) (by decide) (by decide)) (@pe_int _ _ _ _) (by with_unfolding_all rfl))))))) (@pss_one _ _ _ (@ps_ret _ _ _ _ (@pe_non _ _ _))) (@pss_nil _)) (by exact (@pss_cons _ _ _ _ _ (@ps_if _ _ _ _ _ _ _ _ (@PW.pt _ _ _ (@pw_or _ _ _ _ _ _ _ (@pt_not _ _ _ _ (@pt_chain _ _ _ _ _ _ _ _ _ _ _ _ (@op_le _) (@op_lt _) (@L2.pv _ 4 _ _ (by rfl) (by first | exact Or.inl rfl | exact Or.inr (Or.inl rfl) | exact Or.inr (Or.inr rfl)) (by decide) (by decide)) (@pe_callB _ _ _ _ _ _ _ _ _ (@call_len_seq _) (by rfl) T.len_ boot_len (@pa_cons _ _ _ _ _ (@L2.pv _ 5 _ _ (by rfl) (by first | exact Or.inl rfl | exact Or.inr (Or.inl rfl) | exact Or.inr (Or.inr rfl)) (by decide) (by decide)) (@pa_nil _) (by rfl)) (by decide) (by decide) (by rfl) (by rfl)) (@pe_int _ _ _ _) (by with_unfolding_all rfl))) (@pw_or _ _ _ _ _ _ _ (@pt_cmpR _ _ _ _ _ _ _ _ (@op_lt _) (@pe_callB _ _ _ _ _ _ _ _ _ (@call_lenSet _) (by rfl) T.len_ boot_len (@pa_cons _ _ _ _ _ (@pe_callTy _ _ _ _ _ _ _ _ _ (@call_setG _ rfl) (by rfl) T.set_ boot_set (@pa_cons _ _ _ _ _ (@L2.pv _ 5 _ _ (by rfl) (by first | exact Or.inl rfl | exact Or.inr (Or.inl rfl) | exact Or.inr (Or.inr rfl)) (by decide) (by decide)) (@pa_nil _) (by rfl)) (by decide) (by decide) (by rfl) (by rfl)) (@pa_nil _) (by rfl)) (by decide) (by decide) (by rfl) (by rfl)) (@pe_callB _ _ _ _ _ _ _ _ _ (@call_len_seq _) (by rfl) T.len_ boot_len (@pa_cons _ _ _ _ _ (@L2.pv _ 5 _ _ (by rfl) (by first | exact Or.inl rfl | exact Or.inr (Or.inl rfl) | exact Or.inr (Or.inr rfl)) (by decide) (by decide)) (@pa_nil _) (by rfl)) (by decide) (by decide) (by rfl) (by rfl)) (nomark _)) (@pw_or1 _ _ _ _ (@pt_cmpR _ _ _ _ _ _ _ _ (@op_ge _) (@pe_callB _ _ _ _ _ _ _ _ _ (@call_maxL _ rfl) (by rfl) T.max_ boot_max (@pa_cons _ _ _ _ _ (@L2.pv _ 5 _ _ (by rfl) (by first | exact Or.inl rfl | exact Or.inr (Or.inl rfl) | exact Or.inr (Or.inr rfl)) (by decide) (by decide)) (@pa_nil _) (by rfl)) (by decide) (by decide) (by rfl) (by rfl)) (@L2.pv _ 3 _ _ (by rfl) (by first | exact Or.inl rfl | exact Or.inr (Or.inl rfl) | exact Or.inr (Or.inr rfl)) (by decide) (by decide)) (nomark _)))))) (@pss_one _ _ _ (@ps_ret _ _ _ _ (@pe_non _ _ _))) (@pss_nil _)) (by exact (@pss_one _ _ _ (@ps_ret _ _ _ _ (@pe_tup _ _ _ _ _ (@pa_cons _ _ _ _ _ (@L2.pv _ 3 _ _ (by rfl) (by first | exact Or.inl rfl | exact Or.inr (Or.inl rfl) | exact Or.inr (Or.inr rfl)) (by decide) (by decide)) (@pa_cons _ _ _ _ _ (@L2.pv _ 4 _ _ (by rfl) (by first | exact Or.inl rfl | exact Or.inr (Or.inl rfl) | exact Or.inr (Or.inr rfl)) (by decide) (by decide)) (@pa_cons _ _ _ _ _ (@pe_callTy _ _ _ _ _ _ _ _ _ (@call_tuple_of _) (by rfl) T.tuple_ boot_tuple (@pa_cons _ _ _ _ _ (@L2.pv _ 5 _ _ (by rfl) (by first | exact Or.inl rfl | exact Or.inr (Or.inl rfl) | exact Or.inr (Or.inr rfl)) (by decide) (by decide)) (@pa_nil _) (by rfl)) (by decide) (by decide) (by rfl) (by rfl)) (@pa_nil _) (by rfl)) (by rfl)) (by rfl))))))))))))))))))))), ?_⟩
    have hsl := sizeLine_eq
    refine ⟨_, rfl, rfl, z, rfl, rfl, by omega, fun l hl => ?_⟩
    have hsp := L2.split_le z
    have hSL := split_SL z
    unfold readC at q1 q2
    generalize PySem.Txt.split z " " = ws at hsp hSL q1 q2 ⊢
    have hwd : ∀ w ∈ ws, w.length ≤ 900 := fun w hw => by have := SL_mem hw; omega
    have s1 := same_upd (o := .lst (ws.map V.str)) hl
    have h1 : upd H l (.lst (ws.map V.str)) l = some (.lst (ws.map V.str)) := upd_same
    generalize upd H l (.lst (ws.map V.str)) = H1 at s1 h1 ⊢
    refine ⟨_, rfl, l, _, rfl, .inl (SqL.of h1), _, _, rfl, rfl, _, rfl, ?_⟩
    by_cases h4 : ws.length < 4
    · rw [decide_eq_true (show (((ws.map V.str).length : Nat) : Int) < 4 by rw [List.length_map]; omega)]
      exact iteT (q2 (readW_lt4 h4) _ s1)
    rw [decide_eq_false (show ¬ ((((ws.map V.str).length : Nat) : Int) < 4) by rw [List.length_map]; omega)]
    refine iteF ?_
    obtain ⟨a, b, c, r, rfl, hr0⟩ := four_ws h4
    refine ⟨_, rfl, l, _, 2, .str c, rfl, rfl, SqL.of h1, atI_nat (j := 2) rfl, rfl, _, rfl, ?_⟩
    by_cases hc : c = ":"
    rotate_left
    · rw [decide_eq_false (fun w' => hc (by injection w'))]
      refine iteT (q2 ?_ _ s1)
      rw [readW_eq, decide_eq_false hc]
      exact if_neg (by simp)
    rw [decide_eq_true (by rw [hc])]
    refine iteF ?_
    have hrw : readW (a :: b :: c :: r) = if ((a :: b :: r).all (isWr 2) && codeB (numV a) (numV b) (r.map numV)) = true then some (numV a, numV b, r.map numV) else none := by
      rw [readW_eq, decide_eq_true hc, Bool.true_and]
    rw [hrw] at q1 q2
    have hmem : ∀ w ∈ a :: b :: r, w.length ≤ 900 := fun w hw => hwd w (by
      rcases (List.mem_cons.mp hw) with rfl | hw
      · simp
      rcases (List.mem_cons.mp hw) with rfl | hw
      · simp
      · simp [hw])
    have hrl : r.length ≤ 900 := by simp only [List.length_cons] at hsp; omega
    refine ⟨_, rfl, _, rfl, l, _, rfl, SqL.of h1, fun a1 ha1 => ?_⟩
    have c1 : cutV ((a :: b :: c :: r).map V.str) none (some 2) = [.str a, .str b] := cutTo _ 2
    have c2 : cutV ((a :: b :: c :: r).map V.str) (some 3) none = r.map V.str := cutFrom _ 3
    rw [c1]
    have s2 := same_upd (o := .lst [.str a, .str b]) ha1
    refine ⟨_, rfl, _, rfl, l, _, rfl, SqL.of (s2 _ _ h1), fun a2 ha2 => ?_⟩
    rw [c2]
    have s3 := same_upd (o := .lst (r.map V.str)) ha2
    refine ⟨a1, a2, _, _, rfl, rfl, s3 _ _ upd_same, upd_same, by rw [List.length_map]; show 2 + _ ≤ _; omega, fun a3 ha3 => ?_⟩
    have sA := s1.trans (s2.trans (s3.trans (same_upd (o := .lst ([.str a, .str b] ++ r.map V.str)) ha3)))
    have h3 : upd (upd (upd H1 a1 (.lst [.str a, .str b])) a2 (.lst (r.map V.str))) a3 (.lst ([.str a, .str b] ++ r.map V.str)) a3 = some (.lst ((a :: b :: r).map V.str)) := upd_same
    generalize upd (upd (upd H1 a1 (.lst [.str a, .str b])) a2 (.lst (r.map V.str))) a3 (.lst ([.str a, .str b] ++ r.map V.str)) = H3 at sA h3 ⊢
    refine ⟨a3, rfl, ⟨_, SqL.of h3⟩, comp_growL (K := K) (xs := (a :: b :: r).map V.str) (fs := (a :: b :: r).map vN) (SqL.of h3) (by rw [List.length_map, List.length_map]) (by rw [List.length_map]; simp only [List.length_cons]; omega) ?_ ?_⟩
    · intro j x y H4 R B s4 hx hy hR
      rw [List.getElem?_map] at hx
      obtain ⟨w1, hw1, rfl⟩ := Option.map_eq_some_iff.mp hx
      rw [List.getElem?_map, hw1] at hy
      obtain rfl : vN w1 = y := Option.some.inj hy
      refine gY ?_
      exact ⟨_, rfl, w1, rfl, by have := hmem w1 (List.mem_of_getElem? hw1); omega, hR⟩
    intro D H4 s4 hD
    have s5 := sA.trans (s4.trans (same_upd (o := .lst ((a :: b :: r).map vN)) hD))
    have h5 : upd H4 D (.lst ((a :: b :: r).map vN)) D = some (.lst ((a :: b :: r).map vN)) := upd_same
    generalize upd H4 D (.lst ((a :: b :: r).map vN)) = H5 at s5 h5 ⊢
    refine ⟨_, rfl, D, _, rfl, .inl (SqL.of h5), rfl, by rw [List.all_map, List.all_eq_true]; intro x _; exact vN_flat x, ?_⟩
    rw [if_neg (by decide), in_vN]
    cases hall : (a :: b :: r).all (isWr 2) with
    | false =>
      refine ⟨_, rfl, iteT (q2 ?_ _ s5)⟩
      rw [hall]
      exact if_neg (by simp)
    | true =>
    rw [hall, Bool.true_and] at q1 q2
    refine ⟨_, rfl, iteF ?_⟩
    have evs : (a :: b :: r).map vN = .int (numV a) :: .int (numV b) :: (r.map numV).map V.int := by
      have : ∀ w ∈ a :: b :: r, vN w = .int (numV w) := fun w hw => by
        unfold vN
        rw [if_pos (List.all_eq_true.mp hall w hw)]
      rw [List.map_congr_left this]
      simp [List.map_map]
    rw [evs] at h5
    have h0 : ∀ w ∈ a :: b :: r, 0 ≤ numV w := fun w hw => by
      have := List.all_eq_true.mp hall w hw
      rw [wr_two, Bool.and_eq_true] at this
      exact (okW_iff (wr_word this.1)).2.1
    generalize numV a = p at q1 q2 h5 evs
    generalize numV b = k at q1 q2 h5 evs
    have hpl0 : ∀ x ∈ r.map numV, 0 ≤ x := fun x hx => by
      obtain ⟨w1, hw1, rfl⟩ := List.mem_map.mp hx
      exact h0 w1 (by simp [hw1])
    have hpl : (r.map numV).length = r.length := List.length_map _
    have hpn : r.map numV ≠ [] := by simpa using hr0
    generalize r.map numV = pl at q1 q2 h5 hpl0 hpl hpn
    have non : codeB p k pl = false → ∀ H', Same H H' → Q .non H' := fun e => q2 (if_neg (by rw [e]; decide))
    refine ⟨_, rfl, _, rfl, D, _, rfl, SqL.of h5, fun b1 hb1 => ?_⟩
    have d1 : cutV (.int p :: .int k :: pl.map V.int) none (some 2) = [.int p, .int k] := cutTo _ 2
    have d2 : cutV (.int p :: .int k :: pl.map V.int) (some 2) none = pl.map V.int := cutFrom _ 2
    rw [d1]
    have s6 := same_upd (o := .lst [.int p, .int k]) hb1
    refine ⟨b1, _, rfl, SqL.of upd_same, rfl, _, _, rfl, _, _, rfl, rfl, ?_⟩
    refine ⟨_, rfl, _, rfl, D, _, rfl, SqL.of (s6 _ _ h5), fun b2 hb2 => ?_⟩
    rw [d2]
    have s7 := s5.trans (s6.trans (same_upd (o := .lst (pl.map V.int)) hb2))
    have h7 : upd (upd H5 b1 (.lst [.int p, .int k])) b2 (.lst (pl.map V.int)) b2 = some (.lst (pl.map V.int)) := upd_same
    generalize upd (upd H5 b1 (.lst [.int p, .int k])) b2 (.lst (pl.map V.int)) = H7 at s7 h7 ⊢
    refine ⟨_, rfl, _, _, rfl, rfl, _, rfl, ite2 (fun g1 => ?_) (fun g1 => ?_)⟩
    rotate_left
    · have g1 : ¬ (5 : Int) ≤ p := by simpa using g1
      exact ⟨_, rfl, iteT (non (by unfold codeB; rw [prime_out (fun z => g1 z.1)]; rfl) _ s7)⟩
    have g1 : (5 : Int) ≤ p := by simpa using g1
    refine ⟨_, _, rfl, rfl, _, rfl, ?_⟩
    by_cases g2 : p < 98
    rotate_left
    · rw [decide_eq_false g2]
      exact iteT (non (by unfold codeB; rw [prime_out (fun z => g2 (by have := z.2; omega))]; rfl) _ s7)
    rw [decide_eq_true g2]
    refine iteF ?_
    refine ⟨2, 10, rfl, ⟨by decide, by decide, by decide, by decide⟩, comp_by (n := 8) (fun i ys H' => ys = ((List.range i).filter fun i => decide (p % (2 + (i : Nat) : Int) = 0) && decide (p ≠ 2 + (i : Nat))).map (fun i : Nat => V.int (2 + (i : Int))) ∧ H' = H7) ⟨rfl, rfl⟩ (fun i ys H' hi _ => hi) (fun ys H' _ => Nat.le_refl _) ?_ ?_⟩
    · rintro i xx ys H8 H9 hi ⟨rfl, rfl⟩ ⟨rfl, rfl⟩
      have step : ∀ b : Bool, (decide (p % (2 + (i : Int)) = 0) && decide (p ≠ 2 + (i : Int))) = b → ((List.range (i + 1)).filter fun i => decide (p % (2 + (i : Nat) : Int) = 0) && decide (p ≠ 2 + (i : Nat))) = ((List.range i).filter fun i => decide (p % (2 + (i : Nat) : Int) = 0) && decide (p ≠ 2 + (i : Nat))) ++ (if b = true then [i] else []) := fun b hb => by
        rw [List.range_succ, List.filter_append]
        congr 1
        rw [List.filter_cons, hb]
        rfl
      have hlen : (((List.range i).filter fun i => decide (p % (2 + (i : Nat) : Int) = 0) && decide (p ≠ 2 + (i : Nat))).map (fun i : Nat => V.int (2 + (i : Int)))).length ≤ i := by
        rw [List.length_map]
        exact Nat.le_trans (List.length_filter_le _ _) (by rw [List.length_range]; exact Nat.le_refl _)
      refine ⟨_, rfl, _, rfl, _, _, rfl, rfl, by omega, rfl, _, rfl, ?_⟩
      by_cases e1 : p % (2 + (i : Int)) = 0
      rotate_left
      · rw [decide_eq_false (fun w' => e1 (by injection w'))]
        refine iteF (iteF ⟨?_, rfl⟩)
        rw [step false (by rw [decide_eq_false e1]; rfl)]
        simp
      rw [decide_eq_true (show V.int (p % (2 + (i : Int))) = V.int 0 by rw [e1])]
      refine iteT ?_
      refine ⟨_, rfl, _, rfl, rfl, _, rfl, ?_⟩
      by_cases e2 : p = 2 + (i : Int)
      · rw [decide_eq_true (by rw [← e2])]
        refine iteF ⟨?_, rfl⟩
        rw [step false (by rw [decide_eq_false (show ¬ (p ≠ 2 + (i : Int)) from fun z => z e2)]; simp)]
        simp
      · rw [decide_eq_false (fun w' => e2 (by injection w'))]
        refine iteT ⟨_, rfl, by omega, ?_, rfl⟩
        rw [step true (by rw [decide_eq_true e1, decide_eq_true e2]; rfl), if_pos rfl, List.map_append]
        rfl
    rintro ys H8 D2 ⟨rfl, rfl⟩ hD2
    refine ⟨by show 0 ≤ sizeLine; omega, fun b3 hb3 => ?_⟩
    have s8 := same_upd (o := .lst (((List.range 8).filter fun i => decide (p % (2 + (i : Nat) : Int) = 0) && decide (p ≠ 2 + (i : Nat))).map (fun i : Nat => V.int (2 + (i : Int))))) hD2
    have s9 := same_upd (o := .lst []) hb3
    have s79 := s7.trans (s8.trans s9)
    have hD3 := s9 _ _ (upd_same (H := H8) (a := D2) (o := .lst (((List.range 8).filter fun i => decide (p % (2 + (i : Nat) : Int) = 0) && decide (p ≠ 2 + (i : Nat))).map (fun i : Nat => V.int (2 + (i : Int))))))
    have h9 := s9 _ _ (s8 _ _ h7)
    have hb3' : upd (upd H8 D2 (.lst (((List.range 8).filter fun i => decide (p % (2 + (i : Nat) : Int) = 0) && decide (p ≠ 2 + (i : Nat))).map (fun i : Nat => V.int (2 + (i : Int)))))) b3 (.lst []) b3 = some (.lst []) := upd_same
    generalize upd (upd H8 D2 (.lst (((List.range 8).filter fun i => decide (p % (2 + (i : Nat) : Int) = 0) && decide (p ≠ 2 + (i : Nat))).map (fun i : Nat => V.int (2 + (i : Int)))))) b3 (.lst []) = H9 at s79 hD3 h9 hb3' ⊢
    refine ⟨D2, b3, _, [], rfl, rfl, .inl ⟨SqL.of hD3, SqL.of hb3'⟩, ?_⟩
    have hpr := prime_by g1 (show p ≤ 97 by omega)
    by_cases hf : ((List.range 8).filter fun i => decide (p % (2 + (i : Nat) : Int) = 0) && decide (p ≠ 2 + (i : Nat))) = []
    rotate_left
    · refine .inl ⟨?_, fun j x y hx hy => by simp at hy, ?_⟩
      · rw [List.length_map]
        intro e
        exact hf (List.length_eq_zero_iff.mp e)
      · refine ⟨_, rfl, iteT (non ?_ _ s79)⟩
        have : primesL.contains p = false := by
          rw [← hpr]
          cases ha : ((List.range 8).all fun i => !(decide (p % (2 + (i : Nat) : Int) = 0) && decide (p ≠ 2 + (i : Nat)))) with
          | false => rfl
          | true =>
            refine absurd ?_ hf
            rw [List.filter_eq_nil_iff]
            intro i hi
            have := List.all_eq_true.mp ha i hi
            rw [Bool.not_eq_true'] at this
            rw [this]
            decide
        unfold codeB
        rw [this]
        rfl
    have hpp : primesL.contains p = true := by
      rw [← hpr, List.all_eq_true]
      intro i hi
      have := List.filter_eq_nil_iff.mp hf i hi
      rw [Bool.not_eq_true']
      exact Bool.eq_false_iff.mpr this
    rw [hf]
    refine .inr ⟨rfl, fun _ => true, fun j x y hx => by simp at hx, ?_⟩
    refine ⟨_, rfl, iteF ?_⟩
    refine ⟨_, rfl, _, _, rfl, rfl, _, rfl, ite2 (fun g3 => ?_) (fun g3 => ?_)⟩
    rotate_left
    · have g3 : ¬ (1 : Int) ≤ k := by simpa using g3
      exact ⟨_, rfl, iteT (non (by unfold codeB; rw [hpp, decide_eq_false g3]; rfl) _ s79)⟩
    have g3 : (1 : Int) ≤ k := by simpa using g3
    refine ⟨_, _, rfl, rfl, _, rfl, ?_⟩
    by_cases g4 : k < 6
    rotate_left
    · rw [decide_eq_false g4]
      exact iteT (non (by unfold codeB; rw [hpp, decide_eq_true g3, decide_eq_false (show ¬ k ≤ 5 by omega)]; rfl) _ s79)
    rw [decide_eq_true g4]
    refine iteF ?_
    have ec : codeB p k pl = placesB p k pl := by unfold codeB placesB; rw [hpp, decide_eq_true g3, decide_eq_true (show k ≤ 5 by omega)]; rfl
    rw [ec] at q1 non
    refine ⟨_, rfl, _, rfl, b2, _, rfl, .inl (SqL.of h9), _, _, rfl, rfl, _, rfl, ite2 (fun g5 => ?_) (fun g5 => ?_)⟩
    rotate_left
    · have g5 : ¬ k ≤ (pl.length : Int) := by
        rw [List.length_map] at g5
        simpa using g5
      exact ⟨_, rfl, iteT (non (by unfold placesB; rw [decide_eq_false g5]; rfl) _ s79)⟩
    have g5 : k ≤ (pl.length : Int) := by
      rw [List.length_map] at g5
      simpa using g5
    refine ⟨_, _, rfl, rfl, _, rfl, ?_⟩
    by_cases g6 : pl.length ≤ 16
    rotate_left
    · rw [decide_eq_false (show ¬ ((((pl.map V.int).length : Nat) : Int) < 17) by rw [List.length_map]; omega)]
      exact iteT (non (by unfold placesB; rw [decide_eq_true g5, decide_eq_false g6]; rfl) _ s79)
    rw [decide_eq_true (show (((pl.map V.int).length : Nat) : Int) < 17 by rw [List.length_map]; omega)]
    refine iteF ?_
    refine ⟨_, rfl, b2, pl, rfl, .inr (SqL.of h9), by omega, fun l3 S hl3 => ?_⟩
    have s10 := same_upd (o := .set S (cntU pl)) hl3
    have h10 := s10 _ _ h9
    refine ⟨l3, S, _, rfl, upd_same, _, rfl, b2, _, rfl, .inl (SqL.of h10), _, _, rfl, rfl, _, rfl, ?_⟩
    have s710 := s79.trans s10
    generalize upd H9 l3 (.set S (cntU pl)) = H10 at s710 h10 ⊢
    have hcl := cntU_le pl
    by_cases g7 : pl.Nodup
    rotate_left
    · have : cntU pl ≠ pl.length := fun e => g7 (cntU_iff.mp e)
      rw [decide_eq_true (show ((cntU pl : Nat) : Int) < (((pl.map V.int).length : Nat) : Int) by rw [List.length_map]; omega)]
      exact iteT (non (by unfold placesB; rw [decide_eq_true g5, decide_eq_true g6, decide_eq_false g7]; simp) _ s710)
    have g8 := cntU_iff.mpr g7
    rw [decide_eq_false (show ¬ ((cntU pl : Nat) : Int) < (((pl.map V.int).length : Nat) : Int) by rw [List.length_map]; omega)]
    refine iteF ?_
    refine ⟨_, rfl, b2, pl, rfl, SqL.of h10, hpn, fun M hM hmax => ?_⟩
    refine ⟨_, rfl, _, _, rfl, rfl, _, rfl, ?_⟩
    by_cases g9 : p ≤ M
    · rw [decide_eq_true g9]
      refine iteT (non ?_ _ s710)
      have : (pl.all fun x => decide (0 ≤ x) && decide (x < p)) = false := by
        cases ha : (pl.all fun x => decide (0 ≤ x) && decide (x < p)) with
        | false => rfl
        | true =>
          have := List.all_eq_true.mp ha M hM
          simp only [Bool.and_eq_true, decide_eq_true_eq] at this
          omega
      unfold placesB
      rw [this]
      simp
    rw [decide_eq_false g9]
    refine iteF ?_
    refine ⟨_, rfl, _, rfl, _, rfl, b2, _, rfl, .inl ⟨SqL.of h10, fun tt htt => ?_⟩⟩
    have s11 := s710.trans (same_upd (o := .tup (pl.map V.int)) htt)
    refine ⟨by show 3 ≤ sizeLine; omega, fun c' hc' => ?_⟩
    have s12 := s11.trans (same_upd (o := .tup [.int p, .int k, .ref tt]) hc')
    refine q1 p k pl (if_pos ?_) c' tt _ (s11.free hc') s12 ⟨upd_same, (same_upd hc') _ _ upd_same⟩
    have : (pl.all fun x => decide (0 ≤ x) && decide (x < p)) = true := by
      rw [List.all_eq_true]
      intro x hx
      have := hmax x hx
      simp only [Bool.and_eq_true, decide_eq_true_eq]; exact ⟨hpl0 x hx, by omega⟩
    unfold placesB
    rw [decide_eq_true g5, decide_eq_true g6, this, decide_eq_true g7]
    rfl
end
end My

end
section
set_option maxHeartbeats 3999000
namespace My
open PySem L2 PyProof.Rows
section
variable {P : Program} {w : World} {K : PySem.W.Frag} {mg : Str → Option Value} {base : Heap} {t : Adr}
/-! ### _law_word -/
def wordsL : List Str := ["few", "curve", "paper", "place", "number", "heard", "not heard", "nothing", "text", "row"]
def sp_l_word (t : Adr) (K : PySem.W.Frag) : Sp := fun vs H Q _ => ∃ (e C : Addr) (b0 b1 b2 b3 b4 b5 b6 b7 b8 b9 : Bool) (j : Nat) (x : Str), vs = [.ref e] ∧ H e = some (ExcO e C) ∧ KW K t C b0 b1 b2 b3 b4 b5 b6 b7 b8 b9 ∧ [b0, b1, b2, b3, b4, b5, b6, b7, b8, b9].count true = 1 ∧ [b0, b1, b2, b3, b4, b5, b6, b7, b8, b9][j]? = some true ∧ (∀ m, m < j → [b0, b1, b2, b3, b4, b5, b6, b7, b8, b9][m]? = some false) ∧ j < 10 ∧ wordsL[j]? = some x ∧ ∀ H', Same H H' → Q (.str x) H'
theorem sc_l_word : FnScope ["e", "kinds", "words"] ["e"] (defScope s_l_word) := ⟨rfl, rfl, rfl, by decide +kernel, rfl, by decide +kernel, by decide +kernel⟩
theorem ok_l_word {fd : FuncData} (T : Txt K mg t) (F : Fun K "_law_word" "_law_word" s_l_word t.l_word fd) : FnOkH P w K mg base 1 t.l_word fd ["e"] (sp_l_word t K) := by
  refine F.okH sc_l_word (fun vs H Q E h => ?_) (fun cdv A outer s H vs Q E hr h => ?_)
  · obtain ⟨e, C, b0, b1, b2, b3, b4, b5, b6, b7, b8, b9, j, x, rfl, _⟩ := h
    rfl
  · obtain ⟨e, C, b0, b1, b2, b3, b4, b5, b6, b7, b8, b9, j, x, rfl, he, kw, hc, hj, hm, hj10, hx, q⟩ := h
    refine ⟨_, (@pss_cons _ _ _ _ _ (@ps_set _ _ (1) _ _ _ _ sc_l_word.nd rfl (Or.inl rfl) (@pe_lst _ _ _ _ (@pa_cons _ _ _ _ _ (@pe_callB _ _ _ _ _ _ _ _ _ (@call_isinstX _) (by rfl) T.isinstance_ boot_isinstance (@pa_cons _ _ _ _ _ (@L2.pv _ 0 _ _ (by rfl) (by first | exact Or.inl rfl | exact Or.inr (Or.inl rfl) | exact Or.inr (Or.inr rfl)) (by decide) (by decide)) (@pa_cons _ _ _ _ _ (@pe_glob _ _ (.ref t.TooFew) _ _ rfl T.x_TooFew rfl (by decide)) (@pa_nil _) (by rfl)) (by rfl)) (by decide) (by decide) (by rfl) (by rfl)) (by exact (@pa_cons _ _ _ _ _ (@pe_callB _ _ _ _ _ _ _ _ _ (@call_isinstX _) (by rfl) T.isinstance_ boot_isinstance (@pa_cons _ _ _ _ _ (@L2.pv _ 0 _ _ (by rfl) (by first | exact Or.inl rfl | exact Or.inr (Or.inl rfl) | exact Or.inr (Or.inr rfl)) (by decide) (by decide)) (@pa_cons _ _ _ _ _ (@pe_glob _ _ (.ref t.NoCurve) _ _ rfl T.x_NoCurve rfl (by decide)) (@pa_nil _) (by rfl)) (by rfl)) (by decide) (by decide) (by rfl) (by rfl)) (@pa_cons _ _ _ _ _ (@pe_callB _ _ _ _ _ _ _ _ _ (@call_isinstX _) (by rfl) T.isinstance_ boot_isinstance (@pa_cons _ _ _ _ _ (@L2.pv _ 0 _ _ (by rfl) (by first | exact Or.inl rfl | exact Or.inr (Or.inl rfl) | exact Or.inr (Or.inr rfl)) (by decide) (by decide)) (@pa_cons _ _ _ _ _ (@pe_glob _ _ (.ref t.NoPaper) _ _ rfl T.x_NoPaper rfl (by decide)) (@pa_nil _) (by rfl)) (by rfl)) (by decide) (by decide) (by rfl) (by rfl)) (@pa_cons _ _ _ _ _ (@pe_callB _ _ _ _ _ _ _ _ _ (@call_isinstX _) (by rfl) T.isinstance_ boot_isinstance (@pa_cons _ _ _ _ _ (@L2.pv _ 0 _ _ (by rfl) (by first | exact Or.inl rfl | exact Or.inr (Or.inl rfl) | exact Or.inr (Or.inr rfl)) (by decide) (by decide)) (@pa_cons _ _ _ _ _ (@pe_glob _ _ (.ref t.NoPlace) _ _ rfl T.x_NoPlace rfl (by decide)) (@pa_nil _) (by rfl)) (by rfl)) (by decide) (by decide) (by rfl) (by rfl)) (@pa_nil _) (by rfl)) (by rfl)) (by rfl))) (by rfl))) (by rfl) (by first | exact .inl rfl | exact .inr rfl | assumption)) (by exact (@pss_cons _ _ _ _ _ (@ps_set _ _ (1) _ _ _ _ sc_l_word.nd rfl (Or.inl rfl) (@pe_op _ _ _ _ _ _ _ _ (@op_cat _) (@L2.pv _ 1 _ _ (by rfl) (by first | exact Or.inl rfl | exact Or.inr (Or.inl rfl) | exact Or.inr (Or.inr rfl)) (by decide) (by decide)) (@pe_lst _ _ _ _ (@pa_cons _ _ _ _ _ (@pe_callB _ _ _ _ _ _ _ _ _ (@call_isinstX _) (by rfl) T.isinstance_ boot_isinstance (@pa_cons _ _ _ _ _ (@L2.pv _ 0 _ _ (by rfl) (by first | exact Or.inl rfl | exact Or.inr (Or.inl rfl) | exact Or.inr (Or.inr rfl)) (by decide) (by decide)) (@pa_cons _ _ _ _ _ (@pe_glob _ _ (.ref t.NoNumber) _ _ rfl T.x_NoNumber rfl (by decide)) (@pa_nil _) (by rfl)) (by rfl)) (by decide) (by decide) (by rfl) (by rfl)) (@pa_cons _ _ _ _ _ (@pe_callB _ _ _ _ _ _ _ _ _ (@call_isinstX _) (by rfl) T.isinstance_ boot_isinstance (@pa_cons _ _ _ _ _ (@L2.pv _ 0 _ _ (by rfl) (by first | exact Or.inl rfl | exact Or.inr (Or.inl rfl) | exact Or.inr (Or.inr rfl)) (by decide) (by decide)) (@pa_cons _ _ _ _ _ (@pe_glob _ _ (.ref t.Heard) _ _ rfl T.x_Heard rfl (by decide)) (@pa_nil _) (by rfl)) (by rfl)) (by decide) (by decide) (by rfl) (by rfl)) (@pa_cons _ _ _ _ _ (@pe_callB _ _ _ _ _ _ _ _ _ (@call_isinstX _) (by rfl) T.isinstance_ boot_isinstance (@pa_cons _ _ _ _ _ (@L2.pv _ 0 _ _ (by rfl) (by first | exact Or.inl rfl | exact Or.inr (Or.inl rfl) | exact Or.inr (Or.inr rfl)) (by decide) (by decide)) (@pa_cons _ _ _ _ _ (@pe_glob _ _ (.ref t.NotHeard) _ _ rfl T.x_NotHeard rfl (by decide)) (@pa_nil _) (by rfl)) (by rfl)) (by decide) (by decide) (by rfl) (by rfl)) (@pa_nil _) (by rfl)) (by rfl)) (by rfl)))) (by rfl) (by first | exact .inl rfl | exact .inr rfl | assumption)) (by exact (@pss_cons _ _ _ _ _ (@ps_set _ _ (1) _ _ _ _ sc_l_word.nd rfl (Or.inl rfl) (@pe_op _ _ _ _ _ _ _ _ (@op_cat _) (@L2.pv _ 1 _ _ (by rfl) (by first | exact Or.inl rfl | exact Or.inr (Or.inl rfl) | exact Or.inr (Or.inr rfl)) (by decide) (by decide)) (@pe_lst _ _ _ _ (@pa_cons _ _ _ _ _ (@pe_callB _ _ _ _ _ _ _ _ _ (@call_isinstX _) (by rfl) T.isinstance_ boot_isinstance (@pa_cons _ _ _ _ _ (@L2.pv _ 0 _ _ (by rfl) (by first | exact Or.inl rfl | exact Or.inr (Or.inl rfl) | exact Or.inr (Or.inr rfl)) (by decide) (by decide)) (@pa_cons _ _ _ _ _ (@pe_glob _ _ (.ref t.NothingLeft) _ _ rfl T.x_NothingLeft rfl (by decide)) (@pa_nil _) (by rfl)) (by rfl)) (by decide) (by decide) (by rfl) (by rfl)) (@pa_cons _ _ _ _ _ (@pe_callB _ _ _ _ _ _ _ _ _ (@call_isinstX _) (by rfl) T.isinstance_ boot_isinstance (@pa_cons _ _ _ _ _ (@L2.pv _ 0 _ _ (by rfl) (by first | exact Or.inl rfl | exact Or.inr (Or.inl rfl) | exact Or.inr (Or.inr rfl)) (by decide) (by decide)) (@pa_cons _ _ _ _ _ (@pe_glob _ _ (.ref t.NoText) _ _ rfl T.x_NoText rfl (by decide)) (@pa_nil _) (by rfl)) (by rfl)) (by decide) (by decide) (by rfl) (by rfl)) (@pa_cons _ _ _ _ _ (@pe_callB _ _ _ _ _ _ _ _ _ (@call_isinstX _) (by rfl) T.isinstance_ boot_isinstance (@pa_cons _ _ _ _ _ (@L2.pv _ 0 _ _ (by rfl) (by first | exact Or.inl rfl | exact Or.inr (Or.inl rfl) | exact Or.inr (Or.inr rfl)) (by decide) (by decide)) (@pa_cons _ _ _ _ _ (@pe_glob _ _ (.ref t.NoRow) _ _ rfl T.x_NoRow rfl (by decide)) (@pa_nil _) (by rfl)) (by rfl)) (by decide) (by decide) (by rfl) (by rfl)) (@pa_nil _) (by rfl)) (by rfl)) (by rfl)))) (by rfl) (by first | exact .inl rfl | exact .inr rfl | assumption)) (by exact (@pss_cons _ _ _ _ _ (@ps_if _ _ _ _ _ _ _ _ (@PW.pt _ _ _ (@pw_or _ _ _ _ _ _ _ (@pt_cmpR _ _ _ _ _ _ _ _ (@op_ne _) (@pe_bm _ _ _ _ _ _ _ _ _ _ _ _ PySem.F.plainAttrs_list PySem.F.slot_list_count PySem.F.type_list_count (@mt_countB _) (@L2.pv _ 1 _ _ (by rfl) (by first | exact Or.inl rfl | exact Or.inr (Or.inl rfl) | exact Or.inr (Or.inr rfl)) (by decide) (by decide)) (@pa_cons _ _ _ _ _ (@pe_bl _ _ _ _) (@pa_nil _) (by rfl)) (by rfl) (by rfl) (by rfl) (by rfl) (by rfl)) (@pe_int _ _ _ _) (nomark _)) (@pw_or1 _ _ _ _ (@pt_not _ _ _ _ (@pt_val _ _ _ (@pe_callB _ _ _ _ _ _ _ _ _ (@call_isinstX _) (by rfl) T.isinstance_ boot_isinstance (@pa_cons _ _ _ _ _ (@L2.pv _ 0 _ _ (by rfl) (by first | exact Or.inl rfl | exact Or.inr (Or.inl rfl) | exact Or.inr (Or.inr rfl)) (by decide) (by decide)) (@pa_cons _ _ _ _ _ (@pe_bltn _ _ (.ty "ValueError") _ _ rfl T.ValueError_ PyProof.Rows.Boot.ValueError rfl (by decide) (by decide)) (@pa_nil _) (by rfl)) (by rfl)) (by decide) (by decide) (by rfl) (by rfl)) (by intro _; rfl)))))) (@pss_one _ _ _ (@ps_ret _ _ _ _ (@pe_str _ _ _ _))) (@pss_nil _)) (by exact (by exact (@pss_strs _ 2 _ _ _ _ _ _ _ ["few", "curve", "paper", "place", "number", "heard", "not heard", "nothing", "text", "row"] (by decide +kernel) sc_l_word.nd rfl (Or.inl rfl) (by first | exact .inl rfl | exact .inr rfl) (by exact (@pss_one _ _ _ (@ps_ret _ _ _ _ (@pe_ix _ _ _ _ _ _ _ (@ix_list _) (@L2.pv _ 2 _ _ (by rfl) (by first | exact Or.inl rfl | exact Or.inr (Or.inl rfl) | exact Or.inr (Or.inr rfl)) (by decide) (by decide)) (@pe_bm _ _ _ _ _ _ _ _ _ _ _ _ PySem.F.plainAttrs_list PySem.F.slot_list_index PySem.F.type_list_index (@mt_indexB _) (@L2.pv _ 1 _ _ (by rfl) (by first | exact Or.inl rfl | exact Or.inr (Or.inl rfl) | exact Or.inr (Or.inr rfl)) (by decide) (by decide)) (@pa_cons _ _ _ _ _ (@pe_bl _ _ _ _) (@pa_nil _) (by rfl)) (by rfl) (by rfl) (by rfl) (by rfl) (by rfl)) (fun _ _ => rfl))))))))))))))), ?_⟩
    have hsl := sizeLine_eq
    have xc := kw.xc
    refine ⟨_, rfl, e, C, _, _, rfl, he, xc, .inl ⟨_, rfl, kw.i0⟩, _, rfl, e, C, _, _, rfl, he, xc, .inl ⟨_, rfl, kw.i1⟩, _, rfl, e, C, _, _, rfl, he, xc, .inl ⟨_, rfl, kw.i2⟩, _, rfl, e, C, _, _, rfl, he, xc, .inl ⟨_, rfl, kw.i3⟩, by show 4 ≤ sizeLine; omega, fun l1 hl1 => ?_⟩
    have s1 := same_upd (o := .lst [.bl b0, .bl b1, .bl b2, .bl b3]) hl1
    have he1 := s1 _ _ he
    refine ⟨_, rfl, _, rfl, e, C, _, _, rfl, he1, xc, .inl ⟨_, rfl, kw.i4⟩, _, rfl, e, C, _, _, rfl, he1, xc, .inl ⟨_, rfl, kw.i5⟩, _, rfl, e, C, _, _, rfl, he1, xc, .inl ⟨_, rfl, kw.i6⟩, by show 3 ≤ sizeLine; omega, fun l2 hl2 => ?_⟩
    have s2 := same_upd (o := .lst [.bl b4, .bl b5, .bl b6]) hl2
    refine ⟨l1, l2, _, _, rfl, rfl, s2 _ _ upd_same, upd_same, by show 7 ≤ sizeLine; omega, fun l3 hl3 => ?_⟩
    have s3 := same_upd (o := .lst ([V.bl b0, .bl b1, .bl b2, .bl b3] ++ [.bl b4, .bl b5, .bl b6])) hl3
    have he3 := s3 _ _ (s2 _ _ he1)
    refine ⟨_, rfl, _, rfl, e, C, _, _, rfl, he3, xc, .inl ⟨_, rfl, kw.i7⟩, _, rfl, e, C, _, _, rfl, he3, xc, .inl ⟨_, rfl, kw.i8⟩, _, rfl, e, C, _, _, rfl, he3, xc, .inl ⟨_, rfl, kw.i9⟩, by show 3 ≤ sizeLine; omega, fun l4 hl4 => ?_⟩
    have s4 := same_upd (o := .lst [.bl b7, .bl b8, .bl b9]) hl4
    refine ⟨l3, l4, _, _, rfl, rfl, s4 _ _ upd_same, upd_same, by show 10 ≤ sizeLine; omega, fun l5 hl5 => ?_⟩
    have s5 := same_upd (o := .lst ([V.bl b0, .bl b1, .bl b2, .bl b3] ++ [.bl b4, .bl b5, .bl b6] ++ [.bl b7, .bl b8, .bl b9])) hl5
    have he5 := s5 _ _ (s4 _ _ he3)
    have sA := s1.trans (s2.trans (s3.trans (s4.trans s5)))
    have h5 : upd (upd (upd (upd (upd H l1 (.lst [.bl b0, .bl b1, .bl b2, .bl b3])) l2 (.lst [.bl b4, .bl b5, .bl b6])) l3 (.lst ([V.bl b0, .bl b1, .bl b2, .bl b3] ++ [.bl b4, .bl b5, .bl b6]))) l4 (.lst [.bl b7, .bl b8, .bl b9])) l5 (.lst ([V.bl b0, .bl b1, .bl b2, .bl b3] ++ [.bl b4, .bl b5, .bl b6] ++ [.bl b7, .bl b8, .bl b9])) l5 = some (.lst ([b0, b1, b2, b3, b4, b5, b6, b7, b8, b9].map V.bl)) := upd_same
    generalize upd (upd (upd (upd (upd H l1 (.lst [.bl b0, .bl b1, .bl b2, .bl b3])) l2 (.lst [.bl b4, .bl b5, .bl b6])) l3 (.lst ([V.bl b0, .bl b1, .bl b2, .bl b3] ++ [.bl b4, .bl b5, .bl b6]))) l4 (.lst [.bl b7, .bl b8, .bl b9])) l5 (.lst ([V.bl b0, .bl b1, .bl b2, .bl b3] ++ [.bl b4, .bl b5, .bl b6] ++ [.bl b7, .bl b8, .bl b9])) = H5 at he5 sA h5 ⊢
    refine ⟨_, rfl, .inl ⟨rfl, _, SqL.of h5⟩, l5, _, true, rfl, rfl, h5, ?_⟩
    rw [hc]
    refine ⟨rfl, _, rfl, ?_⟩
    refine iteF ?_
    refine ⟨_, rfl, e, C, _, _, rfl, he5, xc, .inr ⟨_, rfl, kw.iv⟩, _, rfl, ?_⟩
    refine iteF ?_
    refine ⟨by show 10 ≤ sizeLine; omega, fun lw hlw => ?_⟩
    have s6 := same_upd (o := .lst (wordsL.map V.str)) hlw
    refine ⟨_, rfl, _, rfl, .inl ⟨rfl, _, SqL.of (s6 _ _ h5)⟩, l5, _, true, j, rfl, rfl, s6 _ _ h5, hj, hm, by omega, ?_⟩
    refine ⟨lw, _, _, .str x, rfl, rfl, SqL.of upd_same, ?_, q _ (sA.trans s6)⟩
    exact atI_nat (xs := wordsL.map V.str) (by rw [List.getElem?_map, hx]; rfl)
def sp_l_told (t : Adr) (K : PySem.W.Frag) : Sp := fun vs H Q _ => ∃ z : Str, vs = [.str z] ∧ z.length ≤ 900 ∧
  (∀ (p k : Int) (pl : List Int), readC z = some (p, k, pl) → ∀ (c tt : Addr) (H' : Hp), H c = none → Same H H' → CodeAt H' c tt p k pl → Q (.ref c) H') ∧ (readC z = none → ∀ H', Same H H' → Q (.str "text") H')
theorem sc_l_told : FnScope ["text", "found", "e"] ["text"] (defScope s_l_told) := ⟨rfl, rfl, rfl, by decide +kernel, rfl, by decide +kernel, by decide +kernel⟩
theorem ok_l_told {fd : FuncData} (T : Txt K mg t) (F : Fun K "_law_told" "_law_told" s_l_told t.l_told fd) : FnOk P w K mg base CX0 6 t.l_told fd ["text"] (sp_l_told t K) := by
  obtain ⟨fd_read_code, F_read_code, b_read_code⟩ := T.f_read_code
  have G_read_code := ok_read_code (P := P) (w := w) (base := base) T F_read_code
  obtain ⟨fd_l_word, F_l_word, b_l_word⟩ := T.f_l_word
  have G_l_word := ok_l_word (P := P) (w := w) (base := base) T F_l_word
  refine F.ok sc_l_told (fun vs H Q E h => ?_) (fun cdv A outer s H vs Q E hr h => ?_)
  · obtain ⟨z, rfl, _⟩ := h
    rfl
  · obtain ⟨z, rfl, hz, q1, q2⟩ := h
    refine ⟨_, (@pss_cons _ _ _ _ _ (@ps_set _ _ (1) _ _ _ _ sc_l_told.nd rfl (Or.inl rfl) (@pe_non _ _ _) (by rfl) (by first | exact .inl rfl | exact .inr rfl | assumption)) (by exact (@pss_cons _ _ _ _ _ (@ps_try _ _ _ _ (2) _ _ _ _ _ _ _ _ rfl rfl rfl rfl T.x_SlipError T.sb sc_l_told.nd rfl rfl (fun xe pins σ E hp => (@pss_one_at _ _ _ _ _ (@ps_set_at _ _ _ _ _ _ _ (1) _ sc_l_told.nd rfl (Or.inl rfl) (@pe_call_at _ _ _ _ _ _ _ _ _ _ _ _ _ _ _ _ _ _ G_read_code (hr.mono (by decide)) rfl T.m_read_code F_read_code.kp b_read_code .nil hp (@pa_cons _ _ _ _ _ (@L2.pv _ 0 _ _ (by rfl) (by first | exact Or.inl rfl | exact Or.inr (Or.inl rfl) | exact Or.inr (Or.inr rfl)) (by decide) (by decide)) (@pa_nil _) (by rfl)) (by decide) (by rfl) (by rfl)) (by rfl) (by first | exact .inl rfl | exact .inr rfl | assumption)))) (fun e => pss_one (@ps_set _ _ (1) _ _ _ _ sc_l_told.nd rfl (Or.inl rfl) (@pe_callH _ _ _ _ _ _ _ _ _ _ _ _ G_l_word (RoomH.of (hr.mono (by decide))) rfl T.m_l_word F_l_word.kp b_l_word (@pa_cons _ _ _ _ _ (@L2.pv _ 2 _ _ (by rfl) (by first | exact Or.inl rfl | exact Or.inr (Or.inl rfl) | exact Or.inr (Or.inr rfl)) (by decide) (by decide)) (@pa_nil _) (by rfl)) (by decide) (by rfl) (by rfl)) (by rfl) (by first | exact .inl rfl | exact .inr rfl | assumption))) (by decide)) (by exact (@pss_one _ _ _ (@ps_ret _ _ _ _ (@L2.pv _ 1 _ _ (by rfl) (by first | exact Or.inl rfl | exact Or.inr (Or.inl rfl) | exact Or.inr (Or.inr rfl)) (by decide) (by decide)))))))), ?_⟩
    refine ⟨_, rfl, z, rfl, hz, fun p k pl e c tt H' hc s' hca => ?_, fun e H1 s1 => ⟨_, rfl, T.kw_NoText.sl, fun e1 he => ?_⟩⟩
    · exact ⟨_, rfl, q1 p k pl e c tt H' hc s' hca⟩
    · refine ⟨_, rfl, e1, _, _, _, _, _, _, _, _, _, _, _, 8, "text", rfl, upd_same, T.kw_NoText, rfl, rfl, by decide, by decide, rfl, fun H' s' => ?_⟩
      exact ⟨_, rfl, q2 e H' (s1.trans ((same_upd he).trans s'))⟩
/-! ### _law_spoilt -/
def signsS : Str := " !\"#$&'()*+,-./0123456789:;<=>?@ABCDEFGHIJKLMNOPQRSTUVWXYZ[\\]^_`abcdefghijklmnopqrstuvwxyz{|}~\n"
theorem signs_len : signsS.length = 95 := by decide +kernel
def someS : Str := " -:0159"
theorem some_len : someS.length = 7 := by decide +kernel
theorem at_ex {α : Type} {xs : List α} {i : Int} (h0 : 0 ≤ i) (h1 : i < xs.length) : ∃ c, atI xs i = some c := by
  have h := atI_nat (xs := xs) (j := i.toNat) (List.getElem?_eq_getElem (show i.toNat < xs.length by omega))
  rw [show ((i.toNat : Nat) : Int) = i by omega] at h
  exact ⟨_, h⟩
theorem at_sign {z : Str} {i : Int} (h0 : 0 ≤ i) (h1 : i < z.length) : ∃ c, atI z.cps.toList i = some c := at_ex h0 (by rw [str_len]; exact h1)
theorem at_three {x y z : Nat} {m : Int} (h0 : 0 ≤ m) (h1 : m < 3) : ∃ u : Nat, atI [V.str ⟨#[x]⟩, V.str ⟨#[y]⟩, V.str ⟨#[z]⟩] m = some (.str ⟨#[u]⟩) := by
  have : m = 0 ∨ m = 1 ∨ m = 2 := by omega
  rcases this with e | e | e <;> subst e
  · exact ⟨x, rfl⟩
  · exact ⟨y, rfl⟩
  · exact ⟨z, rfl⟩
theorem SL_cut (ws : List Str) {j m : Nat} (h : j ≤ m) : SL (ws.take j) + SL (ws.drop m) ≤ SL ws := by
  have h1 := SL_append (ws.take j) (ws.drop j)
  rw [List.take_append_drop] at h1
  have h2 := SL_drop (ws.drop j) (m - j)
  rw [List.drop_drop, show j + (m - j) = m by omega] at h2
  omega
theorem at_strs {ws : List Str} {i : Int} (h0 : 0 ≤ i) (h1 : i < ws.length) : ∃ o, o ∈ ws ∧ atI (ws.map V.str) i = some (.str o) := by
  have hl : i.toNat < ws.length := by omega
  have h := atI_nat (xs := ws.map V.str) (j := i.toNat) (by rw [List.getElem?_map, List.getElem?_eq_getElem hl]; rfl)
  rw [show ((i.toNat : Nat) : Int) = i by omega] at h
  exact ⟨_, List.getElem_mem hl, h⟩
/-- what is joined is not long -/
theorem joined {ws : List Str} {z : Str} (hSL : SL ws + (ws.length - 1) = z.length) (hps : 1 ≤ ws.length) {j m : Nat} (h : j ≤ m) (hz : z.length ≤ 900) (os : List Str) (ho : os.length ≤ 1) (hb : ∀ o ∈ os, o.length ≤ z.length + 3) :
    (∀ y ∈ ws.take j ++ os ++ ws.drop m, y.length ≤ 1000) ∧ (ws.take j ++ os ++ ws.drop m).length ≤ 1000 ∧ (Str.join " " (ws.take j ++ os ++ ws.drop m)).length ≤ 2 * z.length + 4 := by
  have h1 := SL_cut ws h
  have h2 : SL os ≤ z.length + 3 := by
    match os, ho, hb with
    | [], _, _ => exact Nat.zero_le _
    | [o], _, hb =>
      have := hb o (by simp)
      unfold SL
      simpa using this
  have h3 : (ws.take j ++ os ++ ws.drop m).length ≤ ws.length + 1 := by
    rw [List.length_append, List.length_append, List.length_take, List.length_drop]
    omega
  have h4 : SL (ws.take j ++ os ++ ws.drop m) = SL (ws.take j) + SL os + SL (ws.drop m) := by rw [SL_append, SL_append]
  refine ⟨fun y hy => ?_, by omega, ?_⟩
  · rcases List.mem_append.mp hy with hy | hy
    · rcases List.mem_append.mp hy with hy | hy
      · have := SL_mem (List.mem_of_mem_take hy)
        omega
      · have := hb y hy
        omega
    · have := SL_mem (List.mem_of_mem_drop hy)
      omega
  · rw [join_SL, h4]
    omega
def sp_l_spoilt (K : PySem.W.Frag) : Sp := fun vs H Q _ => ∃ (z : Str) (rw so : Addr) (ds : List Int) (ss : List Str), vs = [.str z, .ref rw, .ref so] ∧ z.length ≤ 900 ∧ SqL K H rw (ds.map V.int) ∧ ds.length = 5 ∧ SqL K H so (ss.map V.str) ∧ ss ≠ [] ∧ (∀ y ∈ ss, y.length ≤ 3) ∧
  ∀ (y : Str) (H' : Hp), Same H H' → y.length ≤ 2 * z.length + 4 → Q (.str y) H'
theorem sc_l_spoilt : FnScope ["text", "row", "some", "signs", "way", "at", "sign", "words", "other"] ["text", "row", "some"] (defScope s_l_spoilt) := ⟨rfl, rfl, rfl, by decide +kernel, rfl, by decide +kernel, by decide +kernel⟩
theorem ok_l_spoilt {fd : FuncData} (T : Txt K mg t) (F : Fun K "_law_spoilt" "_law_spoilt" s_l_spoilt t.l_spoilt fd) : FnOk P w K mg base CX0 1 t.l_spoilt fd ["text", "row", "some"] (sp_l_spoilt K) := by
  refine F.ok sc_l_spoilt (fun vs H Q E h => ?_) (fun cdv A outer s H vs Q E hr h => ?_)
  · obtain ⟨z, rw, so, ds, ss, rfl, _⟩ := h
    rfl
  · obtain ⟨z, rw, so, ds, ss, rfl, hz, hrw, hds, hso, hss, hs3, q⟩ := h
    refine ⟨_, (@pss_cons _ _ _ _ _ (@ps_set _ _ (3) _ _ _ _ sc_l_spoilt.nd rfl (Or.inl rfl) (@pe_str _ _ _ _) (by rfl) (by first | exact .inl rfl | exact .inr rfl | assumption)) (by exact (@pss_cons _ _ _ _ _ (@ps_set _ _ (4) _ _ _ _ sc_l_spoilt.nd rfl (Or.inl rfl) (@pe_op _ _ _ _ _ _ _ _ (@op_mod _) (@pe_ix _ _ _ _ _ _ _ (@ix_list _) (@L2.pv _ 1 _ _ (by rfl) (by first | exact Or.inl rfl | exact Or.inr (Or.inl rfl) | exact Or.inr (Or.inr rfl)) (by decide) (by decide)) (@pe_int _ _ _ _) (fun _ _ => rfl)) (@pe_int _ _ _ _)) (by rfl) (by first | exact .inl rfl | exact .inr rfl | assumption)) (by exact (@pss_cons _ _ _ _ _ (@ps_set _ _ (5) _ _ _ _ sc_l_spoilt.nd rfl (Or.inl rfl) (@pe_op _ _ _ _ _ _ _ _ (@op_mod _) (@pe_ix _ _ _ _ _ _ _ (@ix_list _) (@L2.pv _ 1 _ _ (by rfl) (by first | exact Or.inl rfl | exact Or.inr (Or.inl rfl) | exact Or.inr (Or.inr rfl)) (by decide) (by decide)) (@pe_int _ _ _ _) (fun _ _ => rfl)) (@pe_op _ _ _ _ _ _ _ _ (@op_add _) (@pe_callB _ _ _ _ _ _ _ _ _ (@call_len_str _) (by rfl) T.len_ boot_len (@pa_cons _ _ _ _ _ (@L2.pv _ 0 _ _ (by rfl) (by first | exact Or.inl rfl | exact Or.inr (Or.inl rfl) | exact Or.inr (Or.inr rfl)) (by decide) (by decide)) (@pa_nil _) (by rfl)) (by decide) (by decide) (by rfl) (by rfl)) (@pe_int _ _ _ _))) (by rfl) (by first | exact .inl rfl | exact .inr rfl | assumption)) (by exact (@pss_cons _ _ _ _ _ (@ps_set _ _ (6) _ _ _ _ sc_l_spoilt.nd rfl (Or.inl rfl) (@pe_ix _ _ _ _ _ _ _ (@ix_list _) (@pe_lst _ _ _ _ (@pa_cons _ _ _ _ _ (@pe_ix _ _ _ _ _ _ _ (@ix_str _) (@L2.pv _ 3 _ _ (by rfl) (by first | exact Or.inl rfl | exact Or.inr (Or.inl rfl) | exact Or.inr (Or.inr rfl)) (by decide) (by decide)) (@pe_op _ _ _ _ _ _ _ _ (@op_mod _) (@pe_ix _ _ _ _ _ _ _ (@ix_list _) (@L2.pv _ 1 _ _ (by rfl) (by first | exact Or.inl rfl | exact Or.inr (Or.inl rfl) | exact Or.inr (Or.inr rfl)) (by decide) (by decide)) (@pe_int _ _ _ _) (fun _ _ => rfl)) (@pe_callB _ _ _ _ _ _ _ _ _ (@call_len_str _) (by rfl) T.len_ boot_len (@pa_cons _ _ _ _ _ (@L2.pv _ 3 _ _ (by rfl) (by first | exact Or.inl rfl | exact Or.inr (Or.inl rfl) | exact Or.inr (Or.inr rfl)) (by decide) (by decide)) (@pa_nil _) (by rfl)) (by decide) (by decide) (by rfl) (by rfl))) (fun _ _ => rfl)) (@pa_cons _ _ _ _ _ (@pe_ix _ _ _ _ _ _ _ (@ix_str _) (@pe_op _ _ _ _ _ _ _ _ (@op_add_str _) (@L2.pv _ 0 _ _ (by rfl) (by first | exact Or.inl rfl | exact Or.inr (Or.inl rfl) | exact Or.inr (Or.inr rfl)) (by decide) (by decide)) (@pe_str _ _ _ _)) (@pe_op _ _ _ _ _ _ _ _ (@op_mod _) (@pe_ix _ _ _ _ _ _ _ (@ix_list _) (@L2.pv _ 1 _ _ (by rfl) (by first | exact Or.inl rfl | exact Or.inr (Or.inl rfl) | exact Or.inr (Or.inr rfl)) (by decide) (by decide)) (@pe_int _ _ _ _) (fun _ _ => rfl)) (@pe_op _ _ _ _ _ _ _ _ (@op_add _) (@pe_callB _ _ _ _ _ _ _ _ _ (@call_len_str _) (by rfl) T.len_ boot_len (@pa_cons _ _ _ _ _ (@L2.pv _ 0 _ _ (by rfl) (by first | exact Or.inl rfl | exact Or.inr (Or.inl rfl) | exact Or.inr (Or.inr rfl)) (by decide) (by decide)) (@pa_nil _) (by rfl)) (by decide) (by decide) (by rfl) (by rfl)) (@pe_int _ _ _ _))) (fun _ _ => rfl)) (@pa_cons _ _ _ _ _ (@pe_ix _ _ _ _ _ _ _ (@ix_str _) (@pe_str _ _ _ _) (@pe_op _ _ _ _ _ _ _ _ (@op_mod _) (@pe_ix _ _ _ _ _ _ _ (@ix_list _) (@L2.pv _ 1 _ _ (by rfl) (by first | exact Or.inl rfl | exact Or.inr (Or.inl rfl) | exact Or.inr (Or.inr rfl)) (by decide) (by decide)) (@pe_int _ _ _ _) (fun _ _ => rfl)) (@pe_int _ _ _ _)) (fun _ _ => rfl)) (@pa_nil _) (by rfl)) (by rfl)) (by rfl))) (@pe_op _ _ _ _ _ _ _ _ (@op_mod _) (@pe_op _ _ _ _ _ _ _ _ (@op_fdiv _) (@pe_ix _ _ _ _ _ _ _ (@ix_list _) (@L2.pv _ 1 _ _ (by rfl) (by first | exact Or.inl rfl | exact Or.inr (Or.inl rfl) | exact Or.inr (Or.inr rfl)) (by decide) (by decide)) (@pe_int _ _ _ _) (fun _ _ => rfl)) (@pe_int _ _ _ _)) (@pe_int _ _ _ _)) (fun _ _ => rfl)) (by rfl) (by first | exact .inl rfl | exact .inr rfl | assumption)) (by exact (@pss_cons _ _ _ _ _ (@ps_if _ _ _ _ _ _ _ _ (@pt_cmpR _ _ _ _ _ _ _ _ (@op_lt _) (@L2.pv _ 4 _ _ (by rfl) (by first | exact Or.inl rfl | exact Or.inr (Or.inl rfl) | exact Or.inr (Or.inr rfl)) (by decide) (by decide)) (@pe_int _ _ _ _) (nomark _)) (@pss_one _ _ _ (@ps_ret _ _ _ _ (@pe_op _ _ _ _ _ _ _ _ (@op_add_str _) (@pe_op _ _ _ _ _ _ _ _ (@op_add_str _) (@pe_slice _ _ _ _ _ _ _ _ _ _ sl_str (@L2.pv _ 0 _ _ (by rfl) (by first | exact Or.inl rfl | exact Or.inr (Or.inl rfl) | exact Or.inr (Or.inr rfl)) (by decide) (by decide)) (@po_none _) (@po_some _ _ _ (@L2.pv _ 5 _ _ (by rfl) (by first | exact Or.inl rfl | exact Or.inr (Or.inl rfl) | exact Or.inr (Or.inr rfl)) (by decide) (by decide)))) (@L2.pv _ 6 _ _ (by rfl) (by first | exact Or.inl rfl | exact Or.inr (Or.inl rfl) | exact Or.inr (Or.inr rfl)) (by decide) (by decide))) (@pe_slice _ _ _ _ _ _ _ _ _ _ sl_str (@L2.pv _ 0 _ _ (by rfl) (by first | exact Or.inl rfl | exact Or.inr (Or.inl rfl) | exact Or.inr (Or.inr rfl)) (by decide) (by decide)) (@po_some _ _ _ (@pe_op _ _ _ _ _ _ _ _ (@op_add _) (@L2.pv _ 5 _ _ (by rfl) (by first | exact Or.inl rfl | exact Or.inr (Or.inl rfl) | exact Or.inr (Or.inr rfl)) (by decide) (by decide)) (@L2.pv _ 4 _ _ (by rfl) (by first | exact Or.inl rfl | exact Or.inr (Or.inl rfl) | exact Or.inr (Or.inr rfl)) (by decide) (by decide)))) (@po_none _))))) (@pss_nil _)) (by exact (@pss_cons _ _ _ _ _ (@ps_if _ _ _ _ _ _ _ _ (@pt_cmpR _ _ _ _ _ _ _ _ (@op_eq _) (@L2.pv _ 4 _ _ (by rfl) (by first | exact Or.inl rfl | exact Or.inr (Or.inl rfl) | exact Or.inr (Or.inr rfl)) (by decide) (by decide)) (@pe_int _ _ _ _) (nomark _)) (@pss_one _ _ _ (@ps_ret _ _ _ _ (@pe_op _ _ _ _ _ _ _ _ (@op_add_str _) (@pe_slice _ _ _ _ _ _ _ _ _ _ sl_str (@L2.pv _ 0 _ _ (by rfl) (by first | exact Or.inl rfl | exact Or.inr (Or.inl rfl) | exact Or.inr (Or.inr rfl)) (by decide) (by decide)) (@po_none _) (@po_some _ _ _ (@L2.pv _ 5 _ _ (by rfl) (by first | exact Or.inl rfl | exact Or.inr (Or.inl rfl) | exact Or.inr (Or.inr rfl)) (by decide) (by decide)))) (@pe_slice _ _ _ _ _ _ _ _ _ _ sl_str (@L2.pv _ 0 _ _ (by rfl) (by first | exact Or.inl rfl | exact Or.inr (Or.inl rfl) | exact Or.inr (Or.inr rfl)) (by decide) (by decide)) (@po_some _ _ _ (@pe_op _ _ _ _ _ _ _ _ (@op_add _) (@pe_op _ _ _ _ _ _ _ _ (@op_add _) (@L2.pv _ 5 _ _ (by rfl) (by first | exact Or.inl rfl | exact Or.inr (Or.inl rfl) | exact Or.inr (Or.inr rfl)) (by decide) (by decide)) (@pe_int _ _ _ _)) (@pe_op _ _ _ _ _ _ _ _ (@op_mod _) (@pe_ix _ _ _ _ _ _ _ (@ix_list _) (@L2.pv _ 1 _ _ (by rfl) (by first | exact Or.inl rfl | exact Or.inr (Or.inl rfl) | exact Or.inr (Or.inr rfl)) (by decide) (by decide)) (@pe_int _ _ _ _) (fun _ _ => rfl)) (@pe_int _ _ _ _)))) (@po_none _))))) (@pss_nil _)) (by exact (@pss_cons _ _ _ _ _ (@ps_if _ _ _ _ _ _ _ _ (@pt_cmpR _ _ _ _ _ _ _ _ (@op_eq _) (@L2.pv _ 4 _ _ (by rfl) (by first | exact Or.inl rfl | exact Or.inr (Or.inl rfl) | exact Or.inr (Or.inr rfl)) (by decide) (by decide)) (@pe_int _ _ _ _) (nomark _)) (@pss_one _ _ _ (@ps_ret _ _ _ _ (@pe_op _ _ _ _ _ _ _ _ (@op_add_str _) (@pe_slice _ _ _ _ _ _ _ _ _ _ sl_str (@L2.pv _ 0 _ _ (by rfl) (by first | exact Or.inl rfl | exact Or.inr (Or.inl rfl) | exact Or.inr (Or.inr rfl)) (by decide) (by decide)) (@po_none _) (@po_some _ _ _ (@pe_op _ _ _ _ _ _ _ _ (@op_add _) (@pe_op _ _ _ _ _ _ _ _ (@op_add _) (@L2.pv _ 5 _ _ (by rfl) (by first | exact Or.inl rfl | exact Or.inr (Or.inl rfl) | exact Or.inr (Or.inr rfl)) (by decide) (by decide)) (@pe_int _ _ _ _)) (@pe_op _ _ _ _ _ _ _ _ (@op_mod _) (@pe_ix _ _ _ _ _ _ _ (@ix_list _) (@L2.pv _ 1 _ _ (by rfl) (by first | exact Or.inl rfl | exact Or.inr (Or.inl rfl) | exact Or.inr (Or.inr rfl)) (by decide) (by decide)) (@pe_int _ _ _ _) (fun _ _ => rfl)) (@pe_int _ _ _ _))))) (@pe_slice _ _ _ _ _ _ _ _ _ _ sl_str (@L2.pv _ 0 _ _ (by rfl) (by first | exact Or.inl rfl | exact Or.inr (Or.inl rfl) | exact Or.inr (Or.inr rfl)) (by decide) (by decide)) (@po_some _ _ _ (@L2.pv _ 5 _ _ (by rfl) (by first | exact Or.inl rfl | exact Or.inr (Or.inl rfl) | exact Or.inr (Or.inr rfl)) (by decide) (by decide))) (@po_none _))))) (@pss_nil _)) (by exact (@pss_cons _ _ _ _ _ (@ps_set _ _ (7) _ _ _ _ sc_l_spoilt.nd rfl (Or.inl rfl) (@pe_bm _ _ _ _ _ _ _ _ _ _ _ _ PySem.F.plainAttrs_str PySem.F.slot_str_split PySem.F.type_str_split (@mt_splitG _) (@L2.pv _ 0 _ _ (by rfl) (by first | exact Or.inl rfl | exact Or.inr (Or.inl rfl) | exact Or.inr (Or.inr rfl)) (by decide) (by decide)) (@pa_cons _ _ _ _ _ (@pe_str _ _ _ _) (@pa_nil _) (by rfl)) (by rfl) (by rfl) (by rfl) (by rfl) (by rfl)) (by rfl) (by first | exact .inl rfl | exact .inr rfl | assumption)) (by exact (@pss_cons _ _ _ _ _ (@ps_set _ _ (5) _ _ _ _ sc_l_spoilt.nd rfl (Or.inl rfl) (@pe_op _ _ _ _ _ _ _ _ (@op_mod _) (@pe_ix _ _ _ _ _ _ _ (@ix_list _) (@L2.pv _ 1 _ _ (by rfl) (by first | exact Or.inl rfl | exact Or.inr (Or.inl rfl) | exact Or.inr (Or.inr rfl)) (by decide) (by decide)) (@pe_int _ _ _ _) (fun _ _ => rfl)) (@pe_callB _ _ _ _ _ _ _ _ _ (@call_len_seq _) (by rfl) T.len_ boot_len (@pa_cons _ _ _ _ _ (@L2.pv _ 7 _ _ (by rfl) (by first | exact Or.inl rfl | exact Or.inr (Or.inl rfl) | exact Or.inr (Or.inr rfl)) (by decide) (by decide)) (@pa_nil _) (by rfl)) (by decide) (by decide) (by rfl) (by rfl))) (by rfl) (by first | exact .inl rfl | exact .inr rfl | assumption)) (by exact (@pss_cons _ _ _ _ _ (@ps_set _ _ (8) _ _ _ _ sc_l_spoilt.nd rfl (Or.inl rfl) (@pe_ix _ _ _ _ _ _ _ (@ix_list _) (@L2.pv _ 7 _ _ (by rfl) (by first | exact Or.inl rfl | exact Or.inr (Or.inl rfl) | exact Or.inr (Or.inr rfl)) (by decide) (by decide)) (@pe_op _ _ _ _ _ _ _ _ (@op_mod _) (@pe_ix _ _ _ _ _ _ _ (@ix_list _) (@L2.pv _ 1 _ _ (by rfl) (by first | exact Or.inl rfl | exact Or.inr (Or.inl rfl) | exact Or.inr (Or.inr rfl)) (by decide) (by decide)) (@pe_int _ _ _ _) (fun _ _ => rfl)) (@pe_callB _ _ _ _ _ _ _ _ _ (@call_len_seq _) (by rfl) T.len_ boot_len (@pa_cons _ _ _ _ _ (@L2.pv _ 7 _ _ (by rfl) (by first | exact Or.inl rfl | exact Or.inr (Or.inl rfl) | exact Or.inr (Or.inr rfl)) (by decide) (by decide)) (@pa_nil _) (by rfl)) (by decide) (by decide) (by rfl) (by rfl))) (fun _ _ => rfl)) (by rfl) (by first | exact .inl rfl | exact .inr rfl | assumption)) (by exact (@pss_cons _ _ _ _ _ (@ps_if _ _ _ _ _ _ _ _ (@pt_cmpR _ _ _ _ _ _ _ _ (@op_eq _) (@pe_op _ _ _ _ _ _ _ _ (@op_mod _) (@pe_ix _ _ _ _ _ _ _ (@ix_list _) (@L2.pv _ 1 _ _ (by rfl) (by first | exact Or.inl rfl | exact Or.inr (Or.inl rfl) | exact Or.inr (Or.inr rfl)) (by decide) (by decide)) (@pe_int _ _ _ _) (fun _ _ => rfl)) (@pe_int _ _ _ _)) (@pe_int _ _ _ _) (nomark _)) (@pss_one _ _ _ (@ps_ret _ _ _ _ (@pe_bm _ _ _ _ _ _ _ _ _ _ _ _ PySem.F.plainAttrs_str PySem.F.slot_str_join PySem.F.type_str_join (@mt_join _) (@pe_str _ _ _ _) (@pa_cons _ _ _ _ _ (@pe_op _ _ _ _ _ _ _ _ (@op_cat _) (@pe_slice _ _ _ _ _ _ _ _ _ _ sl_list (@L2.pv _ 7 _ _ (by rfl) (by first | exact Or.inl rfl | exact Or.inr (Or.inl rfl) | exact Or.inr (Or.inr rfl)) (by decide) (by decide)) (@po_none _) (@po_some _ _ _ (@L2.pv _ 5 _ _ (by rfl) (by first | exact Or.inl rfl | exact Or.inr (Or.inl rfl) | exact Or.inr (Or.inr rfl)) (by decide) (by decide)))) (@pe_slice _ _ _ _ _ _ _ _ _ _ sl_list (@L2.pv _ 7 _ _ (by rfl) (by first | exact Or.inl rfl | exact Or.inr (Or.inl rfl) | exact Or.inr (Or.inr rfl)) (by decide) (by decide)) (@po_some _ _ _ (@pe_op _ _ _ _ _ _ _ _ (@op_add _) (@L2.pv _ 5 _ _ (by rfl) (by first | exact Or.inl rfl | exact Or.inr (Or.inl rfl) | exact Or.inr (Or.inr rfl)) (by decide) (by decide)) (@pe_int _ _ _ _))) (@po_none _))) (@pa_nil _) (by rfl)) (by rfl) (by rfl) (by rfl) (by rfl) (by rfl)))) (@pss_nil _)) (by exact (@pss_cons _ _ _ _ _ (@ps_if _ _ _ _ _ _ _ _ (@pt_cmpR _ _ _ _ _ _ _ _ (@op_eq _) (@pe_op _ _ _ _ _ _ _ _ (@op_mod _) (@pe_ix _ _ _ _ _ _ _ (@ix_list _) (@L2.pv _ 1 _ _ (by rfl) (by first | exact Or.inl rfl | exact Or.inr (Or.inl rfl) | exact Or.inr (Or.inr rfl)) (by decide) (by decide)) (@pe_int _ _ _ _) (fun _ _ => rfl)) (@pe_int _ _ _ _)) (@pe_int _ _ _ _) (nomark _)) (@pss_one _ _ _ (@ps_ret _ _ _ _ (@pe_bm _ _ _ _ _ _ _ _ _ _ _ _ PySem.F.plainAttrs_str PySem.F.slot_str_join PySem.F.type_str_join (@mt_join _) (@pe_str _ _ _ _) (@pa_cons _ _ _ _ _ (@pe_op _ _ _ _ _ _ _ _ (@op_cat _) (@pe_op _ _ _ _ _ _ _ _ (@op_cat _) (@pe_slice _ _ _ _ _ _ _ _ _ _ sl_list (@L2.pv _ 7 _ _ (by rfl) (by first | exact Or.inl rfl | exact Or.inr (Or.inl rfl) | exact Or.inr (Or.inr rfl)) (by decide) (by decide)) (@po_none _) (@po_some _ _ _ (@L2.pv _ 5 _ _ (by rfl) (by first | exact Or.inl rfl | exact Or.inr (Or.inl rfl) | exact Or.inr (Or.inr rfl)) (by decide) (by decide)))) (@pe_lst _ _ _ _ (@pa_cons _ _ _ _ _ (@L2.pv _ 8 _ _ (by rfl) (by first | exact Or.inl rfl | exact Or.inr (Or.inl rfl) | exact Or.inr (Or.inr rfl)) (by decide) (by decide)) (@pa_nil _) (by rfl)))) (@pe_slice _ _ _ _ _ _ _ _ _ _ sl_list (@L2.pv _ 7 _ _ (by rfl) (by first | exact Or.inl rfl | exact Or.inr (Or.inl rfl) | exact Or.inr (Or.inr rfl)) (by decide) (by decide)) (@po_some _ _ _ (@L2.pv _ 5 _ _ (by rfl) (by first | exact Or.inl rfl | exact Or.inr (Or.inl rfl) | exact Or.inr (Or.inr rfl)) (by decide) (by decide))) (@po_none _))) (@pa_nil _) (by rfl)) (by rfl) (by rfl) (by rfl) (by rfl) (by rfl)))) (@pss_nil _)) (by exact (@pss_cons _ _ _ _ _ (@ps_mid _ _ _ (@ps_if _ _ _ _ _ _ _ _ (@pt_cmpR _ _ _ _ _ _ _ _ (@op_eq _) (@pe_op _ _ _ _ _ _ _ _ (@op_mod _) (@pe_ix _ _ _ _ _ _ _ (@ix_list _) (@L2.pv _ 1 _ _ (by rfl) (by first | exact Or.inl rfl | exact Or.inr (Or.inl rfl) | exact Or.inr (Or.inr rfl)) (by decide) (by decide)) (@pe_int _ _ _ _) (fun _ _ => rfl)) (@pe_int _ _ _ _)) (@pe_int _ _ _ _) (nomark _)) (@pss_one _ _ _ (@ps_set _ _ (8) _ _ _ _ sc_l_spoilt.nd rfl (Or.inl rfl) (@pe_ix _ _ _ _ _ _ _ (@ix_list _) (@L2.pv _ 2 _ _ (by rfl) (by first | exact Or.inl rfl | exact Or.inr (Or.inl rfl) | exact Or.inr (Or.inr rfl)) (by decide) (by decide)) (@pe_op _ _ _ _ _ _ _ _ (@op_mod _) (@pe_ix _ _ _ _ _ _ _ (@ix_list _) (@L2.pv _ 1 _ _ (by rfl) (by first | exact Or.inl rfl | exact Or.inr (Or.inl rfl) | exact Or.inr (Or.inr rfl)) (by decide) (by decide)) (@pe_int _ _ _ _) (fun _ _ => rfl)) (@pe_callB _ _ _ _ _ _ _ _ _ (@call_len_seq _) (by rfl) T.len_ boot_len (@pa_cons _ _ _ _ _ (@L2.pv _ 2 _ _ (by rfl) (by first | exact Or.inl rfl | exact Or.inr (Or.inl rfl) | exact Or.inr (Or.inr rfl)) (by decide) (by decide)) (@pa_nil _) (by rfl)) (by decide) (by decide) (by rfl) (by rfl))) (fun _ _ => rfl)) (by rfl) (by first | exact .inl rfl | exact .inr rfl | assumption))) (@pss_nil _))) (by exact (@pss_one _ _ _ (@ps_ret _ _ _ _ (@pe_bm _ _ _ _ _ _ _ _ _ _ _ _ PySem.F.plainAttrs_str PySem.F.slot_str_join PySem.F.type_str_join (@mt_join _) (@pe_str _ _ _ _) (@pa_cons _ _ _ _ _ (@pe_op _ _ _ _ _ _ _ _ (@op_cat _) (@pe_op _ _ _ _ _ _ _ _ (@op_cat _) (@pe_slice _ _ _ _ _ _ _ _ _ _ sl_list (@L2.pv _ 7 _ _ (by rfl) (by first | exact Or.inl rfl | exact Or.inr (Or.inl rfl) | exact Or.inr (Or.inr rfl)) (by decide) (by decide)) (@po_none _) (@po_some _ _ _ (@L2.pv _ 5 _ _ (by rfl) (by first | exact Or.inl rfl | exact Or.inr (Or.inl rfl) | exact Or.inr (Or.inr rfl)) (by decide) (by decide)))) (@pe_lst _ _ _ _ (@pa_cons _ _ _ _ _ (@L2.pv _ 8 _ _ (by rfl) (by first | exact Or.inl rfl | exact Or.inr (Or.inl rfl) | exact Or.inr (Or.inr rfl)) (by decide) (by decide)) (@pa_nil _) (by rfl)))) (@pe_slice _ _ _ _ _ _ _ _ _ _ sl_list (@L2.pv _ 7 _ _ (by rfl) (by first | exact Or.inl rfl | exact Or.inr (Or.inl rfl) | exact Or.inr (Or.inr rfl)) (by decide) (by decide)) (@po_some _ _ _ (@pe_op _ _ _ _ _ _ _ _ (@op_add _) (@L2.pv _ 5 _ _ (by rfl) (by first | exact Or.inl rfl | exact Or.inr (Or.inl rfl) | exact Or.inr (Or.inr rfl)) (by decide) (by decide)) (@pe_int _ _ _ _))) (@po_none _))) (@pa_nil _) (by rfl)) (by rfl) (by rfl) (by rfl) (by rfl) (by rfl)))))))))))))))))))))))))))))), ?_⟩
    have hsl := sizeLine_eq
    obtain ⟨v0, hv0⟩ := at_ints (ns := ds) (k := 0) (by decide) (by omega)
    obtain ⟨v1, hv1⟩ := at_ints (ns := ds) (k := 1) (by decide) (by omega)
    obtain ⟨v2, hv2⟩ := at_ints (ns := ds) (k := 2) (by decide) (by omega)
    obtain ⟨v3, hv3⟩ := at_ints (ns := ds) (k := 3) (by decide) (by omega)
    obtain ⟨v4, hv4⟩ := at_ints (ns := ds) (k := 4) (by decide) (by omega)
    have hl1 := sp_len
    refine ⟨_, rfl, rw, _, _, .int v0, rfl, rfl, hrw, hv0, _, _, rfl, rfl, by show (0 : Int) < 9; decide, ?_⟩
    refine ⟨_, rfl, rw, _, _, .int v1, rfl, rfl, hrw, hv1, _, rfl, z, rfl, by omega, _, _, rfl, rfl, _, _, rfl, rfl, by omega, ?_⟩
    have sl := signs_len
    have ml := some_len
    obtain ⟨c1, hc1⟩ := at_sign (z := signsS) (i := v3 % 95) (Int.emod_nonneg _ (by decide)) (by rw [sl]; exact Int.emod_lt_of_pos _ (by decide))
    obtain ⟨c2, hc2⟩ := at_sign (z := z ++ " ") (i := v3 % ((z.length : Int) + 1)) (Int.emod_nonneg _ (by omega)) (by rw [Str.length_append, hl1]; have := Int.emod_lt_of_pos v3 (show (0 : Int) < (z.length : Int) + 1 by omega); omega)
    obtain ⟨c3, hc3⟩ := at_sign (z := someS) (i := v3 % 7) (Int.emod_nonneg _ (by decide)) (by rw [ml]; exact Int.emod_lt_of_pos _ (by decide))
    refine ⟨_, rfl, _, rfl, rw, _, _, .int v3, rfl, rfl, hrw, hv3, _, rfl, signsS, rfl, by omega, _, _, rfl, rfl, ?_, signsS, _, c1, rfl, rfl, by omega, ?_, ?_⟩
    · show (0 : Int) < ((signsS.length : Nat) : Int)
      rw [sl]
      decide
    · rw [sl]; exact hc1
    refine ⟨_, rfl, z, " ", rfl, rfl, by omega, _, rfl, rw, _, _, .int v3, rfl, rfl, hrw, hv3, _, rfl, z, rfl, by omega, _, _, rfl, rfl, _, _, rfl, rfl, by omega, _, _, c2, rfl, rfl, by rw [Str.length_append]; omega, hc2, ?_⟩
    refine ⟨_, rfl, rw, _, _, .int v3, rfl, rfl, hrw, hv3, _, _, rfl, rfl, by show (0 : Int) < 7; decide, someS, _, c3, rfl, rfl, by omega, hc3, by show 3 ≤ sizeLine; omega, fun b1 hb1 => ?_⟩
    have s1 := same_upd (o := .lst [.str ⟨#[c1]⟩, .str ⟨#[c2]⟩, .str ⟨#[c3]⟩]) hb1
    obtain ⟨u, hu⟩ := at_three (x := c1) (y := c2) (z := c3) (m := v0 / 9 % 3) (Int.emod_nonneg _ (by decide)) (Int.emod_lt_of_pos _ (by decide))
    refine ⟨_, rfl, rw, _, _, .int v0, rfl, rfl, s1.seq hrw, hv0, _, _, rfl, rfl, ⟨by decide, by decide⟩, _, _, rfl, rfl, by show (0 : Int) < 3; decide, b1, _, _, _, rfl, rfl, SqL.of upd_same, hu, ?_⟩
    generalize upd H b1 (.lst [.str ⟨#[c1]⟩, .str ⟨#[c2]⟩, .str ⟨#[c3]⟩]) = H1 at s1 ⊢
    have hq : ∀ (y : Str) (H' : Hp), Same H1 H' → y.length ≤ 2 * z.length + 4 → Q (.str y) H' := fun y H' s' => q y H' (s1.trans s')
    have hrw1 := s1.seq hrw
    have hso1 := s1.seq hso
    have hu1 : (⟨#[u]⟩ : Str).length = 1 := rfl
    refine ⟨_, rfl, _, _, rfl, rfl, _, rfl, ite2 (fun g1 => ?_) (fun g1 => ?_)⟩
    · refine ⟨_, rfl, _, rfl, _, rfl, z, rfl, by omega, fun y1 hy1 => ?_⟩
      refine ⟨_, rfl, y1, _, rfl, rfl, by omega, _, rfl, _, rfl, _, rfl, _, _, rfl, rfl, _, rfl, z, rfl, by omega, fun y2 hy2 => ?_⟩
      refine ⟨_, y2, rfl, rfl, by rw [Str.length_append]; omega, hq _ _ (fun _ _ e => e) ?_⟩
      rw [Str.length_append, Str.length_append]; omega
    refine ⟨_, rfl, rfl, _, rfl, ite2 (fun g2 => ?_) (fun g2 => ?_)⟩
    · refine ⟨_, rfl, _, rfl, _, rfl, z, rfl, by omega, fun y1 hy1 => ?_⟩
      refine ⟨_, rfl, _, rfl, _, _, rfl, rfl, _, rfl, rw, _, _, .int v2, rfl, rfl, hrw1, hv2, _, _, rfl, rfl, by show (0 : Int) < 3; decide, _, _, rfl, rfl, _, rfl, z, rfl, by omega, fun y2 hy2 => ?_⟩
      refine ⟨y1, y2, rfl, rfl, by omega, hq _ _ (fun _ _ e => e) ?_⟩
      rw [Str.length_append]
      omega
    refine ⟨_, rfl, rfl, _, rfl, ite2 (fun g3 => ?_) (fun g3 => ?_)⟩
    · refine ⟨_, rfl, _, rfl, _, _, rfl, rfl, _, rfl, rw, _, _, .int v2, rfl, rfl, hrw1, hv2, _, _, rfl, rfl, by show (0 : Int) < 3; decide, _, _, rfl, rfl, _, rfl, z, rfl, by omega, fun y1 hy1 => ?_⟩
      refine ⟨_, rfl, _, rfl, _, rfl, z, rfl, by omega, fun y2 hy2 => ?_⟩
      refine ⟨y1, y2, rfl, rfl, by omega, hq _ _ (fun _ _ e => e) ?_⟩
      rw [Str.length_append]
      omega
    refine ⟨_, rfl, rfl, z, rfl, rfl, by omega, fun l hl => ?_⟩
    have hsp := L2.split_le z
    have hSL := split_SL z
    have hps := PyProof.Rows.split_pos z " "
    generalize PySem.Txt.split z " " = ws at hsp hSL hps ⊢
    have hwd : ∀ w ∈ ws, w.length ≤ 900 := fun w hw => by have := SL_mem hw; omega
    have s2 := same_upd (o := .lst (ws.map V.str)) hl
    have h2 : upd H1 l (.lst (ws.map V.str)) l = some (.lst (ws.map V.str)) := upd_same
    generalize upd H1 l (.lst (ws.map V.str)) = H2 at s2 h2 ⊢
    have hrw2 := s2.seq hrw1
    have hso2 := s2.seq hso1
    refine ⟨_, rfl, rw, _, _, .int v1, rfl, rfl, hrw2, hv1, _, rfl, l, _, rfl, .inl (SqL.of h2), _, _, rfl, rfl, by show (0 : Int) < (((ws.map V.str).length : Nat) : Int); rw [List.length_map]; omega, ?_⟩
    have ew : (((ws.map V.str).length : Nat) : Int) = ws.length := by rw [List.length_map]
    have em := Int.emod_nonneg v1 (show ((ws.length : Nat) : Int) ≠ 0 by omega)
    have em2 := Int.emod_lt_of_pos v1 (show (0 : Int) < ((ws.length : Nat) : Int) by omega)
    obtain ⟨j, hj, ej⟩ : ∃ j : Nat, j < ws.length ∧ v1 % (((ws.map V.str).length : Nat) : Int) = (j : Int) := ⟨(v1 % (ws.length : Int)).toNat, by omega, by rw [ew]; omega⟩
    obtain ⟨o, ho, hoa⟩ := at_strs (ws := ws) (i := v2 % (((ws.map V.str).length : Nat) : Int)) (Int.emod_nonneg _ (by omega)) (by rw [ew]; exact Int.emod_lt_of_pos _ (by omega))
    refine ⟨_, rfl, _, rfl, rw, _, _, .int v2, rfl, rfl, hrw2, hv2, _, rfl, l, _, rfl, .inl (SqL.of h2), _, _, rfl, rfl, by show (0 : Int) < (((ws.map V.str).length : Nat) : Int); omega, l, _, _, _, rfl, rfl, SqL.of h2, hoa, ?_⟩
    have holen : o.length ≤ z.length + 3 := by have := SL_mem ho; omega
    have c1 : cutV (ws.map V.str) none (some (v1 % (((ws.map V.str).length : Nat) : Int))) = (ws.take j).map V.str := by rw [ej, cutTo, List.map_take]
    have c2 : cutV (ws.map V.str) (some (v1 % (((ws.map V.str).length : Nat) : Int) + 1)) none = (ws.drop (j + 1)).map V.str := by
      rw [ej, show ((j : Int) + 1) = ((j + 1 : Nat) : Int) by omega, cutFrom, List.map_drop]
    have c3 : cutV (ws.map V.str) (some (v1 % (((ws.map V.str).length : Nat) : Int))) none = (ws.drop j).map V.str := by rw [ej, cutFrom, List.map_drop]
    refine ⟨_, rfl, rw, _, _, .int v4, rfl, rfl, hrw2, hv4, _, _, rfl, rfl, by show (0 : Int) < 4; decide, rfl, _, rfl, ite2 (fun g4 => ?_) (fun g4 => ?_)⟩
    · obtain ⟨j1, j2, j3⟩ := joined hSL hps (show j ≤ j + 1 by omega) hz [] (by simp) (by simp)
      rw [List.append_nil] at j1 j2 j3
      refine ⟨rfl, _, rfl, _, rfl, _, rfl, l, _, rfl, SqL.of h2, fun a1 ha1 => ?_⟩
      rw [c1]
      have t1 := same_upd (o := .lst ((ws.take j).map V.str)) ha1
      refine ⟨_, rfl, _, rfl, _, _, rfl, rfl, _, rfl, l, _, rfl, SqL.of (t1 _ _ h2), fun a2 ha2 => ?_⟩
      rw [c2]
      have t2 := same_upd (o := .lst ((ws.drop (j + 1)).map V.str)) ha2
      refine ⟨a1, a2, _, _, rfl, rfl, t2 _ _ upd_same, upd_same, by rw [← List.length_append, ← List.map_append, List.length_map]; omega, fun a3 ha3 => ?_⟩
      rw [← List.map_append]
      have t3 := same_upd (o := .lst ((ws.take j ++ ws.drop (j + 1)).map V.str)) ha3
      exact ⟨" ", a3, ws.take j ++ ws.drop (j + 1), rfl, rfl, SqL.of upd_same, j1, by rw [hl1]; decide, j2, hq _ _ (s2.trans (t1.trans (t2.trans t3))) j3⟩
    refine ⟨_, rfl, rw, _, _, .int v4, rfl, rfl, hrw2, hv4, _, _, rfl, rfl, by show (0 : Int) < 4; decide, rfl, _, rfl, ite2 (fun g5 => ?_) (fun g5 => ?_)⟩
    · obtain ⟨j1, j2, j3⟩ := joined hSL hps (show j ≤ j by omega) hz [o] (by simp) (by simpa using holen)
      refine ⟨rfl, _, rfl, _, rfl, _, rfl, l, _, rfl, SqL.of h2, fun a1 ha1 => ?_⟩
      rw [c1]
      have t1 := same_upd (o := .lst ((ws.take j).map V.str)) ha1
      refine ⟨_, rfl, by show 1 ≤ sizeLine; omega, fun a2 ha2 => ?_⟩
      have t2 := same_upd (o := .lst [.str o]) ha2
      refine ⟨a1, a2, _, _, rfl, rfl, t2 _ _ upd_same, upd_same, by rw [List.length_map, List.length_take]; show _ + 1 ≤ _; omega, fun a3 ha3 => ?_⟩
      have t3 := same_upd (o := .lst ((ws.take j).map V.str ++ [.str o])) ha3
      refine ⟨_, rfl, _, rfl, _, rfl, l, _, rfl, SqL.of (t3 _ _ (t2 _ _ (t1 _ _ h2))), fun a4 ha4 => ?_⟩
      rw [c3]
      have t4 := same_upd (o := .lst ((ws.drop j).map V.str)) ha4
      have ecat : (ws.take j).map V.str ++ [.str o] ++ (ws.drop j).map V.str = (ws.take j ++ [o] ++ ws.drop j).map V.str := by simp
      refine ⟨a3, a4, _, _, rfl, rfl, t4 _ _ upd_same, upd_same, by rw [← List.length_append, ecat, List.length_map]; omega, fun a5 ha5 => ?_⟩
      rw [ecat]
      have t5 := same_upd (o := .lst ((ws.take j ++ [o] ++ ws.drop j).map V.str)) ha5
      exact ⟨" ", a5, ws.take j ++ [o] ++ ws.drop j, rfl, rfl, SqL.of upd_same, j1, by rw [hl1]; decide, j2, hq _ _ (s2.trans (t1.trans (t2.trans (t3.trans (t4.trans t5))))) j3⟩
    refine ⟨fun σ' H' => ∃ o : Str, o.length ≤ z.length + 3 ∧ σ' = [some (.str z), some (.ref rw), some (.ref so), some (.str signsS), some (.int (v0 % 9)), some (.int (v1 % (((ws.map V.str).length : Nat) : Int))), some (.str ⟨#[u]⟩), some (.ref l), some (.str o)] ∧ H' = H2, ?_, ?_⟩
    · refine ⟨_, rfl, rw, _, _, .int v4, rfl, rfl, hrw2, hv4, _, _, rfl, rfl, by show (0 : Int) < 4; decide, rfl, _, rfl, ite2 (fun g6 => ?_) (fun g6 => ⟨o, holen, rfl, rfl⟩)⟩
      have hs0 : 1 ≤ ss.length := List.length_pos_iff.mpr hss
      obtain ⟨o', ho', hoa'⟩ := at_strs (ws := ss) (i := v3 % (((ss.map V.str).length : Nat) : Int)) (Int.emod_nonneg _ (by rw [List.length_map]; omega)) (by rw [List.length_map]; exact Int.emod_lt_of_pos _ (by omega))
      refine ⟨_, rfl, _, rfl, rw, _, _, .int v3, rfl, rfl, hrw2, hv3, _, rfl, so, _, rfl, .inl hso2, _, _, rfl, rfl, by show (0 : Int) < (((ss.map V.str).length : Nat) : Int); rw [List.length_map]; omega, so, _, _, _, rfl, rfl, hso2, hoa', ?_⟩
      exact ⟨o', by have := hs3 o' ho'; omega, rfl, rfl⟩
    rintro σ' H' ⟨o, holen, rfl, rfl⟩
    obtain ⟨j1, j2, j3⟩ := joined hSL hps (show j ≤ j + 1 by omega) hz [o] (by simp) (by simpa using holen)
    refine ⟨rfl, _, rfl, _, rfl, _, rfl, l, _, rfl, SqL.of h2, fun a1 ha1 => ?_⟩
    rw [c1]
    have t1 := same_upd (o := .lst ((ws.take j).map V.str)) ha1
    refine ⟨_, rfl, by show 1 ≤ sizeLine; omega, fun a2 ha2 => ?_⟩
    have t2 := same_upd (o := .lst [.str o]) ha2
    refine ⟨a1, a2, _, _, rfl, rfl, t2 _ _ upd_same, upd_same, by rw [List.length_map, List.length_take]; show _ + 1 ≤ _; omega, fun a3 ha3 => ?_⟩
    have t3 := same_upd (o := .lst ((ws.take j).map V.str ++ [.str o])) ha3
    refine ⟨_, rfl, _, rfl, _, _, rfl, rfl, _, rfl, l, _, rfl, SqL.of (t3 _ _ (t2 _ _ (t1 _ _ h2))), fun a4 ha4 => ?_⟩
    rw [c2]
    have t4 := same_upd (o := .lst ((ws.drop (j + 1)).map V.str)) ha4
    have ecat : (ws.take j).map V.str ++ [.str o] ++ (ws.drop (j + 1)).map V.str = (ws.take j ++ [o] ++ ws.drop (j + 1)).map V.str := by simp
    refine ⟨a3, a4, _, _, rfl, rfl, t4 _ _ upd_same, upd_same, by rw [← List.length_append, ecat, List.length_map]; omega, fun a5 ha5 => ?_⟩
    rw [ecat]
    have t5 := same_upd (o := .lst ((ws.take j ++ [o] ++ ws.drop (j + 1)).map V.str)) ha5
    exact ⟨" ", a5, ws.take j ++ [o] ++ ws.drop (j + 1), rfl, rfl, SqL.of upd_same, j1, by rw [hl1]; decide, j2, hq _ _ (s2.trans (t1.trans (t2.trans (t3.trans (t4.trans t5))))) j3⟩
end
end My

end
section
set_option maxHeartbeats 3999000
namespace My
open PySem L2 PyProof.Rows
section
variable {P : Program} {w : World} {K : PySem.W.Frag} {mg : Str → Option Value} {base : Heap} {t : Adr}
theorem eqD_int {H : Hp} {d : Nat} (x : Int) : EqD K H d (.int x) (.int x) true := by
  have h := EqD.flat (K := K) (H := H) (d := d) (x := .int x) (y := .int x) rfl rfl
  have e : eqV (.int x) (.int x) = true := by simp [eqV]
  rw [e] at h
  exact h
theorem eqD_tup {H : Hp} {a b : Addr} {ms : List Int} (ha : SqT K H a (ms.map V.int)) (hb : SqT K H b (ms.map V.int)) : EqD K H 8 (.ref a) (.ref b) true := by
  by_cases hab : a = b
  · subst hab
    exact .same
  · have h := EqD.tups (d := 7) (e := fun _ => true) hab ha hb fun j x y hx hy => by
      rw [hx] at hy
      cases hy
      obtain ⟨i, rfl, _⟩ := map_get hx
      exact eqD_int i
    have e : ((List.range (min (ms.map V.int).length (ms.map V.int).length)).all (fun _ => true) && (ms.map V.int).length == (ms.map V.int).length) = true := by simp
    rw [e] at h
    exact h
theorem rEqT_true {H : Hp} {Q : VK} {a b : Addr} {xs ys : List V} (ha : SqT K H a xs) (hb : SqT K H b ys) (hl : xs.length = ys.length) (he : ∀ (j : Nat) x y, xs[j]? = some x → ys[j]? = some y → EqD K H 8 x y true) (q : Q (.bl false) H) : rEqD K true (.ref a) (.ref b) H Q := by
  refine ⟨a, b, _, _, rfl, rfl, .inr ⟨ha, hb⟩, .inr ⟨hl, fun _ => true, he, ?_⟩⟩
  have : (List.range xs.length).all (fun _ => true) = true := by simp
  rw [this]
  exact q
def wordsSp : List Str := ["0", "00", "1", "2", "3", "4", "5", "6", "9", "25", "91", "97", "98", "100", "101", ":", "-1", "", "007"]
theorem wordsSp_len : ∀ y ∈ wordsSp, y.length ≤ 3 := by decide +kernel
def bnd : Nat → Nat
  | 0 => 100
  | n + 1 => 2 * bnd n + 4
theorem sc_law : FnScope ["script", "code", "text", "some", "draws", "k", "one", "j", "due", "at"] ["script"] (defScope s_law) := ⟨rfl, rfl, rfl, by decide +kernel, rfl, by decide +kernel, by decide +kernel⟩
theorem ok_law {fd : FuncData} (T : Txt K mg t) (F : Fun K "law" "law" s_law t.law fd) : FnOk P w K mg base CX0 7 t.law fd ["script"] (sp_law K) := by
  obtain ⟨fd_l_code, F_l_code, b_l_code⟩ := T.f_l_code
  have G_l_code := ok_l_code (P := P) (w := w) (base := base) T F_l_code
  obtain ⟨fd_l_draws, F_l_draws, b_l_draws⟩ := T.f_l_draws
  have G_l_draws := ok_l_draws (P := P) (w := w) (base := base) T F_l_draws
  obtain ⟨fd_l_read, F_l_read, b_l_read⟩ := T.f_l_read
  have G_l_read := ok_l_read (P := P) (w := w) (base := base) T F_l_read
  obtain ⟨fd_l_told, F_l_told, b_l_told⟩ := T.f_l_told
  have G_l_told := ok_l_told (P := P) (w := w) (base := base) T F_l_told
  obtain ⟨fd_l_spoilt, F_l_spoilt, b_l_spoilt⟩ := T.f_l_spoilt
  have G_l_spoilt := ok_l_spoilt (P := P) (w := w) (base := base) T F_l_spoilt
  refine F.ok sc_law (fun vs H Q E h => ?_) (fun cdv A outer s H vs Q E hr h => ?_)
  · obtain ⟨a, ns, rfl, _⟩ := h
    rfl
  · obtain ⟨a, ns, rfl, hS, hlen, q⟩ := h
    have hu : (A.deeper (envOfC (Str.ofString "law") (defScope s_law) s.heap.objs.size t.law cdv)).units + 20 < cLine := by have := hr.units; omega
    refine ⟨_, (@pss_cons _ _ _ _ _ (@ps_set _ _ (1) _ _ _ _ sc_law.nd rfl (Or.inl rfl) (@pe_call _ _ _ _ _ _ _ _ _ _ _ _ _ _ _ _ G_l_code (hr.mono (by decide)) rfl T.m_l_code F_l_code.kp b_l_code .nil (@pass0 _) (@pa_cons _ _ _ _ _ (@L2.pv _ 0 _ _ (by rfl) (by first | exact Or.inl rfl | exact Or.inr (Or.inl rfl) | exact Or.inr (Or.inr rfl)) (by decide) (by decide)) (by exact (@pa_cons _ _ _ _ _ (@pe_int _ _ _ _) (@pa_cons _ _ _ _ _ (@pe_int _ _ _ _) (@pa_cons _ _ _ _ _ (@pe_int _ _ _ _) (@pa_nil _) (by rfl)) (by rfl)) (by rfl))) (by rfl)) (by decide) (by rfl) (by rfl)) (by rfl) (by first | exact .inl rfl | exact .inr rfl | assumption)) (by exact (@pss_cons _ _ _ _ _ (@ps_set _ _ (2) _ _ _ _ sc_law.nd rfl (Or.inl rfl) (@pe_bm _ _ _ _ _ _ _ _ _ _ _ _ PySem.F.plainAttrs_str PySem.F.slot_str_join PySem.F.type_str_join (@mt_join _) (@pe_str _ _ _ _) (@pa_cons _ _ _ _ _ (@pe_op _ _ _ _ _ _ _ _ (@op_cat _) (@pe_lst _ _ _ _ (@pa_cons _ _ _ _ _ (@pe_callTy _ _ _ _ _ _ _ _ _ (@call_strI _) (by rfl) T.str_ boot_str (@pa_cons _ _ _ _ _ (@pe_ix _ _ _ _ _ _ _ (@ix_tup _) (@L2.pv _ 1 _ _ (by rfl) (by first | exact Or.inl rfl | exact Or.inr (Or.inl rfl) | exact Or.inr (Or.inr rfl)) (by decide) (by decide)) (@pe_int _ _ _ _) (fun _ _ => rfl)) (@pa_nil _) (by rfl)) (by decide) (by decide) (by rfl) (by rfl)) (@pa_cons _ _ _ _ _ (@pe_callTy _ _ _ _ _ _ _ _ _ (@call_strI _) (by rfl) T.str_ boot_str (@pa_cons _ _ _ _ _ (@pe_ix _ _ _ _ _ _ _ (@ix_tup _) (@L2.pv _ 1 _ _ (by rfl) (by first | exact Or.inl rfl | exact Or.inr (Or.inl rfl) | exact Or.inr (Or.inr rfl)) (by decide) (by decide)) (@pe_int _ _ _ _) (fun _ _ => rfl)) (@pa_nil _) (by rfl)) (by decide) (by decide) (by rfl) (by rfl)) (@pa_cons _ _ _ _ _ (@pe_str _ _ _ _) (@pa_nil _) (by rfl)) (by rfl)) (by rfl))) (@pe_comp _ _ _ _ _ _ _ _ _ _ _ _ _ (CompSc.of (N' := ["place"]) (ix := [none]) (defScope s_law) ["script", "code", "text", "some", "draws", "k", "one", "j", "due", "at"] rfl rfl (by decide +kernel)) rfl (@gk_name _ _ rfl) (@pi_tup _ _ _ _ (@pe_ix _ _ _ _ _ _ _ (@ix_tup _) (@L2.pv _ 1 _ _ (by rfl) (by first | exact Or.inl rfl | exact Or.inr (Or.inl rfl) | exact Or.inr (Or.inr rfl)) (by decide) (by decide)) (@pe_int _ _ _ _) (fun _ _ => rfl))) (fun _ _ _ _ => (@pg_name _ _ (0) _ (show (["place"] : List Str).Nodup by decide +kernel) rfl (Or.inl rfl) (by first | exact .inl rfl | exact .inr rfl | assumption))) (fun _ _ _ _ => (@pifs_nil _)) (fun _ _ _ _ => (@pe_callTy _ _ _ _ _ _ _ _ _ (@call_strI _) (by rfl) T.str_ boot_str (@pa_cons _ _ _ _ _ (@L2.pv _ 0 _ _ (by rfl) (by first | exact Or.inl rfl | exact Or.inr (Or.inl rfl) | exact Or.inr (Or.inr rfl)) (by decide) (by decide)) (@pa_nil _) (by rfl)) (by decide) (by decide) (by rfl) (by rfl))) (by intro _; rfl))) (@pa_nil _) (by rfl)) (by rfl) (by rfl) (by rfl) (by rfl) (by rfl)) (by rfl) (by first | exact .inl rfl | exact .inr rfl | assumption)) (by exact (by exact (@pss_strs _ 3 _ _ _ _ _ _ _ ["0", "00", "1", "2", "3", "4", "5", "6", "9", "25", "91", "97", "98", "100", "101", ":", "-1", "", "007"] (by decide +kernel) sc_law.nd rfl (Or.inl rfl) (by first | exact .inl rfl | exact .inr rfl) (by exact (@pss_cons _ _ _ _ _ (@ps_set _ _ (4) _ _ _ _ sc_law.nd rfl (Or.inl rfl) (@pe_call _ _ _ _ _ _ _ _ _ _ _ _ _ _ _ _ G_l_draws (hr.mono (by decide)) rfl T.m_l_draws F_l_draws.kp b_l_draws .nil (@pass0 _) (@pa_cons _ _ _ _ _ (@L2.pv _ 0 _ _ (by rfl) (by first | exact Or.inl rfl | exact Or.inr (Or.inl rfl) | exact Or.inr (Or.inr rfl)) (by decide) (by decide)) (by exact (@pa_cons _ _ _ _ _ (@pe_int _ _ _ _) (@pa_cons _ _ _ _ _ (@pe_int _ _ _ _) (@pa_cons _ _ _ _ _ (@pe_int _ _ _ _) (@pa_nil _) (by rfl)) (by rfl)) (by rfl))) (by rfl)) (by decide) (by rfl) (by rfl)) (by rfl) (by first | exact .inl rfl | exact .inr rfl | assumption)) (by exact (@pss_cons _ _ _ _ _ (@ps_for _ _ _ _ _ _ _ _ PassesOwn.never rfl (@pi_range1 _ _ _ _ _ _ rfl T.range_ (@pa_cons _ _ _ _ _ (@pe_int _ _ _ _) (@pa_nil _) (by rfl)) (by rfl)) (@pg_name _ _ (5) _ sc_law.nd rfl (Or.inl rfl) (by first | exact .inl rfl | exact .inr rfl | assumption)) (@pss_cons _ _ _ _ _ (@ps_set _ _ (6) _ _ _ _ sc_law.nd rfl (Or.inl rfl) (@L2.pv _ 2 _ _ (by rfl) (by first | exact Or.inl rfl | exact Or.inr (Or.inl rfl) | exact Or.inr (Or.inr rfl)) (by decide) (by decide)) (by rfl) (by first | exact .inl rfl | exact .inr rfl | assumption)) (by exact (@pss_one _ _ _ (@ps_for _ _ _ _ _ _ _ _ PassesOwn.never rfl (@pi_range1 _ _ _ _ _ _ rfl T.range_ (@pa_cons _ _ _ _ _ (@pe_int _ _ _ _) (@pa_nil _) (by rfl)) (by rfl)) (@pg_name _ _ (7) _ sc_law.nd rfl (Or.inl rfl) (by first | exact .inl rfl | exact .inr rfl | assumption)) (@pss_cons _ _ _ _ _ (@ps_mid _ _ _ (@ps_set _ _ (8) _ _ _ _ sc_law.nd rfl (Or.inl rfl) (@pe_call _ _ _ _ _ _ _ _ _ _ _ _ _ _ _ _ G_l_read (hr.mono (by decide)) rfl T.m_l_read F_l_read.kp b_l_read .nil (@pass0 _) (@pa_cons _ _ _ _ _ (@L2.pv _ 6 _ _ (by rfl) (by first | exact Or.inl rfl | exact Or.inr (Or.inl rfl) | exact Or.inr (Or.inr rfl)) (by decide) (by decide)) (@pa_nil _) (by rfl)) (by decide) (by rfl) (by rfl)) (by rfl) (by first | exact .inl rfl | exact .inr rfl | assumption))) (by exact (@pss_cons _ _ _ _ _ (@ps_mid _ _ _ (@ps_if _ _ _ _ _ _ _ _ (@pt_cmpR _ _ _ _ _ _ _ _ (@op_neU _ hu) (@pe_call _ _ _ _ _ _ _ _ _ _ _ _ _ _ _ _ G_l_told (hr.mono (by decide)) rfl T.m_l_told F_l_told.kp b_l_told .nil (@pass0 _) (@pa_cons _ _ _ _ _ (@L2.pv _ 6 _ _ (by rfl) (by first | exact Or.inl rfl | exact Or.inr (Or.inl rfl) | exact Or.inr (Or.inr rfl)) (by decide) (by decide)) (@pa_nil _) (by rfl)) (by decide) (by rfl) (by rfl)) (@pe_ifExp _ _ _ _ _ _ _ _ (@pt_cmpR _ _ _ _ _ _ _ _ (@op_notN _) (@L2.pv _ 8 _ _ (by rfl) (by first | exact Or.inl rfl | exact Or.inr (Or.inl rfl) | exact Or.inr (Or.inr rfl)) (by decide) (by decide)) (@pe_non _ _ _) (nomark _)) (@L2.pv _ 8 _ _ (by rfl) (by first | exact Or.inl rfl | exact Or.inr (Or.inl rfl) | exact Or.inr (Or.inr rfl)) (by decide) (by decide)) (@pe_str _ _ _ _)) (nomark _)) (@pss_one _ _ _ (@ps_ret _ _ _ _ (@pe_bl _ _ _ _))) (@pss_nil _))) (by exact (@pss_cons _ _ _ _ _ (@ps_set _ _ (9) _ _ _ _ sc_law.nd rfl (Or.inl rfl) (@pe_op _ _ _ _ _ _ _ _ (@op_add _) (@pe_op _ _ _ _ _ _ _ _ (@op_mul _) (@pe_int _ _ _ _) (@L2.pv _ 5 _ _ (by rfl) (by first | exact Or.inl rfl | exact Or.inr (Or.inl rfl) | exact Or.inr (Or.inr rfl)) (by decide) (by decide))) (@pe_op _ _ _ _ _ _ _ _ (@op_mul _) (@pe_int _ _ _ _) (@pe_callB _ _ _ _ _ _ _ _ _ (@call_min2 _ rfl) (by rfl) T.min_ boot_min (@pa_cons _ _ _ _ _ (@L2.pv _ 7 _ _ (by rfl) (by first | exact Or.inl rfl | exact Or.inr (Or.inl rfl) | exact Or.inr (Or.inr rfl)) (by decide) (by decide)) (@pa_cons _ _ _ _ _ (@pe_int _ _ _ _) (@pa_nil _) (by rfl)) (by rfl)) (by decide) (by decide) (by rfl) (by rfl)))) (by rfl) (by first | exact .inl rfl | exact .inr rfl | assumption)) (by exact (@pss_one _ _ _ (@ps_set _ _ (6) _ _ _ _ sc_law.nd rfl (Or.inl rfl) (@pe_call _ _ _ _ _ _ _ _ _ _ _ _ _ _ _ _ G_l_spoilt (hr.mono (by decide)) rfl T.m_l_spoilt F_l_spoilt.kp b_l_spoilt .nil (@pass0 _) (@pa_cons _ _ _ _ _ (@L2.pv _ 6 _ _ (by rfl) (by first | exact Or.inl rfl | exact Or.inr (Or.inl rfl) | exact Or.inr (Or.inr rfl)) (by decide) (by decide)) (@pa_cons _ _ _ _ _ (@pe_slice _ _ _ _ _ _ _ _ _ _ sl_list (@L2.pv _ 4 _ _ (by rfl) (by first | exact Or.inl rfl | exact Or.inr (Or.inl rfl) | exact Or.inr (Or.inr rfl)) (by decide) (by decide)) (@po_some _ _ _ (@L2.pv _ 9 _ _ (by rfl) (by first | exact Or.inl rfl | exact Or.inr (Or.inl rfl) | exact Or.inr (Or.inr rfl)) (by decide) (by decide))) (@po_some _ _ _ (@pe_op _ _ _ _ _ _ _ _ (@op_add _) (@L2.pv _ 9 _ _ (by rfl) (by first | exact Or.inl rfl | exact Or.inr (Or.inl rfl) | exact Or.inr (Or.inr rfl)) (by decide) (by decide)) (@pe_int _ _ _ _)))) (@pa_cons _ _ _ _ _ (@L2.pv _ 3 _ _ (by rfl) (by first | exact Or.inl rfl | exact Or.inr (Or.inl rfl) | exact Or.inr (Or.inr rfl)) (by decide) (by decide)) (@pa_nil _) (by rfl)) (by rfl)) (by rfl)) (by decide) (by rfl) (by rfl)) (by rfl) (by first | exact .inl rfl | exact .inr rfl | assumption))))))))) (by intro _; rfl))))) (by intro _; rfl)) (by exact (@pss_one _ _ _ (@ps_ret _ _ _ _ (@pe_bl _ _ _ _)))))))))))))), ?_⟩
    have hsl := sizeLine_eq
    refine ⟨_, rfl, a, ns, 0, 5, 16, rfl, hS, hlen, by decide, by decide, by decide, by decide, by decide, by decide, fun c tt p k pl H1 hc s1 ok h1c h1t => ?_⟩
    have rp := prime_rng ok.pr
    have k1 := ok.k1
    have kk := ok.kk
    have kl := ok.kl
    have ln := ok.ln
    refine ⟨rfl, _, rfl, c, _, _, _, rfl, rfl, SqT.of h1c, rfl, p, rfl, by omega, by omega, _, rfl, c, _, _, _, rfl, rfl, SqT.of h1c, rfl, k, rfl, by omega, by omega, by show 3 ≤ sizeLine; omega, fun w1 hw1 => ?_⟩
    have u1 := same_upd (o := .lst [.str (sN p), .str (sN k), .str ":"]) hw1
    have h3w : upd H1 w1 (.lst [.str (sN p), .str (sN k), .str ":"]) w1 = some (.lst [.str (sN p), .str (sN k), .str ":"]) := upd_same
    generalize upd H1 w1 (.lst [.str (sN p), .str (sN k), .str ":"]) = H3 at u1 h3w ⊢
    have h3t := u1 _ _ h1t
    refine ⟨_, rfl, c, _, _, _, rfl, rfl, SqT.of (u1 _ _ h1c), rfl, tt, rfl, ⟨_, SqT.of h3t⟩, comp_mapT (K := K) (xs := pl.map V.int) (fs := (pl.map sN).map V.str) (SqT.of h3t) (by rw [List.length_map, List.length_map, List.length_map]) (by rw [List.length_map]; omega) ?_ ?_⟩
    · intro j x y R B hx hy hR
      obtain ⟨v, rfl, hv⟩ := map_get hx
      rw [List.getElem?_map, List.getElem?_map, hv] at hy
      obtain rfl : V.str (sN v) = y := Option.some.inj hy
      have := ok.rg v (List.mem_of_getElem? hv)
      refine gY ?_
      exact ⟨_, rfl, v, rfl, this.1, by omega, hR⟩
    intro D hD
    have u2 := same_upd (o := .lst ((pl.map sN).map V.str)) hD
    refine ⟨w1, D, _, _, rfl, rfl, u2 _ _ h3w, upd_same, by rw [List.length_map, List.length_map]; show 3 + _ ≤ _; omega, fun w2 hw2 => ?_⟩
    have u3 := same_upd (o := .lst ([.str (sN p), .str (sN k), .str ":"] ++ (pl.map sN).map V.str)) hw2
    have s4 := s1.trans (u1.trans (u2.trans u3))
    have h4w : upd (upd H3 D (.lst ((pl.map sN).map V.str))) w2 (.lst ([.str (sN p), .str (sN k), .str ":"] ++ (pl.map sN).map V.str)) w2 = some (.lst ((wordsC p k pl).map V.str)) := upd_same
    generalize upd (upd H3 D (.lst ((pl.map sN).map V.str))) w2 (.lst ([.str (sN p), .str (sN k), .str ":"] ++ (pl.map sN).map V.str)) = H4 at s4 h4w ⊢
    have hwl : (wordsC p k pl).length = pl.length + 3 := by simp [wordsC]
    have hB : ∀ y ∈ wordsC p k pl, y.length ≤ 2 := by
      intro y hy
      unfold wordsC at hy
      rcases (List.mem_cons.mp hy) with rfl | hy
      · exact (wr_num (by omega) (by omega)).len
      rcases (List.mem_cons.mp hy) with rfl | hy
      · exact (wr_num (by omega) (by omega)).len
      rcases (List.mem_cons.mp hy) with rfl | hy
      · decide +kernel
      · obtain ⟨x, hx, rfl⟩ := List.mem_map.mp hy
        have := ok.rg x hx
        exact (wr_num (by omega) (by omega)).len
    have hz0 : (Str.join " " (wordsC p k pl)).length ≤ 100 := by
      have h1 := PySem.StrLaws.sumLen_le (wordsC p k pl) hB
      rw [join_SL]
      unfold SL
      omega
    refine ⟨" ", w2, wordsC p k pl, rfl, rfl, SqL.of h4w, fun y hy => by have := hB y hy; omega, by rw [sp_len]; decide, by rw [hwl]; omega, ?_⟩
    generalize Str.join " " (wordsC p k pl) = z0 at hz0 ⊢
    refine ⟨by show 19 ≤ sizeLine; omega, fun so hso => ?_⟩
    have u5 := same_upd (o := .lst (wordsSp.map V.str)) hso
    have s5 := s4.trans u5
    have hso5 : upd H4 so (.lst (wordsSp.map V.str)) so = some (.lst (wordsSp.map V.str)) := upd_same
    refine ⟨_, rfl, a, ns, 1, 60, 27720, rfl, s5.seq hS, hlen, by decide, by decide, by decide, by decide, by decide, by decide, fun dl ds H6 hdl s6 hd h6 => ?_⟩
    have hso6 := s6 _ _ hso5
    have hd60 : ds.length = 60 := hd.1
    refine ⟨4, rfl, by decide, by decide, for_range (lo := 0) (n := 4) (fun i σ H' => ∃ (e5 e6 e7 e8 e9 : Option V), σ = [some (.ref a), some (.ref c), some (.str z0), some (.ref so), some (.ref dl), e5, e6, e7, e8, e9] ∧ Same H6 H') ⟨none, none, none, none, none, rfl, fun _ _ e => e⟩ ?_ ?_⟩
    · rintro i σ H7 hi ⟨e5, e6, e7, e8, e9, rfl, s7⟩
      refine ⟨_, rfl, ?_⟩
      refine ⟨4, rfl, by decide, by decide, for_range (lo := 0) (n := 4) (fun j σ H' => ∃ (z : Str) (e7 e8 e9 : Option V), σ = [some (.ref a), some (.ref c), some (.str z0), some (.ref so), some (.ref dl), some (.int (0 + (i : Int))), some (.str z), e7, e8, e9] ∧ z.length ≤ bnd j ∧ Same H6 H') ⟨z0, e7, e8, e9, rfl, hz0, s7⟩ ?_ ?_⟩
      rotate_left
      · rintro σ H8 ⟨z, e7, e8, e9, rfl, _, s8⟩
        exact ⟨_, _, _, _, _, rfl, s8⟩
      rintro j σ H8 hj ⟨z, e7, e8, e9, rfl, hz, s8⟩
      have hz9 : z.length ≤ 900 := by
        have : bnd j ≤ 900 := by
          have : j = 0 ∨ j = 1 ∨ j = 2 ∨ j = 3 := by omega
          rcases this with rfl | rfl | rfl | rfl <;> decide
        omega
      refine ⟨fun σ' H' => ∃ e8 : V, σ' = [some (.ref a), some (.ref c), some (.str z0), some (.ref so), some (.ref dl), some (.int (0 + (i : Int))), some (.str z), some (.int (0 + (j : Int))), some e8, e9] ∧ Same H6 H' ∧ ((readC z = none ∧ e8 = .non) ∨ ∃ (c1 t1 : Addr) (p k : Int) (pl : List Int), readC z = some (p, k, pl) ∧ e8 = .ref c1 ∧ CodeAt H' c1 t1 p k pl), ?_, ?_⟩
      · refine ⟨_, rfl, z, rfl, hz9, fun p k pl e c1 t1 H9 _ s9 hca => ?_, fun e H9 s9 => ?_⟩
        · exact ⟨_, rfl, s8.trans s9, .inr ⟨c1, t1, p, k, pl, e, rfl, hca⟩⟩
        · exact ⟨_, rfl, s8.trans s9, .inl ⟨e, rfl⟩⟩
      rintro σ' H9 ⟨e8, rfl, s9, hdue⟩
      refine ⟨fun σ' H' => σ' = [some (.ref a), some (.ref c), some (.str z0), some (.ref so), some (.ref dl), some (.int (0 + (i : Int))), some (.str z), some (.int (0 + (j : Int))), some e8, e9] ∧ Same H6 H', ?_, ?_⟩
      · rcases hdue with ⟨hR, rfl⟩ | ⟨c1, t1, p, k, pl, hR, rfl, hca⟩
        · refine ⟨_, rfl, z, rfl, hz9, fun p k pl e => (by rw [hR] at e; cases e), fun _ H10 s10 => ?_⟩
          refine ⟨_, rfl, rfl, _, rfl, iteF ?_⟩
          refine .inr ⟨rfl, _, rfl, ?_⟩
          rw [decide_eq_true rfl]
          exact iteF ⟨rfl, s9.trans s10⟩
        · refine ⟨_, rfl, z, rfl, hz9, fun p' k' pl' e c2 t2 H10 _ s10 hcb => ?_, fun e => (by rw [hR] at e; cases e)⟩
          rw [hR] at e
          cases e
          refine ⟨_, rfl, rfl, _, rfl, iteT ?_⟩
          refine ⟨_, rfl, .inl ?_⟩
          refine rEqT_true (SqT.of hcb.1) (SqT.of (s10 _ _ hca.1)) rfl (fun j x y hx hy => ?_) ⟨_, rfl, iteF ⟨rfl, s9.trans s10⟩⟩
          match j, hx, hy with
          | 0, hx, hy => cases hx; cases hy; exact eqD_int _
          | 1, hx, hy => cases hx; cases hy; exact eqD_int _
          | 2, hx, hy => cases hx; cases hy; exact eqD_tup (SqT.of hcb.2) (SqT.of (s10 _ _ hca.2))
          | (j + 3), hx, hy => simp at hx
      rintro σ' H10 ⟨rfl, s10⟩
      refine ⟨_, rfl, _, _, rfl, rfl, .inl ⟨by decide, by decide⟩, _, rfl, _, _, rfl, _, _, rfl, rfl, .inl ⟨by decide, by decide⟩, _, _, rfl, rfl, ?_⟩
      have hso10 := s10 _ _ hso6
      have hdl10 := s10 _ _ h6
      obtain ⟨m, hm, em⟩ : ∃ m : Nat, m ≤ 55 ∧ 15 * (0 + (i : Int)) + 5 * (if 2 < 0 + (j : Int) then 2 else 0 + (j : Int)) = (m : Int) := by
        by_cases hj2 : 2 < 0 + (j : Int)
        · rw [if_pos hj2]
          exact ⟨15 * i + 10, by omega, by omega⟩
        · rw [if_neg hj2]
          exact ⟨15 * i + 5 * j, by omega, by omega⟩
      have ecut : cutV (ds.map V.int) (some (15 * (0 + (i : Int)) + 5 * (if 2 < 0 + (j : Int) then 2 else 0 + (j : Int)))) (some (15 * (0 + (i : Int)) + 5 * (if 2 < 0 + (j : Int) then 2 else 0 + (j : Int)) + 5)) = ((ds.drop m).take 5).map V.int := by
        rw [em, show ((m : Int) + 5) = ((m + 5 : Nat) : Int) by omega]
        unfold cutV
        rw [HT.sIx_nat, HT.sIx_nat, List.length_map, Nat.min_eq_left (by omega), Nat.min_eq_left (by omega), show m + 5 - m = 5 by omega, List.map_take, List.map_drop]
      refine ⟨_, rfl, _, rfl, _, rfl, _, rfl, _, rfl, _, _, rfl, rfl, _, rfl, dl, _, rfl, SqL.of hdl10, fun b1 hb1 => ?_⟩
      rw [ecut]
      have u11 := same_upd (o := .lst (((ds.drop m).take 5).map V.int)) hb1
      refine ⟨_, rfl, z, b1, so, (ds.drop m).take 5, wordsSp, rfl, hz9, SqL.of upd_same, by rw [List.length_take, List.length_drop]; omega, SqL.of (u11 _ _ hso10), by decide, wordsSp_len, fun y H11 s11 hy => ?_⟩
      refine ⟨y, _, _, _, rfl, ?_, s10.trans (u11.trans s11)⟩
      show y.length ≤ 2 * bnd j + 4
      omega
    · rintro σ H7 ⟨e5, e6, e7, e8, e9, rfl, s7⟩
      exact q _
end
end My

end
section
set_option maxHeartbeats 3999000
namespace My
open PySem L2 PyProof.Rows

/-! ### the top of the text, and the law -/
structure Dn (K : PySem.W.Frag) (x : Str) (st : Stmt) (f : Addr) (fd : FuncData) : Prop where
  a : PySem.W.nsIn K mainGlobals x = some (some (.ref f))
  f : Fun K x x st f fd
theorem cn_mk {K : PySem.W.Frag} {x : Str} {i : Int} {u : Value} (y : PySem.W.nsIn K mainGlobals x = some (some u)) (r : RelV (.int i) u) : ∃ u, PySem.W.nsIn K mainGlobals x = some (some u) ∧ RelV (.int i) u := ⟨u, y, r⟩
theorem dn_mk {K : PySem.W.Frag} {x : Str} {st : Stmt} {f : Addr} {od an : Option Addr} {sl : Array (Option Value)} {oc kV dc pm cd ct : Value} (a : PySem.W.nsIn K mainGlobals x = some (some (.ref f))) (l : K.lookup f = some ⟨oc, od, .func (PySem.W.fnOf x x (defArgs st) (defBody st) (defScope st) .none kV dc pm an cd ct), sl⟩) (c : PySem.W.codeIn K cd x = true) (k : PySem.W.keepIn K (.ref f) = true) : Dn K x st f (PySem.W.fnOf x x (defArgs st) (defBody st) (defScope st) .none kV dc pm an cd ct) := ⟨a, fun_mk l c k⟩
/-- a method -/
structure Dm (K : PySem.W.Frag) (C : Addr) (x q : Str) (st : Stmt) (f : Addr) (fd : FuncData) : Prop where
  a : PySem.W.findIn K (.ref C) x = some (some (.ref f))
  i : PySem.W.isFn K (.ref f) = true
  f : Fun K x q st f fd
theorem all_mk {l : PySem.W.OpenLaw} {w : World} {K : PySem.W.Frag} {h : Heap} {mg : Str → Option Value} {fa fl A_SlipError A_TooFew A_NoCurve A_NoPaper A_NoPlace A_NoNumber A_Heard A_NotHeard A_NothingLeft A_NoText A_NoRow : Addr} (X : K.In h) (G : h.Ns mainGlobals mg) (hfa : mg "law" = some (.ref fa))
    {od an : Option Addr} {sl : Array (Option Value)} {oc kV dc pm cd ct : Value} (a_SlipError : PySem.W.nsIn K mainGlobals "SlipError" = some (some (.ref A_SlipError))) (a_TooFew : PySem.W.nsIn K mainGlobals "TooFew" = some (some (.ref A_TooFew))) (a_NoCurve : PySem.W.nsIn K mainGlobals "NoCurve" = some (some (.ref A_NoCurve))) (a_NoPaper : PySem.W.nsIn K mainGlobals "NoPaper" = some (some (.ref A_NoPaper))) (a_NoPlace : PySem.W.nsIn K mainGlobals "NoPlace" = some (some (.ref A_NoPlace))) (a_NoNumber : PySem.W.nsIn K mainGlobals "NoNumber" = some (some (.ref A_NoNumber))) (a_Heard : PySem.W.nsIn K mainGlobals "Heard" = some (some (.ref A_Heard))) (a_NotHeard : PySem.W.nsIn K mainGlobals "NotHeard" = some (some (.ref A_NotHeard))) (a_NothingLeft : PySem.W.nsIn K mainGlobals "NothingLeft" = some (some (.ref A_NothingLeft))) (a_NoText : PySem.W.nsIn K mainGlobals "NoText" = some (some (.ref A_NoText))) (a_NoRow : PySem.W.nsIn K mainGlobals "NoRow" = some (some (.ref A_NoRow))) (d_is_whole : ∃ f fd, Dn K "is_whole" s_is_whole f fd) (d_is_number : ∃ f fd, Dn K "is_number" s_is_number f fd) (d_is_code_prime : ∃ f fd, Dn K "is_code_prime" s_is_code_prime f fd) (d_are_places : ∃ f fd, Dn K "are_places" s_are_places f fd) (d_is_code : ∃ f fd, Dn K "is_code" s_is_code f fd) (d_is_written : ∃ f fd, Dn K "is_written" s_is_written f fd) (d_read_code : ∃ f fd, Dn K "read_code" s_read_code f fd) (d_l_cell : ∃ f fd, Dn K "_law_cell" s_l_cell f fd) (d_l_draws : ∃ f fd, Dn K "_law_draws" s_l_draws f fd) (d_l_number : ∃ f fd, Dn K "_law_number" s_l_number f fd) (d_l_code : ∃ f fd, Dn K "_law_code" s_l_code f fd) (d_l_spoilt : ∃ f fd, Dn K "_law_spoilt" s_l_spoilt f fd) (d_l_read : ∃ f fd, Dn K "_law_read" s_l_read f fd) (d_l_word : ∃ f fd, Dn K "_law_word" s_l_word f fd) (d_l_told : ∃ f fd, Dn K "_law_told" s_l_told f fd)  (xi_NoText : PySem.W.excIn K A_NoText vErr "ValueError.__new__" = true) (k_NoText_TooFew : PySem.W.kitOne K (.ref A_NoText) (.ref A_TooFew) = some false) (k_NoText_NoCurve : PySem.W.kitOne K (.ref A_NoText) (.ref A_NoCurve) = some false) (k_NoText_NoPaper : PySem.W.kitOne K (.ref A_NoText) (.ref A_NoPaper) = some false) (k_NoText_NoPlace : PySem.W.kitOne K (.ref A_NoText) (.ref A_NoPlace) = some false) (k_NoText_NoNumber : PySem.W.kitOne K (.ref A_NoText) (.ref A_NoNumber) = some false) (k_NoText_Heard : PySem.W.kitOne K (.ref A_NoText) (.ref A_Heard) = some false) (k_NoText_NotHeard : PySem.W.kitOne K (.ref A_NoText) (.ref A_NotHeard) = some false) (k_NoText_NothingLeft : PySem.W.kitOne K (.ref A_NoText) (.ref A_NothingLeft) = some false) (k_NoText_NoText : PySem.W.kitOne K (.ref A_NoText) (.ref A_NoText) = some true) (k_NoText_NoRow : PySem.W.kitOne K (.ref A_NoText) (.ref A_NoRow) = some false) (v_NoText : PySem.W.kitOne K (.ref A_NoText) (.type "ValueError") = some true) (s_NoText : PySem.W.kitCls K (.ref A_NoText) (.ref A_SlipError) = some true) (e1_NoText : PySem.W.findIn K (.ref A_NoText) "__getattribute__" = some (some (.builtin "BaseException.__getattribute__"))) (e2_NoText : PySem.W.findIn K (.ref A_NoText) "__getattr__" = some none) (e3_NoText : PySem.W.findIn K (.ref A_NoText) "__class__" = some (some (.builtin "object.__class__"))) (e4_NoText : PySem.W.mroIn K A_NoText (.type "object") = some true) (e5_NoText : PySem.W.mroIn K A_NoText (.type "BaseException") = some true) (e6_NoText : PySem.W.kitCls K (.ref A_NoText) (.ref A_NoText) = some true) (sb : PySem.W.mroIn K A_SlipError (.type "BaseException") = some true) 
    (al : PySem.W.nsIn K mainGlobals "law" = some (some (.ref fl))) (ll : K.lookup fl = some ⟨oc, od, .func (PySem.W.fnOf "law" "law" (defArgs s_law) (defBody s_law) (defScope s_law) .none kV dc pm an cd ct), sl⟩) (cl : PySem.W.codeIn K cd "law" = true) (kl : PySem.W.keepIn K (.ref fl) = true) (z_len : PySem.W.nsIn K mainGlobals "len" = some none) (z_range : PySem.W.nsIn K mainGlobals "range" = some none) (z_list : PySem.W.nsIn K mainGlobals "list" = some none) (z_tuple : PySem.W.nsIn K mainGlobals "tuple" = some none) (z_min : PySem.W.nsIn K mainGlobals "min" = some none) (z_max : PySem.W.nsIn K mainGlobals "max" = some none) (z_isinstance : PySem.W.nsIn K mainGlobals "isinstance" = some none) (z_int : PySem.W.nsIn K mainGlobals "int" = some none) (z_bool : PySem.W.nsIn K mainGlobals "bool" = some none) (z_str : PySem.W.nsIn K mainGlobals "str" = some none) (z_set : PySem.W.nsIn K mainGlobals "set" = some none) (z_all : PySem.W.nsIn K mainGlobals "all" = some none) (z_ValueError : PySem.W.nsIn K mainGlobals "ValueError" = some none) (y_LEAST_P : ∃ u, PySem.W.nsIn K mainGlobals "LEAST_P" = some (some u) ∧ RelV (.int 5) u) (y_GREATEST_P : ∃ u, PySem.W.nsIn K mainGlobals "GREATEST_P" = some (some u) ∧ RelV (.int 97) u) (y_MOST_NUMBERS : ∃ u, PySem.W.nsIn K mainGlobals "MOST_NUMBERS" = some (some u) ∧ RelV (.int 5) u) (y_MOST_PLACES : ∃ u, PySem.W.nsIn K mainGlobals "MOST_PLACES" = some (some u) ∧ RelV (.int 16) u) (y_MOST_FIGURES : ∃ u, PySem.W.nsIn K mainGlobals "MOST_FIGURES" = some (some u) ∧ RelV (.int 4) u) :
    ∃ fd : FuncData, (∀ (s : Shared) (v : Value), BindsTo s fd ⟨[v], []⟩ [("script", v)]) ∧ ∀ base : Heap, K.In base → base.Ns mainGlobals mg → FnOk l.prog w K mg base CX0 7 fa fd ["script"] (sp_law K) := by
  cases hfa.symm.trans (PySem.W.mg_of X G al)
  obtain ⟨f_is_whole, fd_is_whole, D_is_whole⟩ := d_is_whole
  have b_is_whole := D_is_whole.f.binds (ps := ["thing"]) fun _ _ _ _ _ _ us hl => match us, hl with | [_], _ => rfl
  obtain ⟨f_is_number, fd_is_number, D_is_number⟩ := d_is_number
  have b_is_number := D_is_number.f.binds (ps := ["p", "thing"]) fun _ _ _ _ _ _ us hl => match us, hl with | [_, _], _ => rfl
  obtain ⟨f_is_code_prime, fd_is_code_prime, D_is_code_prime⟩ := d_is_code_prime
  have b_is_code_prime := D_is_code_prime.f.binds (ps := ["thing"]) fun _ _ _ _ _ _ us hl => match us, hl with | [_], _ => rfl
  obtain ⟨f_are_places, fd_are_places, D_are_places⟩ := d_are_places
  have b_are_places := D_are_places.f.binds (ps := ["p", "k", "thing"]) fun _ _ _ _ _ _ us hl => match us, hl with | [_, _, _], _ => rfl
  obtain ⟨f_is_code, fd_is_code, D_is_code⟩ := d_is_code
  have b_is_code := D_is_code.f.binds (ps := ["thing"]) fun _ _ _ _ _ _ us hl => match us, hl with | [_], _ => rfl
  obtain ⟨f_is_written, fd_is_written, D_is_written⟩ := d_is_written
  have b_is_written := D_is_written.f.binds (ps := ["word"]) fun _ _ _ _ _ _ us hl => match us, hl with | [_], _ => rfl
  obtain ⟨f_read_code, fd_read_code, D_read_code⟩ := d_read_code
  have b_read_code := D_read_code.f.binds (ps := ["text"]) fun _ _ _ _ _ _ us hl => match us, hl with | [_], _ => rfl
  obtain ⟨f_l_cell, fd_l_cell, D_l_cell⟩ := d_l_cell
  have b_l_cell := D_l_cell.f.binds (ps := ["script", "k"]) fun _ _ _ _ _ _ us hl => match us, hl with | [_, _], _ => rfl
  obtain ⟨f_l_draws, fd_l_draws, D_l_draws⟩ := d_l_draws
  have b_l_draws := D_l_draws.f.binds (ps := ["script", "k", "many", "base"]) fun _ _ _ _ _ _ us hl => match us, hl with | [_, _, _, _], _ => rfl
  obtain ⟨f_l_number, fd_l_number, D_l_number⟩ := d_l_number
  have b_l_number := D_l_number.f.binds (ps := ["word", "most"]) fun _ _ _ _ _ _ us hl => match us, hl with | [_, _], _ => rfl
  obtain ⟨f_l_code, fd_l_code, D_l_code⟩ := d_l_code
  have b_l_code := D_l_code.f.binds (ps := ["script", "at", "most_k", "most_n"]) fun _ _ _ _ _ _ us hl => match us, hl with | [_, _, _, _], _ => rfl
  obtain ⟨f_l_spoilt, fd_l_spoilt, D_l_spoilt⟩ := d_l_spoilt
  have b_l_spoilt := D_l_spoilt.f.binds (ps := ["text", "row", "some"]) fun _ _ _ _ _ _ us hl => match us, hl with | [_, _, _], _ => rfl
  obtain ⟨f_l_read, fd_l_read, D_l_read⟩ := d_l_read
  have b_l_read := D_l_read.f.binds (ps := ["text"]) fun _ _ _ _ _ _ us hl => match us, hl with | [_], _ => rfl
  obtain ⟨f_l_word, fd_l_word, D_l_word⟩ := d_l_word
  have b_l_word := D_l_word.f.binds (ps := ["e"]) fun _ _ _ _ _ _ us hl => match us, hl with | [_], _ => rfl
  obtain ⟨f_l_told, fd_l_told, D_l_told⟩ := d_l_told
  have b_l_told := D_l_told.f.binds (ps := ["text"]) fun _ _ _ _ _ _ us hl => match us, hl with | [_], _ => rfl
  let t : Adr := ⟨A_SlipError, A_TooFew, A_NoCurve, A_NoPaper, A_NoPlace, A_NoNumber, A_Heard, A_NotHeard, A_NothingLeft, A_NoText, A_NoRow, f_is_whole, f_is_number, f_is_code_prime, f_are_places, f_is_code, f_is_written, f_read_code, f_l_cell, f_l_draws, f_l_number, f_l_code, f_l_spoilt, f_l_read, f_l_word, f_l_told, fa⟩
  have T : Txt K mg t := ⟨PySem.W.mg_none_of X G z_len, PySem.W.mg_none_of X G z_range, PySem.W.mg_none_of X G z_list, PySem.W.mg_none_of X G z_tuple, PySem.W.mg_none_of X G z_min, PySem.W.mg_none_of X G z_max, PySem.W.mg_none_of X G z_isinstance, PySem.W.mg_none_of X G z_int, PySem.W.mg_none_of X G z_bool, PySem.W.mg_none_of X G z_str, PySem.W.mg_none_of X G z_set, PySem.W.mg_none_of X G z_all, PySem.W.mg_none_of X G z_ValueError, (by obtain ⟨u, e, q, r⟩ := y_LEAST_P; subst r; exact ⟨q, PySem.W.mg_of X G e⟩), (by obtain ⟨u, e, q, r⟩ := y_GREATEST_P; subst r; exact ⟨q, PySem.W.mg_of X G e⟩), (by obtain ⟨u, e, q, r⟩ := y_MOST_NUMBERS; subst r; exact ⟨q, PySem.W.mg_of X G e⟩), (by obtain ⟨u, e, q, r⟩ := y_MOST_PLACES; subst r; exact ⟨q, PySem.W.mg_of X G e⟩), (by obtain ⟨u, e, q, r⟩ := y_MOST_FIGURES; subst r; exact ⟨q, PySem.W.mg_of X G e⟩), PySem.W.mg_of X G a_SlipError, PySem.W.mg_of X G a_TooFew, PySem.W.mg_of X G a_NoCurve, PySem.W.mg_of X G a_NoPaper, PySem.W.mg_of X G a_NoPlace, PySem.W.mg_of X G a_NoNumber, PySem.W.mg_of X G a_Heard, PySem.W.mg_of X G a_NotHeard, PySem.W.mg_of X G a_NothingLeft, PySem.W.mg_of X G a_NoText, PySem.W.mg_of X G a_NoRow, xi_NoText, ⟨k_NoText_TooFew, k_NoText_NoCurve, k_NoText_NoPaper, k_NoText_NoPlace, k_NoText_NoNumber, k_NoText_Heard, k_NoText_NotHeard, k_NoText_NothingLeft, k_NoText_NoText, k_NoText_NoRow, v_NoText, ⟨e1_NoText, e2_NoText, e3_NoText, e4_NoText, e5_NoText, e6_NoText⟩, s_NoText⟩, sb, PySem.W.mg_of X G D_is_whole.a, PySem.W.mg_of X G D_is_number.a, PySem.W.mg_of X G D_is_code_prime.a, PySem.W.mg_of X G D_are_places.a, PySem.W.mg_of X G D_is_code.a, PySem.W.mg_of X G D_is_written.a, PySem.W.mg_of X G D_read_code.a, PySem.W.mg_of X G D_l_cell.a, PySem.W.mg_of X G D_l_draws.a, PySem.W.mg_of X G D_l_number.a, PySem.W.mg_of X G D_l_code.a, PySem.W.mg_of X G D_l_spoilt.a, PySem.W.mg_of X G D_l_read.a, PySem.W.mg_of X G D_l_word.a, PySem.W.mg_of X G D_l_told.a, ⟨_, D_is_whole.f, b_is_whole⟩, ⟨_, D_is_number.f, b_is_number⟩, ⟨_, D_is_code_prime.f, b_is_code_prime⟩, ⟨_, D_are_places.f, b_are_places⟩, ⟨_, D_is_code.f, b_is_code⟩, ⟨_, D_is_written.f, b_is_written⟩, ⟨_, D_read_code.f, b_read_code⟩, ⟨_, D_l_cell.f, b_l_cell⟩, ⟨_, D_l_draws.f, b_l_draws⟩, ⟨_, D_l_number.f, b_l_number⟩, ⟨_, D_l_code.f, b_l_code⟩, ⟨_, D_l_spoilt.f, b_l_spoilt⟩, ⟨_, D_l_read.f, b_l_read⟩, ⟨_, D_l_word.f, b_l_word⟩, ⟨_, D_l_told.f, b_l_told⟩⟩
  have FL := fun_mk (st := s_law) ll cl kl
  exact ⟨PySem.W.fnOf "law" "law" (defArgs s_law) (defBody s_law) (defScope s_law) .none kV dc pm an cd ct, fun s v => .of_eq rfl, fun base _ _ => ok_law (t := t) T FL⟩
theorem walk {l : PySem.W.OpenLaw} {q : Program} {loose : List Str} {XP : (Str → Option Value) → Heap → Prop} {YP : World → Heap → Prop} {d : DefRec} {K : Params → PySem.W.Frag} (hn : l.most = some 63) (hdf : d.params.defaults = []) (hY : ∀ (w : World) (h : Heap), YP w h → (K w.params).In h)
    (F : ∀ (w : World) (mg : Str → Option Value) (fa : Addr) (h : Heap), (K w.params).In h → h.Ns mainGlobals mg → mg d.name = some (.ref fa) → ∃ fd : FuncData, (∀ (s : Shared) (u : Value), BindsTo s fd ⟨[u], []⟩ [("script", u)]) ∧ ∀ base : Heap, (K w.params).In base → base.Ns mainGlobals mg → FnOk l.prog w (K w.params) mg base CX0 7 fa fd ["script"] (sp_law (K w.params))) : PySem.W.WalkO q loose XP YP l.row.toRowW d [] (fun f vs => PySem.call f vs) :=
  L2.walk_of (n := 63) (k := 7) (x := "script") (CX := fun _ => CX0) (sp := fun w => sp_law (K w.params)) hn (by decide) hdf ⟨rfl, by decide, by decide⟩ hY F (fun _ _ a ns hl _ hS => ⟨a, ns, rfl, hS, hl, fun _ => rfl⟩) fun _ _ _ _ _ z => z
end My
open PySem PySem.W
open PyProof.Rows
set_option maxHeartbeats 0 in
theorem PySem.Challenge.cw_slipcurve_k31_code_texts_spoilt_holds : PySem.Challenge.rw_slipcurve_k31_code_texts_spoilt.Holds := by
  w_on; o_law; k_head; (case hw => w_witness2)
  k_fill
  refine My.walk (l := PySem.Challenge.rw_slipcurve_k31_code_texts_spoilt) rfl rfl (fun w h Y => PySem.W.kIn_of Y) ?F
  case F =>
    intro w mg fa h KX G hmg
    refine' My.all_mk KX G hmg ?a_SlipError ?a_TooFew ?a_NoCurve ?a_NoPaper ?a_NoPlace ?a_NoNumber ?a_Heard ?a_NotHeard ?a_NothingLeft ?a_NoText ?a_NoRow ⟨_, _, My.dn_mk ?da_is_whole ?dl_is_whole ?dc_is_whole ?dk_is_whole⟩ ⟨_, _, My.dn_mk ?da_is_number ?dl_is_number ?dc_is_number ?dk_is_number⟩ ⟨_, _, My.dn_mk ?da_is_code_prime ?dl_is_code_prime ?dc_is_code_prime ?dk_is_code_prime⟩ ⟨_, _, My.dn_mk ?da_are_places ?dl_are_places ?dc_are_places ?dk_are_places⟩ ⟨_, _, My.dn_mk ?da_is_code ?dl_is_code ?dc_is_code ?dk_is_code⟩ ⟨_, _, My.dn_mk ?da_is_written ?dl_is_written ?dc_is_written ?dk_is_written⟩ ⟨_, _, My.dn_mk ?da_read_code ?dl_read_code ?dc_read_code ?dk_read_code⟩ ⟨_, _, My.dn_mk ?da_l_cell ?dl_l_cell ?dc_l_cell ?dk_l_cell⟩ ⟨_, _, My.dn_mk ?da_l_draws ?dl_l_draws ?dc_l_draws ?dk_l_draws⟩ ⟨_, _, My.dn_mk ?da_l_number ?dl_l_number ?dc_l_number ?dk_l_number⟩ ⟨_, _, My.dn_mk ?da_l_code ?dl_l_code ?dc_l_code ?dk_l_code⟩ ⟨_, _, My.dn_mk ?da_l_spoilt ?dl_l_spoilt ?dc_l_spoilt ?dk_l_spoilt⟩ ⟨_, _, My.dn_mk ?da_l_read ?dl_l_read ?dc_l_read ?dk_l_read⟩ ⟨_, _, My.dn_mk ?da_l_word ?dl_l_word ?dc_l_word ?dk_l_word⟩ ⟨_, _, My.dn_mk ?da_l_told ?dl_l_told ?dc_l_told ?dk_l_told⟩ ?xi_NoText ?k_NoText_TooFew ?k_NoText_NoCurve ?k_NoText_NoPaper ?k_NoText_NoPlace ?k_NoText_NoNumber ?k_NoText_Heard ?k_NoText_NotHeard ?k_NoText_NothingLeft ?k_NoText_NoText ?k_NoText_NoRow ?v_NoText ?s_NoText ?e1_NoText ?e2_NoText ?e3_NoText ?e4_NoText ?e5_NoText ?e6_NoText ?sb ?al ?ll ?cl ?kl ?z_len ?z_range ?z_list ?z_tuple ?z_min ?z_max ?z_isinstance ?z_int ?z_bool ?z_str ?z_set ?z_all ?z_ValueError (My.cn_mk ?y_LEAST_P ?x_LEAST_P) (My.cn_mk ?y_GREATEST_P ?x_GREATEST_P) (My.cn_mk ?y_MOST_NUMBERS ?x_MOST_NUMBERS) (My.cn_mk ?y_MOST_PLACES ?x_MOST_PLACES) (My.cn_mk ?y_MOST_FIGURES ?x_MOST_FIGURES)
    (case a_SlipError => k_is)
    (case a_TooFew => k_is)
    (case a_NoCurve => k_is)
    (case a_NoPaper => k_is)
    (case a_NoPlace => k_is)
    (case a_NoNumber => k_is)
    (case a_Heard => k_is)
    (case a_NotHeard => k_is)
    (case a_NothingLeft => k_is)
    (case a_NoText => k_is)
    (case a_NoRow => k_is)
    (case da_is_whole => k_is)
    (case dl_is_whole => k_is)
    (case dc_is_whole => k_is)
    (case dk_is_whole => k_is)
    (case da_is_number => k_is)
    (case dl_is_number => k_is)
    (case dc_is_number => k_is)
    (case dk_is_number => k_is)
    (case da_is_code_prime => k_is)
    (case dl_is_code_prime => k_is)
    (case dc_is_code_prime => k_is)
    (case dk_is_code_prime => k_is)
    (case da_are_places => k_is)
    (case dl_are_places => k_is)
    (case dc_are_places => k_is)
    (case dk_are_places => k_is)
    (case da_is_code => k_is)
    (case dl_is_code => k_is)
    (case dc_is_code => k_is)
    (case dk_is_code => k_is)
    (case da_is_written => k_is)
    (case dl_is_written => k_is)
    (case dc_is_written => k_is)
    (case dk_is_written => k_is)
    (case da_read_code => k_is)
    (case dl_read_code => k_is)
    (case dc_read_code => k_is)
    (case dk_read_code => k_is)
    (case da_l_cell => k_is)
    (case dl_l_cell => k_is)
    (case dc_l_cell => k_is)
    (case dk_l_cell => k_is)
    (case da_l_draws => k_is)
    (case dl_l_draws => k_is)
    (case dc_l_draws => k_is)
    (case dk_l_draws => k_is)
    (case da_l_number => k_is)
    (case dl_l_number => k_is)
    (case dc_l_number => k_is)
    (case dk_l_number => k_is)
    (case da_l_code => k_is)
    (case dl_l_code => k_is)
    (case dc_l_code => k_is)
    (case dk_l_code => k_is)
    (case da_l_spoilt => k_is)
    (case dl_l_spoilt => k_is)
    (case dc_l_spoilt => k_is)
    (case dk_l_spoilt => k_is)
    (case da_l_read => k_is)
    (case dl_l_read => k_is)
    (case dc_l_read => k_is)
    (case dk_l_read => k_is)
    (case da_l_word => k_is)
    (case dl_l_word => k_is)
    (case dc_l_word => k_is)
    (case dk_l_word => k_is)
    (case da_l_told => k_is)
    (case dl_l_told => k_is)
    (case dc_l_told => k_is)
    (case dk_l_told => k_is)
    (case xi_NoText => with_unfolding_all rfl)
    (case k_NoText_TooFew => rfl)
    (case k_NoText_NoCurve => rfl)
    (case k_NoText_NoPaper => rfl)
    (case k_NoText_NoPlace => rfl)
    (case k_NoText_NoNumber => rfl)
    (case k_NoText_Heard => rfl)
    (case k_NoText_NotHeard => rfl)
    (case k_NoText_NothingLeft => rfl)
    (case k_NoText_NoText => rfl)
    (case k_NoText_NoRow => rfl)
    (case v_NoText => rfl)
    (case s_NoText => rfl)
    (case e1_NoText => k_is)
    (case e2_NoText => k_is)
    (case e3_NoText => k_is)
    (case e4_NoText => k_is)
    (case e5_NoText => k_is)
    (case e6_NoText => rfl)
    (case sb => k_is)
    (case al => k_is)
    (case ll => k_is)
    (case cl => k_is)
    (case kl => k_is)
    (case z_len => k_is)
    (case z_range => k_is)
    (case z_list => k_is)
    (case z_tuple => k_is)
    (case z_min => k_is)
    (case z_max => k_is)
    (case z_isinstance => k_is)
    (case z_int => k_is)
    (case z_bool => k_is)
    (case z_str => k_is)
    (case z_set => k_is)
    (case z_all => k_is)
    (case z_ValueError => k_is)
    (case y_LEAST_P => k_is)
    (case x_LEAST_P => exact ⟨_, rfl⟩)
    (case y_GREATEST_P => k_is)
    (case x_GREATEST_P => exact ⟨_, rfl⟩)
    (case y_MOST_NUMBERS => k_is)
    (case x_MOST_NUMBERS => exact ⟨_, rfl⟩)
    (case y_MOST_PLACES => k_is)
    (case x_MOST_PLACES => exact ⟨_, rfl⟩)
    (case y_MOST_FIGURES => k_is)
    (case x_MOST_FIGURES => exact ⟨_, rfl⟩)
#print axioms PySem.Challenge.cw_slipcurve_k31_code_texts_spoilt_holds

end