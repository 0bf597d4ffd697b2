import PyProof.Rows.All
import Wide.All
import OpenK.AllK
import Wide.FinOn
import Lean
import PyProof.EqAt
import PyProof.EqKinds
import PyProof.Rows.MinMaxN
import PyProof.ListMulRoad
import KE.KUnpackStar
import KE.KIntText
import PyProof.CallStr
import KE.KDictSum
import KE.KSortTup
import PyProof.Walk
import PyProof.Rows.SortRuns
import PyProof.Rows.ChunkEnd
import PyProof.Rows.Range3
import PyProof.Rows.SeqGen
import PyProof.ConsumeWalk
import PyProof.ListRange
import PyProof.NeKinds
import PyProof.TupleCall
import PySem.Challenge.RW_slipcurve_k08_whole_halves
local macro_rules | `(tactic| trivial) => `(tactic| first | exact .inl rfl | exact .inr rfl | assumption)
set_option Elab.async false
set_option linter.all false
set_option maxRecDepth 100000
namespace L2
open PySem PySem.Spec PyProof.Rows
abbrev Key:=Sum Int Str
def zes : Key → Value → Bool
 | .inl k,v => Value.isInt k v
 | .inr x,v => Value.isStrOf x v
def zm0 (w : World) : Key → Int
 | .inl k => hashInt k
 | .inr x => hashStr w x
theorem zag : ∀ {k : Key} {v : Value},zes k v = true → (∃ i t,k = Sum.inl i ∧ v = Value.int i t) ∨ (∃ x t,k = Sum.inr x ∧ v = Value.str x t)
 | .inl i,v,h => by
  obtain ⟨t,e⟩:=Value.isInt_shape (k:=i) (v:=v) h
  exact .inl ⟨i,t,rfl,e⟩
 | .inr x,v,h => by
  obtain ⟨t,e⟩:=Value.isStrOf_shape (x:=x) (v:=v) h
  exact .inr ⟨x,t,rfl,e⟩
theorem zhV (i : Int) (t : Tok) : zes (.inl i) (.int i t) = true:=by simp [zes,Value.isInt]
theorem zhW (x : Str) (t : Tok) : zes (.inr x) (.str x t) = true:=by simp [zes,Value.isStrOf]
theorem zls (a b : Int) : decide ((Sum.inl a : Key) = Sum.inl b) = (a == b):=by
 by_cases e : a = b
 ·subst e; simp
 ·have h : ¬ (Sum.inl a : Key) = Sum.inl b:=fun q => e (Sum.inl.inj q)
  rw [decide_eq_false h]
  exact (beq_eq_false_iff_ne.mpr e).symm
theorem zlu (a b : Str) : decide ((Sum.inr a : Key) = Sum.inr b) = decide (a = b):=by
 by_cases e : a = b
 ·subst e; simp
 ·have h : ¬ (Sum.inr a : Key) = Sum.inr b:=fun q => e (Sum.inr.inj q)
  rw [decide_eq_false h,decide_eq_false e]
theorem zlv (a : Int) (b : Str) : decide ((Sum.inl a : Key) = Sum.inr b) = false:=decide_eq_false (fun q => nomatch q)
theorem zlw (a : Str) (b : Int) : decide ((Sum.inr a : Key) = Sum.inl b) = false:=decide_eq_false (fun q => nomatch q)
def zau (prog : Program) (w : World) : PySem.KeyKind prog w Key where
 is:=zes
 hash:=zm0 w
 inj:=fun v a b ha hb => by
  rcases zag ha with ⟨i,t,rfl,rfl⟩ | ⟨x,t,rfl,rfl⟩
  ·rcases zag hb with ⟨j,u,rfl,e⟩ | ⟨y,u,rfl,e⟩
   ·injection e with e1 _; rw [e1]
   ·exact nomatch e
  ·rcases zag hb with ⟨j,u,rfl,e⟩ | ⟨y,u,rfl,e⟩
   ·exact nomatch e
   ·injection e with e1 _; rw [e1]
 byValue:=fun k v h => by
  rcases zag h with ⟨i,t,rfl,rfl⟩ | ⟨x,t,rfl,rfl⟩ <;> rfl
 pyHash:=fun hv h => by
  rcases zag hv with ⟨i,t,rfl,rfl⟩ | ⟨x,t,rfl,rfl⟩
  ·exact wpAny_pyHash_int h
  ·exact wpAny_pyHash_str h
 eqBool:=fun hu hv h => by
  rcases zag hu with ⟨i,t,rfl,rfl⟩ | ⟨x,t,rfl,rfl⟩
  ·rcases zag hv with ⟨j,u,rfl,rfl⟩ | ⟨y,u,rfl,rfl⟩
   ·rw [zls] at h; exact wpAny_eqBool_int h
   ·rw [zlv] at h; exact SeqAt.EqAt.int_str i t y u _ _ _ _ h
  ·rcases zag hv with ⟨j,u,rfl,rfl⟩ | ⟨y,u,rfl,rfl⟩
   ·rw [zlw] at h; exact SeqAt.EqAt.str_int x t j u _ _ _ _ h
   ·rw [zlu] at h; exact wpAny_eqBool_str h
 «strs»:=fun k x t v h => by
  rcases zag h with ⟨i,u,rfl,e⟩ | ⟨y,u,rfl,e⟩
  ·exact nomatch e
  ·injection e with e1 _
   subst e1
   cases v <;> rfl
theorem zfD (prog : Program) (w : World) (i : Int) (t : Tok) : (zau prog w).is (.inl i) (.int i t) = true:=zhV i t
theorem zfE (prog : Program) (w : World) (x : Str) (t : Tok) : (zau prog w).is (.inr x) (.str x t) = true:=zhW x t
end L2
namespace L2
open PySem PySem.Spec PyProof.Rows
inductive V where
 | non | bl (b : Bool) | int (i : Int) | str (x : Str) | byt (b : Array UInt8) | flt (b : UInt64) | ref (a : Addr) | ty (n : String)
 deriving DecidableEq
def RelV : V → Value → Prop
 | .non,u => u = Value.none
 | .bl b,u => u = Value.bool b
 | .int i,u => ∃ t,u = Value.int i t
 | .str x,u => ∃ t,u = Value.str x t
 | .byt b,u => ∃ t,u = Value.bytes b t
 | .flt b,u => ∃ t,u = Value.float b t
 | .ref a,u => u = Value.ref a
 | .ty n,u => u = Value.type n
abbrev zJ : List V → List Value → Prop:=Paired RelV
theorem zJ.length {xs : List V} {us : List Value} (r : zJ xs us) : xs.length = us.length:=Paired.length r
theorem zJ.get : ∀ {xs : List V} {us : List Value} {i : Nat} {x : V},zJ xs us → xs[i]? = some x → ∃ u,us[i]? = some u ∧ RelV x u
 | _,_,_,_,.nil,e => by simp at e
 | _,_,0,_,.cons r _,e => by simp at e; subst e; exact ⟨_,rfl,r⟩
 | _,_,i + 1,x,.cons _ t,e => by
  obtain ⟨u,h1,h2⟩:=zJ.get (i:=i) (x:=x) t (by simpa using e)
  exact ⟨u,by simpa using h1,h2⟩
theorem zJ.set {x : V} {u : Value} (r : RelV x u) : ∀ {xs : List V} {us : List Value} (i : Nat),zJ xs us → zJ (xs.set i x) (us.set i u)
 | _,_,_,.nil => .nil
 | _,_,0,.cons _ t => .cons r t
 | _,_,i + 1,.cons q t => .cons q (zJ.set r i t)
theorem zJ.append : ∀ {xs ys : List V} {us ws : List Value},zJ xs us → zJ ys ws → zJ (xs ++ ys) (us ++ ws)
 | _,_,_,_,.nil,s => s
 | _,_,_,_,.cons r t,s => .cons r (zJ.append t s)
theorem zJ.take : ∀ {xs : List V} {us : List Value} (n : Nat),zJ xs us → zJ (xs.take n) (us.take n)
 | _,_,0,_ => .nil
 | _,_,_ + 1,.nil => .nil
 | _,_,n + 1,.cons r t => .cons r (zJ.take n t)
theorem zJ.drop : ∀ {xs : List V} {us : List Value} (n : Nat),zJ xs us → zJ (xs.drop n) (us.drop n)
 | _,_,0,r => r
 | _,_,_ + 1,.nil => .nil
 | _,_,n + 1,.cons _ t => zJ.drop n t
def zhX : Option V → Option Value → Prop
 | some v,some u => RelV v u
 | none,none => True
 | _,_ => False
def KV {κ : Type} : List (κ × V) → List (κ × Value) → Prop:=Paired fun (p : κ × V) (q : κ × Value) => p.1 = q.1 ∧ RelV p.2 q.2
def kV : Key → V
 | .inl i => .int i
 | .inr x => .str x
inductive HO where
 | lst (xs : List V)
 | tup (xs : List V)
 | dK (kvs : List (Key × V)) | dT (kvs : List (List Key × V))
 | set (S : Int → Bool) (n : Nat)
 | ins (C dx : Addr) (fs : List (Str × V))
 | own (x : Addr)
 | xd (fs : List (Str × V))
 | met (f x : Addr)
 | rng (lo hi : Int)
 | frz (o : Obj) (u : HO)
 | tbl (ps : Array Value)
 | ext (φ : Heap → Prop)
abbrev Hp:=Addr → Option HO
def upd (H : Hp) (a : Addr) (o : HO) : Hp:=fun b => if b = a then some o else H b
theorem zc {H : Hp} {a : Addr} {o : HO} : upd H a o a = some o:=by unfold upd; rw [if_pos rfl]
theorem zr {H : Hp} {a b : Addr} {o : HO} (h : b ≠ a) : upd H a o b = H b:=by unfold upd; rw [if_neg h]
theorem zkb {H : Hp} {a : Addr} {o u : HO} : upd (upd H a o) a u = upd H a u:=by
 funext b; unfold upd; split <;> rfl
theorem zml {H : Hp} {a b : Addr} {o u : HO} (h : H a = some o) (h' : H b = some u) (d : o ≠ u) : a ≠ b:=by
 intro e; subst e; rw [h] at h'; exact d (Option.some.inj h')
theorem zF {H : Hp} {a b : Addr} {o : HO} (h : H a = some o) (h' : H b = none) : a ≠ b:=by
 intro e; subst e; rw [h] at h'; cases h'
section
variable (P : Program) (w : World)
def zab (H : Hp) (h : Heap) (a : Addr) : HO → Prop
 | .lst xs => xs.length ≤ sizeLine ∧ ∃ (its : List Value) (n : Nat),zJ xs its ∧ h.get? a = some { cls:=.type "list",data:=.seq its.toArray n }
 | .tup xs => xs.length ≤ sizeLine ∧ ∃ its : List Value,zJ xs its ∧ IsTup h a its.toArray
 | .dK kvs => kvs.length ≤ sizeLine ∧ (a == sysModules) = false ∧ ∃ vs,KV kvs vs ∧ h.DictOf (zau P w) a vs
 | .dT kvs => kvs.length ≤ sizeLine ∧ (a == sysModules) = false ∧ ∃ xs : List (List Key × Addr × Value),
   Paired (fun (p : List Key × V) (q : List Key × Addr × Value) => p.1 = q.1 ∧ H q.2.1 = some (.tup (p.1.map kV)) ∧ RelV p.2 q.2.2) kvs xs ∧
   ∃ o es ep,h.get? a = some o ∧ o.ExactDict ∧ o.data = .dict es ep ∧ es.toList = xs.map (entryOfKey (tupleKind (zau P w))) ∧ (xs.map (·.1)).Nodup
 | .set S n => h.SetOf (intKind P w) a S n
 | .ins C dx fs => H dx = some (.own a) ∧ fs.length ≤ 1000 ∧ dx ≠ a ∧ h.get? a = some (PySem.W.instObj C dx) ∧
   ∃ mA,h.Ns1 dx mA ∧ (∀ f,zhX (fs.lookup f) (mA f)) ∧ PySem.Within mA (fs.map (·.1))
 | .own _ => ∃ o,h.get? a = some o
 | .xd fs => ∃ mA,h.Ns1 a mA ∧ ∀ f,zhX (fs.lookup f) (mA f)
 | .rng lo hi => ∃ t u v,h.get? a = some { cls:=.type "range",data:=.fields #[.int lo t,.int hi u,.int 1 v] }
 | .frz o u => h.get? a = some o ∧ zab H h a u
 | .tbl ps => h.get? a = some { cls:=.none,data:=.fields ps }
 | .met f x => h.get? a = some (PySem.W.methodObj (.ref f) (.ref x))
 | .ext φ => φ h ∧ (∃ o,h.get? a = some o) ∧ ∀ h1 h2 : Heap,φ h1 → (∀ o,h1.get? a = some o → h2.get? a = some o) → φ h2
def HOk (H : Hp) (h : Heap) : Prop:=∀ a o,H a = some o → zab P w H h a o
end
section
variable {P : Program} {w : World} {H H' : Hp} {h h' : Heap} {a : Addr} {o : HO}
theorem zab.lt (x : zab P w H h a o) : a < h.objs.size:=by
 cases o with
 | lst xs => obtain ⟨_,_,_,_,e⟩:=x; exact Heap.lt_size e
 | tup xs => obtain ⟨_,_,_,p⟩:=x; exact p.lt
 | dK kvs => obtain ⟨_,_,_,_,o,_,_,e,_⟩:=x; exact Heap.lt_size e
 | dT kvs => obtain ⟨_,_,_,_,o,_,_,e,_⟩:=x; exact Heap.lt_size e
 | set S n => obtain ⟨o,_,_,_,e,_⟩:=x; exact Heap.lt_size e
 | ins C dx fs => obtain ⟨_,_,_,e,_⟩:=x; exact Heap.lt_size e
 | own y => obtain ⟨_,e⟩:=x; exact Heap.lt_size e
 | xd fs => obtain ⟨_,⟨_,_,_,e,_⟩,_⟩:=x; exact Heap.lt_size e
 | rng lo hi => obtain ⟨_,_,_,e⟩:=x; exact Heap.lt_size e
 | frz ob u => obtain ⟨e,_⟩:=x; exact Heap.lt_size e
 | tbl ps => exact Heap.lt_size (show h.get? a = some _ from x)
 | met f y => exact Heap.lt_size (show h.get? a = some _ from x)
 | ext φ => obtain ⟨_,⟨_,e⟩,_⟩:=x; exact Heap.lt_size e
theorem Paired.mapP {α β : Type} {F G : α → β → Prop} : ∀ {l₁ : List α} {l₂ : List β},Paired F l₁ l₂ → (∀ a b,F a b → G a b) → Paired G l₁ l₂
 | _,_,.nil,_ => .nil
 | _,_,.cons r t,f => .cons (f _ _ r) (Paired.mapP t f)
theorem zab.stay (x : zab P w H h a o) (k : ∀ b u,(b = a ∨ H b = some (.own a)) → h.get? b = some u → h'.get? b = some u)
  (ho : ∀ b,H b = some (.own a) → H' b = some (.own a)) (ht : ∀ b xs,H b = some (.tup xs) → H' b = some (.tup xs)) : zab P w H' h' a o:=by
 induction o with
 | lst xs => obtain ⟨z,its,n,r,e⟩:=x; exact ⟨z,its,n,r,k _ _ (.inl rfl) e⟩
 | tup xs => obtain ⟨z,its,r,ob,e,c⟩:=x; exact ⟨z,its,r,ob,k _ _ (.inl rfl) e,c⟩
 | dK kvs => obtain ⟨z,y,vs,r,ob,es,ep,e,c⟩:=x; exact ⟨z,y,vs,r,ob,es,ep,k _ _ (.inl rfl) e,c⟩
 | dT kvs =>
  obtain ⟨z,y,xs,r,ob,es,ep,e,c⟩:=x
  exact ⟨z,y,xs,Paired.mapP r fun p q z => ⟨z.1,ht _ _ z.2.1,z.2.2⟩,ob,es,ep,k _ _ (.inl rfl) e,c⟩
 | set S n => obtain ⟨ob,es,ep,t,e,c⟩:=x; exact ⟨ob,es,ep,t,k _ _ (.inl rfl) e,c⟩
 | ins C dx fs =>
  obtain ⟨d,z,ne,e,mA,⟨od,es,ep,e2,c⟩,r⟩:=x
  exact ⟨ho _ d,z,ne,k _ _ (.inl rfl) e,mA,⟨od,es,ep,k _ _ (.inr d) e2,c⟩,r⟩
 | own y => obtain ⟨ob,e⟩:=x; exact ⟨ob,k _ _ (.inl rfl) e⟩
 | xd fs => obtain ⟨mA,⟨od,es,ep,e,c⟩,r⟩:=x; exact ⟨mA,⟨od,es,ep,k _ _ (.inl rfl) e,c⟩,r⟩
 | rng lo hi => obtain ⟨t,u,v,e⟩:=x; exact ⟨t,u,v,k _ _ (.inl rfl) e⟩
 | frz ob u ih => obtain ⟨e,q⟩:=x; exact ⟨k _ _ (.inl rfl) e,ih q⟩
 | tbl ps =>
  have e : h.get? a = some { cls:=.none,data:=.fields ps }:=x
  show h'.get? a = some { cls:=.none,data:=.fields ps }
  exact k a _ (.inl rfl) e
 | met f y =>
  have e : h.get? a = some (PySem.W.methodObj (.ref f) (.ref y)):=x
  show h'.get? a = some (PySem.W.methodObj (.ref f) (.ref y))
  exact k a _ (.inl rfl) e
 | ext φ => obtain ⟨p,⟨o,e⟩,st⟩:=x; exact ⟨st _ _ p fun o q => k _ _ (.inl rfl) q,⟨o,k _ _ (.inl rfl) e⟩,st⟩
theorem HOk.lt (x : HOk P w H h) (e : H a = some o) : a < h.objs.size:=(x a o e).lt
theorem HOk.fresh (x : HOk P w H h) (e : h.objs.size ≤ a) : H a = none:=by
 cases q : H a with
 | none => rfl
 | some u => exact absurd (Nat.lt_of_lt_of_le (x.lt q) e) (Nat.lt_irrefl _)
theorem HOk.kept (x : HOk P w H h) (k : ∀ b u,h.get? b = some u → h'.get? b = some u) : HOk P w H h':=fun a o e =>
 (x a o e).stay (fun b u _ q => k b u q) (fun _ q => q) fun _ _ q => q
theorem HOk.laid (x : HOk P w H h) (k : ∀ b u,h.get? b = some u → h'.get? b = some u) (hp : h.objs.size ≤ a) (new : zab P w (upd H a o) h' a o) : HOk P w (upd H a o) h':=fun b u e => by
 have hn:=x.fresh hp
 by_cases hb : b = a
 ·subst hb; rw [zc] at e; cases e; exact new
 ·rw [zr hb] at e
  exact (x b u e).stay (fun c v _ q => k c v q) (fun c q => by rw [zr (zF q hn)]; exact q) fun c xs q => by rw [zr (zF q hn)]; exact q
end
def Rd (H : Hp) (a : Addr) (u : HO) : Prop:=H a = some u ∨ ∃ o,H a = some (.frz o u)
theorem Rd.ok {P : Program} {w : World} {H : Hp} {h : Heap} {a : Addr} {u : HO} (r : Rd H a u) (x : HOk P w H h) : zab P w H h a u:=by
 rcases r with r | ⟨o,r⟩
 ·exact x a u r
 ·obtain ⟨_,q⟩:=x a _ r
  exact q
def Mut : Option HO → Prop
 | some (.lst _) => True
 | some (.dK _) => True
 | some (.dT _) => True
 | some (.set _ _) => True
 | some (.ins _ _ _) => True
 | some (.ext _) => True
 | _ => False
section
variable {P : Program} {w : World} {H : Hp} {h h' : Heap} {x e : Addr} {o' : HO}
theorem HOk.write (ok : HOk P w H h) (mu : Mut (H x)) (he : e = x ∨ H e = some (.own x)) (k : ∀ b u,b ≠ e → h.get? b = some u → h'.get? b = some u) (heo : ∃ u,h'.get? e = some u)
  (new : zab P w (upd H x o') h' x o') : HOk P w (upd H x o') h':=fun b u q => by
 have nown : ∀ c y,H c = some (.own y) → c ≠ x:=fun c y r z => by subst z; rw [r] at mu; exact mu
 have ntup : ∀ c xs,H c = some (.tup xs) → c ≠ x:=fun c xs r z => by subst z; rw [r] at mu; exact mu
 by_cases hb : b = x
 ·subst hb; rw [zc] at q; cases q; exact new
 ·rw [zr hb] at q
  by_cases hbe : b = e
  ·have q' : H b = some (.own x):=by
    rcases he with z | z
    ·exact absurd (hbe.trans z) hb
    ·rw [hbe]; exact z
   rw [q] at q'; cases q'
   obtain ⟨v,hv⟩:=heo
   exact ⟨v,by rw [hbe]; exact hv⟩
  ·refine (ok b u q).stay (fun c v hc r => k c v ?_ r) (fun c r => by rw [zr (nown c b r)]; exact r) fun c xs r => by rw [zr (ntup c xs r)]; exact r
   rcases hc with rfl | hc
   ·exact hbe
   ·rintro rfl
    rcases he with z | z
    ·exact nown c b hc z
    ·rw [hc] at z; cases z; exact hb rfl
end
structure Un (fs ex : List Addr) (H H' : Hp) (h h' : Heap) : Prop where
 keep : ∀ b o,h.get? b = some o → H b = none → b ∉ fs → b ∉ ex → h'.get? b = some o
 slot : ∀ b o,h.get? b = some o → H b = none → b ∈ fs → b ∉ ex → ∃ sl,h'.get? b = some { o with slots:=sl }
 free : ∀ b o,h.get? b = some o → H b = none → b ∉ ex → H' b = none
 there : ∀ b o,h.get? b = some o → b ∉ ex → ∃ o',h'.get? b = some o'
 tups : ∀ b xs,H b = some (.tup xs) → H' b = some (.tup xs)
 frzs : ∀ b o u,H b = some (.frz o u) → H' b = some (.frz o u)
 tbls : ∀ b ps,H b = some (.tbl ps) → ∃ more,H' b = some (.tbl (ps ++ more))
section
variable {fs fs' ex ex' : List Addr} {H H1 H2 : Hp} {h h1 h2 h' : Heap} {a x e : Addr} {o : HO}
theorem Un.any (u : Un fs ex H H1 h h1) {b : Addr} {ob : Obj} (q : h.get? b = some ob) (n : H b = none) (hx : b ∉ ex) : ∃ sl,h1.get? b = some { ob with slots:=sl }:=by
 by_cases hb : b ∈ fs
 ·exact u.slot b ob q n hb hx
 ·exact ⟨ob.slots,u.keep b ob q n hb hx⟩
theorem Un.kept (k : ∀ b u,h.get? b = some u → h'.get? b = some u) : Un fs ex H H h h' :=
 ⟨fun b ob q _ _ _ => k b ob q,fun b ob q _ _ _ => ⟨ob.slots,k b ob q⟩,fun _ _ _ n _ => n,fun b ob q _ => ⟨ob,k b ob q⟩,fun _ _ q => q,fun _ _ _ q => q,fun _ ps q => ⟨#[],by rw [q]; simp⟩⟩
theorem Un.refl : Un fs ex H H h h:=Un.kept fun _ _ q => q
theorem Un.laid (k : ∀ b u,h.get? b = some u → h'.get? b = some u) (hp : h.objs.size ≤ a) (hn : H a = none) : Un fs ex H (upd H a o) h h' where
 keep:=fun b u q _ _ _ => k b u q
 slot:=fun b u q _ _ _ => ⟨u.slots,k b u q⟩
 free:=fun b u q n _ => by rw [zr (Nat.ne_of_lt (Nat.lt_of_lt_of_le (Heap.lt_size q) hp))]; exact n
 there:=fun b u q _ => ⟨u,k b u q⟩
 tups:=fun b xs q => by rw [zr (zF q hn)]; exact q
 frzs:=fun b u xs q => by rw [zr (zF q hn)]; exact q
 tbls:=fun b ps q => ⟨#[],by rw [zr (zF q hn),q]; simp⟩
theorem Un.write (mu : Mut (H x)) (he : e = x ∨ H e = some (.own x)) (k : ∀ b u,b ≠ e → h.get? b = some u → h'.get? b = some u) (heo : ∃ u,h'.get? e = some u) : Un fs ex H (upd H x o) h h':=by
 have hx : ∀ b,H b = none → b ≠ x:=fun b n z => by subst z; rw [n] at mu; exact mu
 have hb : ∀ b,H b = none → b ≠ e:=fun b n z => by
  subst z
  rcases he with r | r
  ·exact hx b n r
  ·rw [n] at r; cases r
 have hm : ∀ b u,H b = some u → ¬ Mut (some u) → b ≠ x:=fun b u q nm z => by subst z; rw [q] at mu; exact nm mu
 refine ⟨fun b u q n _ _ => k b u (hb b n) q,fun b u q n _ _ => ⟨u.slots,k b u (hb b n) q⟩,fun b u q n _ => by rw [zr (hx b n)]; exact n,fun b u q _ => ?_,
  fun b xs q => by rw [zr (hm b _ q fun z => z)]; exact q,fun b u xs q => by rw [zr (hm b _ q fun z => z)]; exact q,fun b ps q => ⟨#[],by rw [zr (hm b _ q fun z => z),q]; simp⟩⟩
 by_cases hbe : b = e
 ·subst hbe; exact heo
 ·exact ⟨u,k b u hbe q⟩
end
def trk (h : Heap) (H : Hp) : List Addr:=(List.range h.objs.size).filter fun a => (H a).isSome
def zeY (h : Heap) (H : Hp) : Heap:=PySem.W.hideAll h (trk h H)
theorem zhY (h : Heap) (H : Hp) : (zeY h H).objs.size = h.objs.size:=PySem.W.hideAll_size _ _
theorem ziL {h : Heap} {H : Hp} {b : Addr} {o : Obj} (e : h.get? b = some o) (n : H b = none) : (zeY h H).get? b = some o :=
 PySem.W.hideAll_get _ e fun hm => by
  have q : (H b).isSome = true:=(List.mem_filter.mp hm).2
  rw [n] at q; simp at q
theorem zkc {h : Heap} {H : Hp} {b : Addr} {o : Obj} (e : (zeY h H).get? b = some o) : h.get? b = some o ∧ H b = none:=by
 have e' : h.get? b = some o:=PySem.W.of_hideAll (trk h H) e
 refine ⟨e',?_⟩
 cases q : H b with
 | none => rfl
 | some x =>
  have hm : b ∈ trk h H:=List.mem_filter.mpr ⟨List.mem_range.mpr (Heap.lt_size e'),by simp [q]⟩
  have z : (zeY h H).get? b = none:=PySem.W.hideAll_none (trk h H) hm
  rw [z] at e; cases e
end L2
namespace L2
open PySem PySem.Spec PyProof.Rows
structure Mod (K : PySem.W.Frag) (mg : Str → Option Value) (base : Heap) : Prop where
 kin : K.In base
 glob : base.Ns mainGlobals mg
 blt : ∃ mb,base.Ns builtinsNs mb ∧ ∀ x : Str,x ≠ "__name__" → mb x = bootBuiltins x
 nolimit : base.NoLimit
structure Cx where
 prog : Program
 w : World
 K : PySem.W.Frag
 mg : Str → Option Value
 base : Heap
 A : Around
 N : List Str
 s₀ : Shared
 H₀ : Hp
 env : Env
 outer : List Env
 stack : List Env
 ex : List Addr
 fn : Str → Bool
 calm : Bool
 pn : List (Addr × Obj)
 xe : Value → Shared → Prop
def frs (l : List Env) : List Addr:=l.filterMap (·.frame)
abbrev Cx.fs (X : Cx) : List Addr:=frs X.outer
def Vis (sc : Scope) (x : Str) : Prop:=sc.names.lookup x = some .local ∨ sc.names.lookup x = some .cell ∨ sc.names.lookup x = some .free
def Loc (sc : Scope) (x : Str) : Prop:=sc.names.lookup x = some .local ∨ sc.names.lookup x = some .cell
def Look (env : Env) (h : Heap) (m : Str → Option Value) (x : Str) (u : Value) : Prop :=
 (env.kindOf x = some .local ∧ m x = some u) ∨ ((env.kindOf x = some .cell ∨ env.kindOf x = some .free) ∧ ∃ c,env.cells.lookup x = some c ∧ h.IsCell c (some u))
structure Cx.Ok (X : Cx) : Prop where
 mod : Mod X.K X.mg X.base
 kind : X.env.scope.kind = .function
 glob : X.env.globals = mainGlobals
 blt : X.env.builtins = builtinsNs
 above : X.s₀.heap.objs.size ≤ X.env.locals
 inj : ∀ x y c,X.env.cells.lookup x = some c → X.env.cells.lookup y = some c → x = y
 has : ∀ x,(X.env.kindOf x = some .cell ∨ X.env.kindOf x = some .free) → ∃ c,X.env.cells.lookup x = some c
 cab : ∀ x c,X.fn x = true → X.env.cells.lookup x = some c → X.s₀.heap.objs.size ≤ c
 hd : X.calm = true → X.A.handled = none
 frames : X.A.frames = some X.stack
 stk : X.stack = X.outer ∨ (X.stack = X.env :: X.outer ∧ X.env.frame = some X.env.locals)
 exf : ∀ b ∈ X.ex,b ≠ X.env.locals ∧ ∀ x c,X.env.cells.lookup x = some c → c ≠ b
 bs : ∀ b o,X.base.get? b = some o → X.s₀.heap.get? b = some o ∧ X.H₀ b = none
 bsz : X.base.objs.size ≤ X.s₀.heap.objs.size
 noex : ∀ b o,X.base.get? b = some o → b ∉ X.ex
 exfs : ∀ b ∈ X.ex,b ∉ X.fs
 funs : X.s₀.heap.FunFrames X.base X.outer
 frf : ∀ b ∈ X.fs,X.H₀ b = none
structure Inv (X : Cx) (pins : List (Addr × Obj)) (σ : List (Option V)) (H : Hp) (s : Shared) : Prop where
 ok : X.Ok
 os : s.os = X.s₀.os
 bare : AllBare s.gens
 base : Un X.fs X.ex X.H₀ H X.s₀.heap s.heap
 loc : ∃ m,s.heap.Ns X.env.locals m ∧ ∀ (i : Nat) (x : Str) (v : V),X.N[i]? = some x → σ[i]? = some (some v) → Vis X.env.scope x → ∃ u,RelV v u ∧ Look X.env s.heap m x u
 cell : ∀ x c,X.env.cells.lookup x = some c → ∃ v,s.heap.IsCell c v
 free : H X.env.locals = none
 freeC : ∀ x c,X.env.cells.lookup x = some c → H c = none
 pin : ∀ p ∈ X.pn ++ pins,s.heap.get? p.1 = some p.2 ∧ H p.1 = none ∧ p.1 ≠ X.env.locals ∧ p.1 ∉ X.fs ∧ ∀ v,p.2.data ≠ .cell v
 hok : HOk X.prog X.w H s.heap
 len : σ.length = X.N.length
section
variable {X : Cx} {pins : List (Addr × Obj)} {σ : List (Option V)} {H H' : Hp} {s : Shared} {h' : Heap}
theorem Cx.Ok.nofr (ok : X.Ok) {b : Addr} {o : Obj} (e : X.base.get? b = some o) : b ∉ X.fs:=fun hb => by
 have:=(ok.funs.mem hb).1
 rw [e] at this; cases this
theorem Inv.bs (I : Inv X pins σ H s) : ∀ b o,X.base.get? b = some o → s.heap.get? b = some o ∧ H b = none:=fun b o e =>
 ⟨I.base.keep b o (I.ok.bs b o e).1 (I.ok.bs b o e).2 (I.ok.nofr e) (I.ok.noex b o e),I.base.free b o (I.ok.bs b o e).1 (I.ok.bs b o e).2 (I.ok.noex b o e)⟩
theorem Inv.bk (I : Inv X pins σ H s) : ∀ b o,X.base.get? b = some o → s.heap.get? b = some o:=fun b o e => (I.bs b o e).1
theorem Inv.mod (I : Inv X pins σ H s) : Mod X.K X.mg X.base:=I.ok.mod
theorem Inv.kIn (I : Inv X pins σ H s) : X.K.In s.heap:=I.ok.mod.kin.keeps I.bk
theorem Inv.lt (I : Inv X pins σ H s) : X.env.locals < s.heap.objs.size:=let ⟨_,hn,_⟩:=I.loc; hn.lt
theorem Inv.sz (I : Inv X pins σ H s) : X.s₀.heap.objs.size ≤ s.heap.objs.size:=Nat.le_trans I.ok.above (Nat.le_of_lt I.lt)
theorem Inv.nofs (I : Inv X pins σ H s) {a : Addr} (h : s.heap.objs.size ≤ a) : a ∉ X.fs:=fun hb => by
 obtain ⟨_,o,ho,_⟩:=I.ok.funs.mem hb
 exact absurd (Nat.lt_of_lt_of_le (Heap.lt_size ho) (Nat.le_trans I.sz h)) (Nat.lt_irrefl _)
theorem Inv.cne (I : Inv X pins σ H s) : ∀ x c,X.env.cells.lookup x = some c → c ≠ X.env.locals:=fun x c e z => by
 obtain ⟨v,o,ho,hd⟩:=I.cell x c e
 obtain ⟨m,⟨o',es,ep,ho',hd',_⟩,_⟩:=I.loc
 rw [z,ho'] at ho; cases ho; rw [hd'] at hd; cases hd
theorem Inv.funs (I : Inv X pins σ H s) : s.heap.FunFrames X.base X.outer:=by
 have all : ∀ (l : List Env),(∀ b ∈ frs l,b ∈ X.fs) → X.s₀.heap.FunFrames X.base l → s.heap.FunFrames X.base l:=by
  intro l
  induction l with
  | nil => intro _ _; trivial
  | cons env r ih =>
   intro hs hl
   obtain ⟨hk,⟨L,o,hf,hn,ho,hd⟩,hr⟩:=hl
   have hL : L ∈ X.fs:=hs L (by unfold frs; rw [List.filterMap_cons,hf]; exact List.mem_cons_self)
   obtain ⟨sl,e⟩:=I.base.slot L o ho (I.ok.frf L hL) hL fun z => I.ok.exfs L z hL
   exact ⟨hk,⟨L,_,hf,hn,e,hd⟩,ih (fun b hb => hs b (by unfold frs; rw [List.filterMap_cons,hf]; exact List.mem_cons_of_mem _ hb)) hr⟩
 exact all X.outer (fun _ hb => hb) I.ok.funs
theorem Inv.stack (I : Inv X pins σ H s) : s.heap.FunFrames X.base X.stack:=by
 rcases I.ok.stk with e | ⟨e,hf⟩
 ·rw [e]; exact I.funs
 ·rw [e]
  obtain ⟨m,hn,_⟩:=I.loc
  refine .cons (by rw [I.ok.kind]; decide) hf hn ?_ I.funs
  exact Heap.get?_none_of_le (Nat.le_trans I.ok.bsz I.ok.above)
theorem Inv.stkSub (I : Inv X pins σ H s) : ∀ b ∈ frs X.stack,b ∈ X.env.locals :: X.fs:=fun b hb => by
 rcases I.ok.stk with e | ⟨e,hf⟩
 ·rw [e] at hb; exact List.mem_cons_of_mem _ hb
 ·rw [e] at hb
  unfold frs at hb
  rw [List.filterMap_cons,hf] at hb
  exact hb
theorem Inv.stkFree (I : Inv X pins σ H s) : ∀ b ∈ frs X.stack,H b = none:=fun b hb => by
 rcases List.mem_cons.mp (I.stkSub b hb) with e | hb
 ·rw [e]; exact I.free
 ·obtain ⟨_,o,ho,_⟩:=I.ok.funs.mem hb
  exact I.base.free b o ho (I.ok.frf b hb) fun z => I.ok.exfs b z hb
theorem Inv.step {g' : Array GenState} {t' : Nat} {d' : Drawn} {ch : List Addr} (I : Inv X pins σ H s)
  (hch : ∀ b ∈ ch,(b ∈ X.ex ∨ X.s₀.heap.objs.size ≤ b) ∧ b ≠ X.env.locals ∧ (∀ x c,X.env.cells.lookup x = some c → c ≠ b) ∧ ∀ p ∈ X.pn ++ pins,p.1 ≠ b)
  (keep : ∀ b o,b ≠ X.env.locals → b ∉ X.fs → b ∉ ch → s.heap.get? b = some o → H b = none → h'.get? b = some o)
  (slot : ∀ b o,b ≠ X.env.locals → b ∈ X.fs → b ∉ ch → s.heap.get? b = some o → H b = none → ∃ sl,h'.get? b = some { o with slots:=sl }) (free : ∀ b o,b ∉ ch → s.heap.get? b = some o → H b = none → H' b = none)
  (there : ∀ b o,b ∉ ch → s.heap.get? b = some o → ∃ o',h'.get? b = some o')
  (tups : ∀ b xs,H b = some (.tup xs) → H' b = some (.tup xs)) (frzs : ∀ b o u,H b = some (.frz o u) → H' b = some (.frz o u)) (tbls : ∀ b ps,H b = some (.tbl ps) → ∃ more,H' b = some (.tbl (ps ++ more)))
  (ns : ∀ m,s.heap.Ns X.env.locals m → h'.Ns X.env.locals m) (hok : HOk X.prog X.w H' h') (hg : AllBare g') :
  Inv X pins σ H' { s with heap:=h',gens:=g',drawn:=d',toks:=t' }:=by
 have neL : ∀ b o,X.s₀.heap.get? b = some o → b ≠ X.env.locals:=fun b o e => Nat.ne_of_lt (Nat.lt_of_lt_of_le (Heap.lt_size e) I.ok.above)
 have neC : ∀ b o,X.s₀.heap.get? b = some o → b ∉ X.ex → b ∉ ch:=fun b o e hx hb => by
  rcases (hch b hb).1 with z | z
  ·exact hx z
  ·exact absurd (Nat.lt_of_lt_of_le (Heap.lt_size e) z) (Nat.lt_irrefl _)
 have cellK : ∀ x c,X.env.cells.lookup x = some c → ∀ v,s.heap.IsCell c v → h'.IsCell c v:=fun x c e v ⟨o,ho,hd⟩ => by
  have nch : c ∉ ch:=fun z => (hch c z).2.2.1 x c e rfl
  by_cases hc : c ∈ X.fs
  ·obtain ⟨sl,q⟩:=slot c o (I.cne x c e) hc nch ho (I.freeC x c e)
   exact ⟨_,q,hd⟩
  ·exact ⟨o,keep c o (I.cne x c e) hc nch ho (I.freeC x c e),hd⟩
 refine ⟨I.ok,I.os,hg,⟨fun b o e n hb hx => ?_,fun b o e n hb hx => ?_,fun b o e n hx => ?_,fun b o e hx => ?_,fun b xs e => tups b xs (I.base.tups b xs e),fun b o xs e => frzs b o xs (I.base.frzs b o xs e),fun b ps e => ?_⟩,?_,fun x c e => ?_,?_,fun x c e => ?_,fun p hp => ?_,hok,I.len⟩
 ·exact keep b o (neL b o e) hb (neC b o e hx) (I.base.keep b o e n hb hx) (I.base.free b o e n hx)
 ·obtain ⟨sl,e1⟩:=I.base.slot b o e n hb hx
  obtain ⟨sl',e2⟩:=slot b _ (neL b o e) hb (neC b o e hx) e1 (I.base.free b o e n hx)
  exact ⟨sl',e2⟩
 ·obtain ⟨o',e1⟩:=I.base.there b o e hx
  exact free b o' (neC b o e hx) e1 (I.base.free b o e n hx)
 ·obtain ⟨o',e1⟩:=I.base.there b o e hx
  exact there b o' (neC b o e hx) e1
 ·obtain ⟨m1,e1⟩:=I.base.tbls b ps e
  obtain ⟨m2,e2⟩:=tbls b _ e1
  exact ⟨m1 ++ m2,by rw [e2,Array.append_assoc]⟩
 ·obtain ⟨m,hn,hl⟩:=I.loc
  refine ⟨m,ns m hn,fun i x v e1 e2 e3 => ?_⟩
  obtain ⟨u,r,l⟩:=hl i x v e1 e2 e3
  refine ⟨u,r,?_⟩
  rcases l with l | ⟨k,c,e,z⟩
  ·exact .inl l
  ·exact .inr ⟨k,c,e,cellK x c e _ z⟩
 ·obtain ⟨v,z⟩:=I.cell x c e
  exact ⟨v,cellK x c e v z⟩
 ·obtain ⟨m,⟨o,_,_,ho,_⟩,_⟩:=I.loc
  exact free _ o (fun z => (hch _ z).2.1 rfl) ho I.free
 ·obtain ⟨v,o,ho,hd⟩:=I.cell x c e
  exact free c o (fun z => (hch c z).2.2.1 x c e rfl) ho (I.freeC x c e)
 ·obtain ⟨e,n,ne,nf,d⟩:=I.pin p hp
  have nch : p.1 ∉ ch:=fun z => (hch p.1 z).2.2.2 p hp rfl
  exact ⟨keep p.1 p.2 ne nf nch e n,free p.1 p.2 nch e n,ne,nf,d⟩
theorem Inv.un {t' : Nat} (I : Inv X pins σ H s) (u : Un X.fs [] H H' s.heap h') (hok : HOk X.prog X.w H' h') : Inv X pins σ H' { s with heap:=h',toks:=t' }:=by
 obtain ⟨m,⟨o,es,ep,ho,r⟩,_⟩:=id I.loc
 obtain ⟨sl,hL⟩:=u.any ho I.free (by simp)
 exact I.step (g':=s.gens) (d':=s.drawn) (ch:=[]) (fun _ z => nomatch z) (fun b o _ hb _ e n => u.keep b o e n hb (by simp)) (fun b o _ hb _ e n => u.slot b o e n hb (by simp)) (fun b o _ e n => u.free b o e n (by simp)) (fun b o _ e => u.there b o e (by simp)) u.tups u.frzs u.tbls (fun m' hm => by
  obtain ⟨o',es',ep',ho',r'⟩:=hm
  rw [ho] at ho'; cases ho'
  exact ⟨_,es',ep',hL,r'⟩) hok I.bare
theorem Inv.call {g' : Array GenState} {t' : Nat} {d' : Drawn} {ch : List Addr} (I : Inv X pins σ H s) (u : Un (frs X.stack) ch H H' s.heap h') (hok : HOk X.prog X.w H' h') (hg : AllBare g')
  (hch : ∀ b ∈ ch,(b ∈ X.ex ∨ X.s₀.heap.objs.size ≤ b) ∧ b ≠ X.env.locals ∧ (∀ x c,X.env.cells.lookup x = some c → c ≠ b) ∧ ∀ p ∈ X.pn ++ pins,p.1 ≠ b) :
  Inv X pins σ H' { s with heap:=h',gens:=g',drawn:=d',toks:=t' }:=by
 obtain ⟨m,⟨o,es,ep,ho,r⟩,_⟩:=id I.loc
 obtain ⟨sl,hL⟩:=u.any ho I.free fun z => (hch _ z).2.1 rfl
 exact I.step (ch:=ch) hch (fun b o hL hb hc e n => u.keep b o e n (fun z => (List.mem_cons.mp (I.stkSub b z)).elim hL hb) hc) (fun b o _ _ hc e n => u.any e n hc) (fun b o hc e n => u.free b o e n hc) (fun b o hc e => u.there b o e hc) u.tups u.frzs u.tbls (fun m' hm => by
  obtain ⟨o',es',ep',ho',r'⟩:=hm
  rw [ho] at ho'; cases ho'
  exact ⟨_,es',ep',hL,r'⟩) hok hg
theorem Inv.turned {t' : Nat} {it : Addr} (I : Inv X pins σ H s) (k : ∀ b o,b ≠ it → s.heap.get? b = some o → h'.get? b = some o) (hn : H it = none) (hL : it ≠ X.env.locals)
  (h1 : it ∈ X.ex ∨ X.s₀.heap.objs.size ≤ it) (h2 : ∀ x c,X.env.cells.lookup x = some c → c ≠ it) (h3 : ∀ p ∈ X.pn ++ pins,p.1 ≠ it) : Inv X pins σ H { s with heap:=h',toks:=t' }:=by
 have nit : ∀ b u,H b = some u → b ≠ it:=fun b u e z => by rw [z,hn] at e; cases e
 refine I.step (g':=s.gens) (d':=s.drawn) (ch:=[it]) (fun b hb => ?_) (fun b o _ _ hc e _ => k b o (fun z => hc (by simp [z])) e) (fun b o _ _ hc e _ => ⟨o.slots,k b o (fun z => hc (by simp [z])) e⟩) (fun _ _ _ _ n => n)
  (fun b o hc e => ⟨o,k b o (fun z => hc (by simp [z])) e⟩) (fun _ _ e => e) (fun _ _ _ e => e) (fun b ps e => ⟨#[],by rw [e]; simp⟩) (fun m hm => ?_) (fun b u e => ?_) I.bare
 ·have e : b = it:=by simpa using hb
  subst e
  exact ⟨h1,hL,h2,h3⟩
 ·obtain ⟨o,es,ep,ho,r⟩:=hm
  exact ⟨o,es,ep,k _ o (Ne.symm hL) ho,r⟩
 ·refine (I.hok b u e).stay (fun c v hc q => k c v ?_ q) (fun _ q => q) fun _ _ q => q
  rcases hc with z | z
  ·rw [z]; exact nit b u e
  ·exact nit c _ z
theorem Inv.tok (I : Inv X pins σ H s) (t : Nat) : Inv X pins σ H { s with toks:=t }:=I.un (h':=s.heap) (t':=t) Un.refl I.hok
theorem Inv.kept {t' : Nat} (I : Inv X pins σ H s) (k : ∀ b u,s.heap.get? b = some u → h'.get? b = some u) : Inv X pins σ H { s with heap:=h',toks:=t' }:=I.un (Un.kept k) (I.hok.kept k)
theorem Inv.laid {a : Addr} {o : HO} {t' : Nat} (I : Inv X pins σ H s) (k : ∀ b u,s.heap.get? b = some u → h'.get? b = some u) (hp : s.heap.objs.size ≤ a) (new : zab X.prog X.w (upd H a o) h' a o) :
  Inv X pins σ (upd H a o) { s with heap:=h',toks:=t' }:=I.un (Un.laid k hp (I.hok.fresh hp)) (I.hok.laid k hp new)
theorem Inv.write {x e : Addr} {o : HO} {t' : Nat} (I : Inv X pins σ H s) (mu : Mut (H x)) (he : e = x ∨ H e = some (.own x)) (k : ∀ b u,b ≠ e → s.heap.get? b = some u → h'.get? b = some u) (heo : ∃ u,h'.get? e = some u)
  (new : zab X.prog X.w (upd H x o) h' x o) : Inv X pins σ (upd H x o) { s with heap:=h',toks:=t' }:=I.un (Un.write mu he k heo) (I.hok.write mu he k heo new)
theorem Inv.weak {σ' : List (Option V)} (I : Inv X pins σ H s) (hl : σ'.length = σ.length) (w : ∀ (i : Nat) v,σ'[i]? = some (some v) → σ[i]? = some (some v)) : Inv X pins σ' H s :=
 ⟨I.ok,I.os,I.bare,I.base,let ⟨m,hn,hl'⟩:=I.loc; ⟨m,hn,fun i x v e1 e2 e3 => hl' i x v e1 (w i v e2) e3⟩,I.cell,I.free,I.freeC,I.pin,I.hok,hl.trans I.len⟩
theorem Inv.pins_of {pins' : List (Addr × Obj)} (I : Inv X pins σ H s) (h : ∀ p ∈ pins',s.heap.get? p.1 = some p.2 ∧ H p.1 = none ∧ p.1 ≠ X.env.locals ∧ p.1 ∉ X.fs ∧ ∀ v,p.2.data ≠ .cell v) : Inv X pins' σ H s :=
 ⟨I.ok,I.os,I.bare,I.base,I.loc,I.cell,I.free,I.freeC,fun p hp => (List.mem_append.mp hp).elim (fun z => I.pin p (List.mem_append_left _ z)) (h p),I.hok,I.len⟩
theorem zfF {N : List Str} (hN : N.Nodup) {i j : Nat} {x : Str} (a : N[i]? = some x) (b : N[j]? = some x) : i = j:=by
 obtain ⟨h1,e1⟩:=List.getElem?_eq_some_iff.mp a
 obtain ⟨h2,e2⟩:=List.getElem?_eq_some_iff.mp b
 exact (List.getElem_inj hN).mp (e1.trans e2.symm)
theorem zet {M : Model} {A : Around} {E : Value → Shared → Prop} {i : Nat} {x : Str} {v : V} {u : Value} {Q : Unit → Shared → Prop} (I : Inv X pins σ H s) (hN : X.N.Nodup) (hi : X.N[i]? = some x) (hx : Loc X.env.scope x) (r : RelV v u)
  (h : ∀ s',Inv X pins (σ.set i (some v)) H s' → (∃ a,Heap.SameBut a s.heap s'.heap ∧ (a = X.env.locals ∨ X.env.cells.lookup x = some a)) → Q () s') (hf : X.fn x = true ∨ X.env.scope.names.lookup x = some .local:=by first | exact .inl rfl | exact .inr rfl | assumption) : wpAny M A (storeName X.env x u) Q E s:=by
 obtain ⟨m,hn,hl⟩:=id I.loc
 have hcls : (X.env.scope.kind == .class || (X.env.scope.kind == .module && X.env.locals != X.env.globals)) = false:=by rw [I.ok.kind]; rfl
 have hiσ : i < σ.length:=by rw [I.len]; exact (List.getElem?_eq_some_iff.mp hi).1
 have cne:=I.cne
 have tracked : ∀ {a : Addr} {h' : Heap},(∃ o,s.heap.get? a = some o ∧ H a = none) → Heap.SameBut a s.heap h' → HOk X.prog X.w H h':=fun {a h'} ha hs b ob e => by
  obtain ⟨_,_,hfree⟩:=ha
  refine (I.hok b ob e).stay (fun c w' hc q => (hs.2 c ?_).trans q) (fun _ q => q) fun _ _ q => q
  rintro rfl
  rcases hc with rfl | hc
  ·rw [hfree] at e; cases e
  ·rw [hfree] at hc; cases hc
 rcases hx with hk | hk
 ·refine wpAny_storeName_local hk hn (fun h' hn' hs => ?_) hcls
  obtain ⟨oL,_,_,hoL,_⟩:=id hn
  refine h _ ⟨I.ok,I.os,I.bare,⟨fun b o e n hb hx => ?_,fun b o e n hb hx => ?_,I.base.free,fun b o e hx => ?_,I.base.tups,I.base.frzs,I.base.tbls⟩,⟨_,hn',fun j y v' e1 e2 e3 => ?_⟩,fun y c e => ?_,I.free,I.freeC,fun p hp => ?_,tracked ⟨oL,hoL,I.free⟩ hs,by simpa using I.len⟩ ⟨_,hs,.inl rfl⟩
  ·exact (hs.2 b (Nat.ne_of_lt (Nat.lt_of_lt_of_le (Heap.lt_size e) I.ok.above))).trans (I.base.keep b o e n hb hx)
  ·obtain ⟨sl,e1⟩:=I.base.slot b o e n hb hx
   exact ⟨sl,(hs.2 b (Nat.ne_of_lt (Nat.lt_of_lt_of_le (Heap.lt_size e) I.ok.above))).trans e1⟩
  ·obtain ⟨o',e1⟩:=I.base.there b o e hx
   exact ⟨o',(hs.2 b (Nat.ne_of_lt (Nat.lt_of_lt_of_le (Heap.lt_size e) I.ok.above))).trans e1⟩
  ·by_cases hj : j = i
   ·subst hj
    rw [hi] at e1; cases e1
    rw [List.getElem?_set_self hiσ] at e2
    cases e2
    exact ⟨u,r,.inl ⟨hk,by simp⟩⟩
   ·rw [List.getElem?_set_ne (Ne.symm hj)] at e2
    obtain ⟨u',r',q⟩:=hl j y v' e1 e2 e3
    refine ⟨u',r',?_⟩
    rcases q with ⟨k,e⟩ | ⟨k,c,e,z⟩
    ·refine .inl ⟨k,?_⟩
     have : y ≠ x:=fun e => hj (zfF hN e1 (e ▸ hi))
     simp [this,e]
    ·exact .inr ⟨k,c,e,z.sameBut hs (cne y c e)⟩
  ·obtain ⟨w',z⟩:=I.cell y c e
   exact ⟨w',z.sameBut hs (cne y c e)⟩
  ·obtain ⟨e,n,ne,nf,d⟩:=I.pin p hp
   exact ⟨(hs.2 p.1 ne).trans e,n,ne,nf,d⟩
 ·have hfn : X.fn x = true:=by
   rcases hf with z | z
   ·exact z
   ·rw [z] at hk; cases hk
  obtain ⟨c,hc⟩:=I.ok.has x (.inl hk)
  obtain ⟨w',z⟩:=I.cell x c hc
  refine wpAny_storeName_cell I.ok.kind hk hc z (fun h' hc' hs => ?_)
  obtain ⟨oc,hoc,hocd⟩:=id z
  refine h { s with heap:=h' } ⟨I.ok,I.os,I.bare,⟨fun b o e n hb hx => ?_,fun b o e n hb hx => ?_,I.base.free,fun b o e hx => ?_,I.base.tups,I.base.frzs,I.base.tbls⟩,⟨m,hn.sameBut hs (Ne.symm (cne x c hc)),fun j y v' e1 e2 e3 => ?_⟩,fun y c' e => ?_,I.free,I.freeC,fun p hp => ?_,tracked ⟨oc,hoc,I.freeC x c hc⟩ hs,by simpa using I.len⟩ ⟨c,hs,.inr hc⟩
  ·exact (hs.2 b (Nat.ne_of_lt (Nat.lt_of_lt_of_le (Heap.lt_size e) (I.ok.cab x c hfn hc)))).trans (I.base.keep b o e n hb hx)
  ·obtain ⟨sl,e1⟩:=I.base.slot b o e n hb hx
   exact ⟨sl,(hs.2 b (Nat.ne_of_lt (Nat.lt_of_lt_of_le (Heap.lt_size e) (I.ok.cab x c hfn hc)))).trans e1⟩
  ·obtain ⟨o',e1⟩:=I.base.there b o e hx
   exact ⟨o',(hs.2 b (Nat.ne_of_lt (Nat.lt_of_lt_of_le (Heap.lt_size e) (I.ok.cab x c hfn hc)))).trans e1⟩
  ·by_cases hj : j = i
   ·subst hj
    rw [hi] at e1; cases e1
    rw [List.getElem?_set_self hiσ] at e2
    cases e2
    exact ⟨u,r,.inr ⟨.inl hk,c,hc,hc'⟩⟩
   ·rw [List.getElem?_set_ne (Ne.symm hj)] at e2
    obtain ⟨u',r',q⟩:=hl j y v' e1 e2 e3
    refine ⟨u',r',?_⟩
    rcases q with q | ⟨k,c',e,z'⟩
    ·exact .inl q
    ·refine .inr ⟨k,c',e,z'.sameBut hs ?_⟩
     rintro rfl
     exact hj (zfF hN e1 (I.ok.inj _ _ _ e hc ▸ hi))
  ·by_cases hcc : c' = c
   ·subst hcc; exact ⟨_,hc'⟩
   ·obtain ⟨w2,z2⟩:=I.cell y c' e
    exact ⟨w2,z2.sameBut hs hcc⟩
  ·obtain ⟨e,n,ne,nf,d⟩:=I.pin p hp
   refine ⟨(hs.2 p.1 ?_).trans e,n,ne,nf,d⟩
   intro q
   rw [q,hoc] at e
   have q' : oc = p.2:=Option.some.inj e
   exact d w' (by rw [← q']; exact hocd)
theorem zdG {M : Model} {A : Around} {E : Value → Shared → Prop} {i : Nat} {x : Str} {v : V} {u : Value} {Q : Unit → Shared → Prop} (I : Inv X pins σ H s) (hN : X.N.Nodup) (hi : X.N[i]? = some x) (hx : Loc X.env.scope x) (r : RelV v u)
  (h : ∀ s',Inv X pins (σ.set i (some v)) H s' → Q () s') (hf : X.fn x = true ∨ X.env.scope.names.lookup x = some .local:=by first | exact .inl rfl | exact .inr rfl | assumption) : wpAny M A (storeName X.env x u) Q E s :=
 zet I hN hi hx r (fun s' I' _ => h s' I') hf
theorem Inv.call' {s' : Shared} {ch : List Addr} (I : Inv X pins σ H s) (ho : s'.os = s.os) (u : Un (frs X.stack) ch H H' s.heap s'.heap) (hok : HOk X.prog X.w H' s'.heap) (hg : AllBare s'.gens)
  (hch : ∀ b ∈ ch,(b ∈ X.ex ∨ X.s₀.heap.objs.size ≤ b) ∧ b ≠ X.env.locals ∧ (∀ x c,X.env.cells.lookup x = some c → c ≠ b) ∧ ∀ p ∈ X.pn ++ pins,p.1 ≠ b) : Inv X pins σ H' s':=by
 obtain ⟨h',g',d',t',o'⟩:=s'
 have e : o' = s.os:=ho
 subst e
 exact I.call (g':=g') (t':=t') (d':=d') u hok hg hch
end
abbrev XK:=Value → Option Addr → Hp → Prop
abbrev St:=List (Option V)
abbrev VK:=V → Hp → Prop
abbrev TE:=St → Hp → VK → Prop
abbrev TT:=St → Hp → (Bool → Hp → Prop) → Prop
abbrev TA:=St → Hp → (List V → Hp → Prop) → Prop
structure Ends where
 nx : St → Hp → Prop
 rt : VK
 bk : St → Hp → Prop:=fun _ _ => False
 ct : St → Hp → Prop:=fun _ _ => False
abbrev TS:=Ends → St → Hp → Prop
def EP (X : Cx) (pins : List (Addr × Obj)) (σ : St) (Q : VK) (u : Value) (s' : Shared) : Prop:=∃ v H',Inv X pins σ H' s' ∧ RelV v u ∧ Q v H'
def TP (X : Cx) (pins : List (Addr × Obj)) (σ : St) (Q : Bool → Hp → Prop) (b : Bool) (s' : Shared) : Prop:=∃ H',Inv X pins σ H' s' ∧ Q b H'
def AP (X : Cx) (pins : List (Addr × Obj)) (σ : St) (Q : List V → Hp → Prop) (us : List Value) (s' : Shared) : Prop:=∃ vs H',Inv X pins σ H' s' ∧ zJ vs us ∧ Q vs H'
def SP (X : Cx) (pins : List (Addr × Obj)) (D : Ends) (f : Flow) (s' : Shared) : Prop :=
 match f with
 | .next => ∃ σ' H',Inv X pins σ' H' s' ∧ D.nx σ' H'
 | .brk => ∃ σ' H',Inv X pins σ' H' s' ∧ D.bk σ' H'
 | .cont => ∃ σ' H',Inv X pins σ' H' s' ∧ D.ct σ' H'
 | .ret u => ∃ v σ' H',Inv X pins σ' H' s' ∧ RelV v u ∧ D.rt v H'
def PE (X : Cx) (e : Expr) (t : TE) : Prop :=
 ∀ (pins : List (Addr × Obj)) (s : Shared) (σ : St) (H : Hp) (Q : VK),Inv X pins σ H s → t σ H Q → wpAny (model X.prog X.w) X.A (eval e X.env) (EP X pins σ Q) X.xe s
def PT (X : Cx) (e : Expr) (t : TT) : Prop :=
 ∀ (pins : List (Addr × Obj)) (s : Shared) (σ : St) (H : Hp) (Q : Bool → Hp → Prop),Inv X pins σ H s → t σ H Q → wpAny (model X.prog X.w) X.A (isTrue e X.env (eval e X.env)) (TP X pins σ Q) X.xe s
def PW (X : Cx) (e : Expr) (t : TT) : Prop :=
 ∀ (whole : Sem Value) (pins : List (Addr × Obj)) (s : Shared) (σ : St) (H : Hp) (Q : Bool → Hp → Prop),Inv X pins σ H s → t σ H Q → wpAny (model X.prog X.w) X.A (isTrue e X.env whole) (TP X pins σ Q) X.xe s
theorem PW.pt {X : Cx} {e : Expr} {t : TT} (h : PW X e t) : PT X e t:=h _
def PA (X : Cx) (es : List Expr) (t : TA) : Prop :=
 ∀ (pos : Pos) (pins : List (Addr × Obj)) (s : Shared) (σ : St) (H : Hp) (Q : List V → Hp → Prop),Inv X pins σ H s → t σ H Q → wpAny (model X.prog X.w) X.A (spliced (backTo pos (starEach es X.env))) (AP X pins σ Q) X.xe s
def PS (X : Cx) (st : Stmt) (t : TS) : Prop :=
 ∀ (pins : List (Addr × Obj)) (s : Shared) (σ : St) (H : Hp) (D : Ends),Inv X pins σ H s → t D σ H → wpAny (model X.prog X.w) X.A (exec st X.env) (SP X pins D) X.xe s
def PSs (X : Cx) (st : List Stmt) (t : TS) : Prop :=
 ∀ (pins : List (Addr × Obj)) (s : Shared) (σ : St) (H : Hp) (D : Ends),Inv X pins σ H s → t D σ H → wpAny (model X.prog X.w) X.A (execs st X.env) (SP X pins D) X.xe s
theorem thn {α : Type} {t : Sem α} {Q Q' : α → Shared → Prop} {M : Model} {A : Around} {E : Value → Shared → Prop} {s : Shared} (h : wpAny M A t Q E s) (hQ : ∀ a s,Q a s → Q' a s) : wpAny M A t Q' E s:=wpAny_mono h hQ fun _ _ x => x
end L2
namespace L2
open PySem PySem.Spec PyProof.Rows
section
variable {X : Cx}
def zmm (i : Nat) : TE:=fun σ H Q => ∃ v,σ[i]? = some (some v) ∧ Q v H
def tC (v : V) : TE:=fun _ H Q => Q v H
theorem zlx {i : Nat} {x : Str} {pos : Pos} (hN : X.N[i]? = some x) (hv : Vis X.env.scope x) (hd : (x == ("__debug__" : Str)) = false:=by decide) (hcd : (x == ("__classdict__" : Str)) = false:=by decide) : PE X (.Name x pos) (zmm i):=by
 intro pins s σ H Q I h
 obtain ⟨v,e,h⟩:=h
 obtain ⟨m,hn,hl⟩:=I.loc
 obtain ⟨u,r,l⟩:=hl i x v hN e hv
 have fin : EP X pins σ Q u s:=⟨v,H,I,r,h⟩
 rcases l with ⟨hk,hm⟩ | ⟨hk,c,hc,hcell⟩
 ·exact wpAny_Name (wpAny_loadName_local I.ok.kind hk hn hm fin) hd
 ·rcases hk with hk | hk
  ·exact wpAny_Name (wpAny_loadName_cell I.ok.kind hk hc hcell fin) hd
  ·exact wpAny_Name (wpAny_loadName_free I.ok.kind hk hc hcell fin hcd) hd
theorem zf {i j pos} : PE X (.Constant (.int i) j pos) (tC (.int i)):=fun _ _ _ H _ I h => wpAny_Constant_int ⟨.int i,H,I.tok _,⟨_,rfl⟩,h⟩
theorem zeu {b j pos} : PE X (.Constant (.bool b) j pos) (tC (.bl b)):=fun _ _ _ H _ I h => Constant_bool ⟨.bl b,H,I,rfl,h⟩
theorem za7 {j pos} : PE X (.Constant .none j pos) (tC .non):=fun _ _ _ H _ I h => Constant_none ⟨.non,H,I,rfl,h⟩
def Gl (X : Cx) (x : Str) : Prop:=X.env.kindOf x = some .globalImplicit
theorem zkd {E : Value → Shared → Prop} {pins : List (Addr × Obj)} {s : Shared} {σ : St} {H : Hp} {x : Str} {u : Value} {pos : Pos} {Q : Value → Shared → Prop} (I : Inv X pins σ H s) (hg : Gl X x) (hm : X.mg x = some u) (h : Q u s)
  (hd : (x == ("__debug__" : Str)) = false:=by decide) : wpAny (model X.prog X.w) X.A (eval (.Name x pos) X.env) Q E s :=
 Calls.Name_function_global I.ok.kind hg (Calls.loadGlobal_global (by rw [I.ok.glob]; exact I.mod.glob.keeps I.bk) hm h) hd
theorem zbh {E : Value → Shared → Prop} {pins : List (Addr × Obj)} {s : Shared} {σ : St} {H : Hp} {x : Str} {u : Value} {pos : Pos} {Q : Value → Shared → Prop} (I : Inv X pins σ H s) (hg : Gl X x) (hm : X.mg x = none) (hv : bootBuiltins x = some u) (h : Q u s)
  (hn : x ≠ "__name__":=by decide) (hd : (x == ("__debug__" : Str)) = false:=by decide) : wpAny (model X.prog X.w) X.A (eval (.Name x pos) X.env) Q E s:=by
 obtain ⟨mb,h1,h2⟩:=I.mod.blt
 exact Calls.Name_function_global I.ok.kind hg (Calls.loadGlobal_builtin (by rw [I.ok.glob]; exact I.mod.glob.keeps I.bk) hm (by rw [I.ok.blt]; exact h1.keeps I.bk) ((h2 x hn).trans hv) h) hd
theorem zke {x : Str} {v : V} {u : Value} {pos : Pos} (hg : Gl X x) (hm : X.mg x = none) (hv : bootBuiltins x = some u) (r : RelV v u) (hn : x ≠ "__name__":=by decide) (hd : (x == ("__debug__" : Str)) = false:=by decide) : PE X (.Name x pos) (tC v) :=
 fun _ _ _ H _ I h => zbh I hg hm hv ⟨v,H,I,r,h⟩ hn hd
variable {a b : Expr} {ta tb : TE} {pos : Pos}
def tB (t : TE) : TT:=fun σ H Q => t σ H fun x H1 => ∃ c,x = .bl c ∧ Q c H1
theorem zly {e : Expr} {t : TE} (h : PE X e t) (he : ∀ whole,isTrue e X.env whole = (do let v ← whole; standAt e.pos; holding [v] (truthy v)):=by intro _; rfl) : PT X e (tB t):=by
 intro pins s σ H Q I hw
 refine isTrue_plain (thn (h pins s σ H _ I hw) fun v s1 ⟨x,H1,I1,r1,q1⟩ => ?_) (he _)
 obtain ⟨d,rfl,q⟩:=q1
 cases r1
 exact wpAny_truthy_bool ⟨H1,I1,q⟩
variable {tA tB' : TT} {rest : List Expr}
def zm1 (t u : TT) : TT:=fun σ H Q => t σ H fun c H1 => if c = true then u σ H1 Q else Q false H1
def tOr (t u : TT) : TT:=fun σ H Q => t σ H fun c H1 => if c = true then Q true H1 else u σ H1 Q
def zm2 (t : TT) : TT:=fun σ H Q => t σ H fun c H1 => Q (!c) H1
theorem zeZ (ha : PT X a tA) : PW X (.BoolOp .And [a] pos) tA:=by
 intro wh pins s σ H Q I h
 refine isTrue_and (thn (ha pins s σ H Q I h) fun c s1 e => ?_)
 cases c with
 | true => exact isTrue_and_nil e
 | false => exact e
theorem ziM (ha : PT X a tA) : PW X (.BoolOp .Or [a] pos) tA:=by
 intro wh pins s σ H Q I h
 refine isTrue_or (thn (ha pins s σ H Q I h) fun c s1 e => ?_)
 cases c with
 | false => exact isTrue_or_nil e
 | true => exact e
theorem ze0 (ha : PT X a tA) (hb : PW X (.BoolOp .And (b :: rest) pos) tB') : PW X (.BoolOp .And (a :: b :: rest) pos) (zm1 tA tB'):=by
 intro wh pins s σ H Q I h
 refine isTrue_and (thn (ha pins s σ H _ I h) fun c s1 ⟨H1,I1,q1⟩ => ?_)
 cases c with
 | true => exact hb wh pins s1 σ H1 Q I1 q1
 | false => exact ⟨H1,I1,q1⟩
theorem ziN (ha : PT X a tA) (hb : PW X (.BoolOp .Or (b :: rest) pos) tB') : PW X (.BoolOp .Or (a :: b :: rest) pos) (tOr tA tB'):=by
 intro wh pins s σ H Q I h
 refine isTrue_or (thn (ha pins s σ H _ I h) fun c s1 ⟨H1,I1,q1⟩ => ?_)
 cases c with
 | true => exact ⟨H1,I1,q1⟩
 | false => exact hb wh pins s1 σ H1 Q I1 q1
theorem ziO (ha : PT X a tA) : PT X (.UnaryOp .Not a pos) (zm2 tA):=by
 intro pins s σ H Q I h
 exact isTrue_not (ha pins s σ H (fun c H1 => Q (!c) H1) I h)
def tIf (t : TT) (ta tb : TE) : TE:=fun σ H Q => t σ H fun c H1 => if c = true then ta σ H1 Q else tb σ H1 Q
theorem ziP {c : Expr} (hc : PT X c tA) (ha : PE X a ta) (hb : PE X b tb) : PE X (.IfExp c a b pos) (tIf tA ta tb):=by
 intro pins s σ H Q I h
 refine wpAny_IfExp (thn (hc pins s σ H _ I h) fun d s1 ⟨H1,I1,q1⟩ => ?_)
 cases d with
 | true => exact ha pins s1 σ H1 Q I1 q1
 | false => exact hb pins s1 σ H1 Q I1 q1
end
end L2
namespace L2
open PySem PySem.Spec PyProof.Rows
def SqL (K : PySem.W.Frag) (H : Hp) (a : Addr) (xs : List V) : Prop :=
 Rd H a (.lst xs) ∨
  ∃ (o : Obj) (its : Array Value) (n : Nat),K.lookup a = some o ∧ o.cls = .type "list" ∧ o.dict = none ∧ o.data = .seq its n ∧ its.size ≤ sizeLine ∧ zJ xs its.toList
def SqT (K : PySem.W.Frag) (H : Hp) (a : Addr) (xs : List V) : Prop :=
 Rd H a (.tup xs) ∨
  ∃ (o : Obj) (its : Array Value) (n : Nat),K.lookup a = some o ∧ o.cls = .type "tuple" ∧ o.data = .seq its n ∧ its.size ≤ sizeLine ∧ zJ xs its.toList
def zm3 : Value → Option V
 | .none => some .non
 | .bool b => some (.bl b)
 | .int i _ => some (.int i)
 | .str x _ => some (.str x)
 | .bytes b _ => some (.byt b)
 | .float b _ => some (.flt b)
 | .ref a => some (.ref a)
 | .type n => some (.ty n)
 | _ => none
theorem RelV.abs {x : V} {u : Value} (r : RelV x u) : zm3 u = some x:=by
 cases x with
 | non => cases r; rfl
 | bl _ => cases r; rfl
 | int _ => obtain ⟨t,rfl⟩:=r; rfl
 | str _ => obtain ⟨t,rfl⟩:=r; rfl
 | byt _ => obtain ⟨t,rfl⟩:=r; rfl
 | flt _ => obtain ⟨t,rfl⟩:=r; rfl
 | ref _ => cases r; rfl
 | ty _ => cases r; rfl
theorem RelV.inj {x y : V} {u : Value} (r : RelV x u) (q : RelV y u) : x = y:=Option.some.inj (r.abs.symm.trans q.abs)
theorem zJ.inj : ∀ {xs ys : List V} {us : List Value},zJ xs us → zJ ys us → xs = ys
 | _,_,_,.nil,.nil => rfl
 | _,_,_,.cons r t,.cons r' t' => by rw [r.inj r',zJ.inj t t']
section
variable {X : Cx} {pins : List (Addr × Obj)} {σ : St} {H : Hp} {s : Shared} {a : Addr} {xs ys : List V}
theorem SqL.of {K : PySem.W.Frag} (h : H a = some (.lst xs)) : SqL K H a xs:=.inl (.inl h)
theorem SqT.of {K : PySem.W.Frag} (h : H a = some (.tup xs)) : SqT K H a xs:=.inl (.inl h)
theorem Inv.list (I : Inv X pins σ H s) (h : SqL X.K H a xs) : ∃ its : List Value,zJ xs its ∧ PlainL s.heap a its.toArray ∧ xs.length ≤ sizeLine:=by
 rcases h with h | ⟨o,its,n,hk,hc,hd,hs,hz,r⟩
 ·obtain ⟨z,its,n,r,e⟩:=h.ok I.hok
  exact ⟨its,r,⟨_,n,e,rfl,rfl,rfl⟩,z⟩
 ·refine ⟨its.toList,r,⟨o,n,I.kIn a o hk,hc,hd,by simpa using hs⟩,?_⟩
  have e:=r.length
  simp only [Array.length_toList] at e
  omega
theorem Inv.tuple (I : Inv X pins σ H s) (h : SqT X.K H a xs) : ∃ its : List Value,zJ xs its ∧ IsTup s.heap a its.toArray ∧ xs.length ≤ sizeLine:=by
 rcases h with h | ⟨o,its,n,hk,hc,hs,hz,r⟩
 ·obtain ⟨z,its,r,p⟩:=h.ok I.hok
  exact ⟨its,r,p,z⟩
 ·refine ⟨its.toList,r,⟨o,I.kIn a o hk,hc,n,by simpa using hs⟩,?_⟩
  have e:=r.length
  simp only [Array.length_toList] at e
  omega
theorem Inv.list_inj (I : Inv X pins σ H s) (h : SqL X.K H a xs) (h' : SqL X.K H a ys) : xs = ys:=by
 obtain ⟨its,r,⟨o,n,e,_,_,d⟩,_⟩:=I.list h
 obtain ⟨its',r',⟨o',n',e',_,_,d'⟩,_⟩:=I.list h'
 rw [e] at e'; cases e'
 rw [d] at d'
 injection d' with d1 _
 have : its = its':=by simpa using congrArg Array.toList d1
 subst this
 exact r.inj r'
theorem Inv.tuple_inj (I : Inv X pins σ H s) (h : SqT X.K H a xs) (h' : SqT X.K H a ys) : xs = ys:=by
 obtain ⟨its,r,⟨o,e,_,n,d⟩,_⟩:=I.tuple h
 obtain ⟨its',r',⟨o',e',_,n',d'⟩,_⟩:=I.tuple h'
 rw [e] at e'; cases e'
 rw [d] at d'
 injection d' with d1 _
 have : its = its':=by simpa using congrArg Array.toList d1
 subst this
 exact r.inj r'
end
abbrev Cx.wish (X : Cx) (E : Value → Shared → Prop) : Cx:={ X with xe:=E }
abbrev Cx.nox (X : Cx) : Cx:=X.wish fun _ _ => False
theorem Cx.Ok.wish {X : Cx} (ok : X.Ok) (E : Value → Shared → Prop) : (X.wish E).Ok :=
 ⟨ok.mod,ok.kind,ok.glob,ok.blt,ok.above,ok.inj,ok.has,ok.cab,ok.hd,ok.frames,ok.stk,ok.exf,ok.bs,ok.bsz,ok.noex,ok.exfs,ok.funs,ok.frf⟩
theorem Cx.Ok.unwish {X : Cx} {E : Value → Shared → Prop} (ok : (X.wish E).Ok) : X.Ok :=
 ⟨ok.mod,ok.kind,ok.glob,ok.blt,ok.above,ok.inj,ok.has,ok.cab,ok.hd,ok.frames,ok.stk,ok.exf,ok.bs,ok.bsz,ok.noex,ok.exfs,ok.funs,ok.frf⟩
section
variable {X : Cx} {pins : List (Addr × Obj)} {σ : St} {H : Hp} {s : Shared} {E : Value → Shared → Prop}
theorem Inv.wish (I : Inv X pins σ H s) (E : Value → Shared → Prop) : Inv (X.wish E) pins σ H s:=⟨I.ok.wish E,I.os,I.bare,I.base,I.loc,I.cell,I.free,I.freeC,I.pin,I.hok,I.len⟩
theorem Inv.unwish (I : Inv (X.wish E) pins σ H s) : Inv X pins σ H s:=⟨I.ok.unwish,I.os,I.bare,I.base,I.loc,I.cell,I.free,I.freeC,I.pin,I.hok,I.len⟩
theorem SP.unwish {D : Ends} {f : Flow} {s' : Shared} (h : SP (X.wish E) pins D f s') : SP X pins D f s':=by
 cases f with
 | next => obtain ⟨σ',H',I,q⟩:=h; exact ⟨σ',H',I.unwish,q⟩
 | brk => obtain ⟨σ',H',I,q⟩:=h; exact ⟨σ',H',I.unwish,q⟩
 | cont => obtain ⟨σ',H',I,q⟩:=h; exact ⟨σ',H',I.unwish,q⟩
 | ret u => obtain ⟨v,σ',H',I,r,q⟩:=h; exact ⟨v,σ',H',I.unwish,r,q⟩
theorem PSs.nox {st : List Stmt} {t : TS} (h : PSs X.nox st t) : PSs X st t:=fun pins s σ H D I hw =>
 wpAny_mono (h pins s σ H D (I.wish _) hw) (fun _ _ q => q.unwish) fun _ _ z => False.elim z
end
section
variable {X : Cx} {st : Stmt} {rest : List Stmt} {t u : TS} {e : Expr} {te : TE} {pos : Pos}
def zmn : TS:=fun D σ H => D.nx σ H
def zmo (t u : TS) : TS:=fun D σ H => t { D with nx:=u D } σ H
theorem zah : PSs X [] zmn:=fun _ _ σ H _ I h => wpAny_execs_nil ⟨σ,H,I,h⟩
theorem zd (h1 : PS X st t) (h2 : PSs X rest u) : PSs X (st :: rest) (zmo t u):=by
 intro pins s σ H D I h
 refine wpAny_execs_cons (thn (h1 pins s σ H { D with nx:=u D } I h) fun f s1 q => ?_)
 cases f with
 | next =>
  obtain ⟨σ',H',I',q⟩:=q
  exact h2 pins s1 σ' H' D I' q
 | ret v => exact q
 | brk => exact q
 | cont => exact q
theorem zn (h1 : PS X st t) : PSs X [st] t:=by
 intro pins s σ H D I h
 refine wpAny_execs_cons (thn (h1 pins s σ H D I h) fun f s1 q => ?_)
 cases f with
 | next => exact wpAny_execs_nil q
 | ret v => exact q
 | brk => exact q
 | cont => exact q
theorem Inv.quiet {pins : List (Addr × Obj)} {σ : St} {H : Hp} {s : Shared} (I : Inv X pins σ H s) : interactive X.env = false:=by simp [interactive,I.ok.kind]
def zmp (te : TE) : TS:=fun D σ H => te σ H fun _ H1 => D.nx σ H1
theorem zdp (he : PE X e te) (hs : swapsWith e none pos.line X.env = pure false:=by rfl) : PS X (.Expr e pos) (zmp te):=by
 intro pins s σ H D I h
 exact wpAny_Expr_any (thn (he pins s σ H _ I h) fun v s1 ⟨x,H1,I1,r1,q1⟩ => ⟨σ,H1,I1,q1⟩) I.quiet hs
def zm4 (te : TE) : TS:=fun D σ H => te σ H D.rt
theorem zI (he : PE X e te) : PS X (.Return (some e) pos) (zm4 te):=by
 intro pins s σ H D I h
 exact wpAny_Return_some (thn (he pins s σ H _ I h) fun v s1 ⟨x,H1,I1,r1,q1⟩ => ⟨x,σ,H1,I1,r1,q1⟩)
def zm5 (c : TT) (t u : TS) : TS:=fun D σ H => c σ H fun b H1 => if b = true then t D σ H1 else u D σ H1
theorem zaT {c : Expr} {a b : List Stmt} {tc : TT} (hc : PT X c tc) (ha : PSs X a t) (hb : PSs X b u) : PS X (.If c a b pos) (zm5 tc t u):=by
 intro pins s σ H D I h
 refine wpAny_If (thn (hc pins s σ H _ I h) fun d s1 ⟨H1,I1,q1⟩ => ?_)
 cases d with
 | true => exact ha pins s1 σ H1 D I1 q1
 | false => exact hb pins s1 σ H1 D I1 q1
def zlz : TS:=fun _ _ _ => False
theorem zhZ {sts : List Stmt} : PSs X sts zlz:=fun _ _ _ _ _ _ h => h.elim
end
abbrev TG:=V → St → Hp → (St → Hp → Prop) → Prop
abbrev TGs:=List V → St → Hp → (St → Hp → Prop) → Prop
def PG (X : Cx) (target : Expr) (t : TG) : Prop :=
 ∀ (pins : List (Addr × Obj)) (s : Shared) (σ : St) (H : Hp) (v : V) (u : Value) (Q : St → Hp → Prop),Inv X pins σ H s → RelV v u → t v σ H Q →
  wpAny (model X.prog X.w) X.A (assign target X.env u) (fun _ s' => ∃ σ' H',Inv X pins σ' H' s' ∧ Q σ' H') X.xe s
def PGs (X : Cx) (ts : List Expr) (t : TGs) : Prop :=
 ∀ (pins : List (Addr × Obj)) (s : Shared) (σ : St) (H : Hp) (vs : List V) (us : List Value) (Q : St → Hp → Prop),Inv X pins σ H s → zJ vs us → t vs σ H Q →
  wpAny (model X.prog X.w) X.A (assignInOrder ((assignEach ts X.env).map (·.2)) us) (fun _ s' => ∃ σ' H',Inv X pins σ' H' s' ∧ Q σ' H') X.xe s
abbrev zlA:=V → V → V → Hp → (Hp → Prop) → Prop
def zmq (X : Cx) (t : zlA) : Prop :=
 ∀ (pins : List (Addr × Obj)) (s : Shared) (σ : St) (H : Hp) (o i v : V) (ov iv u : Value) (Q : Hp → Prop),Inv X pins σ H s → RelV o ov → RelV i iv → RelV v u → t o i v H Q →
  wpAny (model X.prog X.w) X.A (setItem ov iv u) (fun _ s' => ∃ H',Inv X pins σ H' s' ∧ Q H') X.xe s
abbrev TIp:=V → V → Hp → VK → Prop
def PIp (X : Cx) (op : Operator) (t : TIp) : Prop :=
 ∀ (pins : List (Addr × Obj)) (s : Shared) (σ : St) (H : Hp) (x y : V) (v u : Value) (Q : VK),Inv X pins σ H s → RelV x v → RelV y u → t x y H Q →
  wpAny (model X.prog X.w) X.A (inplaceOp op v u) (EP X pins σ Q) X.xe s
section
variable {X : Cx} {pos : Pos}
def zaC (i : Nat) : TG:=fun v σ H Q => Q (σ.set i (some v)) H
theorem zh {i : Nat} {x : Str} (hN : X.N.Nodup) (hi : X.N[i]? = some x) (hx : Loc X.env.scope x) (hf : X.fn x = true ∨ X.env.scope.names.lookup x = some .local:=by first | exact .inl rfl | exact .inr rfl | assumption) : PG X (.Name x pos) (zaC i):=by
 intro pins s σ H v u Q I r h
 exact wpAny_assign_Name (zdG I hN hi hx r (fun s' I' => ⟨_,H,I',h⟩) hf)
def zh0 : TGs:=fun vs σ H Q => vs = [] ∧ Q σ H
def zcn (t : TG) (u : TGs) : TGs:=fun vs σ H Q => ∃ v r,vs = v :: r ∧ t v σ H fun σ' H' => u r σ' H' Q
theorem zO : PGs X [] zh0:=by
 intro pins s σ H vs us Q I r h
 obtain ⟨e,h⟩:=h
 subst e
 cases r
 exact assignInOrder_nil ⟨σ,H,I,h⟩
theorem zl {e : Expr} {es : List Expr} {t : TG} {u : TGs} (h1 : PG X e t) (h2 : PGs X es u)
  (hs : (assignEach (e :: es) X.env).map (·.2) = assign e X.env :: (assignEach es X.env).map (·.2):=by rfl) : PGs X (e :: es) (zcn t u):=by
 intro pins s σ H vs us Q I r h
 obtain ⟨v,vr,e1,h⟩:=h
 subst e1
 cases r with
 | cons r rr =>
  rw [hs]
  refine assignInOrder_cons (thn (h1 pins s σ H _ _ _ I r h) fun _ s1 ⟨σ1,H1,I1,q1⟩ => ?_)
  exact h2 pins s1 σ1 H1 _ _ Q I1 rr q1
def zgu (K : PySem.W.Frag) (n : Nat) (t : TGs) : TG:=fun v σ H Q => ∃ a xs,v = .ref a ∧ SqT K H a xs ∧ xs.length = n ∧ t xs σ H Q
theorem zaw {es : List Expr} {k : Nat} {t : TGs} {n : Nat} (hc : X.calm = true) (h : PGs X es t)
  (hn : (assignEach es X.env).length = n:=by rfl) (hst : (assignEach es X.env).findIdx? (·.1) = none:=by rfl) : PG X (.Tuple es k pos) (zgu X.K n t):=by
 intro pins s σ H v u Q I r hw
 obtain ⟨a,xs,e1,hq,hl,hw⟩:=hw
 subst e1
 cases r
 obtain ⟨its,rv,ht,hz⟩:=I.tuple hq
 refine assign_Tuple_tuple (I.ok.hd hc) ht (by simp [hn,← hl,rv.length]) hst fun h' hx => ?_
 have I1 : Inv X pins σ H { s with heap:=h' }:=I.kept (t':=s.toks) fun b o e => hx b o (Nat.ne_of_lt (Heap.lt_size e)) e
 exact h pins _ σ H xs _ Q I1 (by simpa using rv) hw
def zm6 (to ti : TE) (t : zlA) : TG:=fun v σ H Q => to σ H fun o H1 => ti σ H1 fun i H2 => t o i v H2 fun H3 => Q σ H3
theorem ze1 {o i : Expr} {to ti : TE} {t : zlA} (ho : PE X o to) (hi : PE X i ti) (hs : zmq X t)
  (ha : ∀ v,assign (.Subscript o i pos) X.env v = (do
   let ov ← holding [v] (eval o X.env)
   let iv ← holding [v,ov] (eval i X.env)
   standAt pos
   holding [v,ov,iv] (setItem ov iv v)
   release [v,ov,iv] []):=by intro _; rfl) : PG X (.Subscript o i pos) (zm6 to ti t):=by
 intro pins s σ H v u Q I r h
 rw [ha]
 refine wpAny_bind (wpAny_holding (thn (ho pins s σ H _ I h) fun ov s1 ⟨x,H1,I1,r1,q1⟩ => ?_))
 refine wpAny_bind (wpAny_holding (thn (hi pins s1 σ H1 _ I1 q1) fun iv s2 ⟨y,H2,I2,r2,q2⟩ => ?_))
 refine wpAny_bind (wpAny_standAt (wpAny_bind (wpAny_holding (thn (hs pins s2 σ H2 x y v ov iv u _ I2 r1 r2 r q2) fun _ s3 ⟨H3,I3,q3⟩ => ?_))))
 exact wpAny_release ⟨σ,H3,I3,q3⟩
def zgv (te : TE) (g : TG) : TS:=fun D σ H => te σ H fun x H1 => g x σ H1 D.nx
theorem zax {tg e : Expr} {te : TE} {g : TG} (he : PE X e te) (hg : PG X tg g) (hs : swapsWithSole [tg] e pos.line X.env = pure false:=by rfl) (hw : swappedStores [tg] e X.env = pure none:=by rfl)
  (h1 : (assignEach [tg] X.env).map (·.2) = [assign tg X.env]:=by rfl) : PS X (.Assign [tg] e pos) (zgv te g):=by
 intro pins s σ H D I h
 refine wpAny_Assign_stores (thn (he pins s σ H _ I h) fun v s1 ⟨x,H1,I1,r1,q1⟩ => ?_) hs hw
 rw [h1]
 exact thn (hg pins s1 σ H1 x v _ I1 r1 q1) fun _ s2 q => q
theorem zp {i : Nat} {x : Str} {e : Expr} {te : TE} {pos' : Pos} (hN : X.N.Nodup) (hi : X.N[i]? = some x) (hx : Loc X.env.scope x) (he : PE X e te) (hs : swapsWith e (some (.Name x pos')) pos.line X.env = pure false:=by rfl) (hf : X.fn x = true ∨ X.env.scope.names.lookup x = some .local:=by first | exact .inl rfl | exact .inr rfl | assumption) :
  PS X (.Assign [.Name x pos'] e pos) (zgv te (zaC i)):=by
 intro pins s σ H D I h
 refine wpAny_Assign_Name (thn (he pins s σ H _ I h) fun v s1 ⟨y,H1,I1,r1,q1⟩ => ?_) hs
 exact zdG I1 hN hi hx r1 (fun s2 I2 => ⟨_,H1,I2,q1⟩) hf
def zm7 (i : Nat) (te : TE) (ti : TIp) : TS:=fun D σ H => ∃ x,σ[i]? = some (some x) ∧ te σ H fun y H1 => ti x y H1 fun z H2 => D.nx (σ.set i (some z)) H2
theorem ziQ {i : Nat} {x : Str} {e : Expr} {te : TE} {op : Operator} {ti : TIp} {pos' : Pos} (hN : X.N.Nodup) (hi : X.N[i]? = some x) (hx : Loc X.env.scope x) (he : PE X e te) (ho : PIp X op ti) (hf : X.fn x = true ∨ X.env.scope.names.lookup x = some .local:=by first | exact .inl rfl | exact .inr rfl | assumption) :
  PS X (.AugAssign (.Name x pos') op e pos) (zm7 i te ti):=by
 intro pins s σ H D I h
 obtain ⟨v,e1,h⟩:=h
 obtain ⟨m,hn,hl⟩:=I.loc
 have vis : Vis X.env.scope x:=by rcases hx with k | k; exact .inl k; exact .inr (.inl k)
 obtain ⟨u,r,l⟩:=hl i x v hi e1 vis
 refine wpAny_AugAssign_Name ?_
 have go : wpAny (model X.prog X.w) X.A (eval e X.env) (fun w s₂ => wpAny (model X.prog X.w) X.A (inplaceOp op u w) (fun r s₃ => wpAny (model X.prog X.w) X.A (storeName X.env x r) (fun _ => SP X pins D .next) X.xe s₃) X.xe s₂) X.xe s:=by
  refine thn (he pins s σ H _ I h) fun w s1 ⟨y,H1,I1,r1,q1⟩ => ?_
  refine thn (ho pins s1 σ H1 v y u w _ I1 r r1 q1) fun z s2 ⟨zv,H2,I2,r2,q2⟩ => ?_
  exact zdG I2 hN hi hx r2 (fun s3 I3 => ⟨_,H2,I3,q2⟩) hf
 rcases l with ⟨hk,hm⟩ | ⟨hk,c,hc,hcell⟩
 ·exact wpAny_loadName_local I.ok.kind hk hn hm go
 ·rcases hk with hk | hk
  ·exact wpAny_loadName_cell I.ok.kind hk hc hcell go
  ·rcases hx with k | k
   ·have : X.env.scope.names.lookup x = some .free:=hk
    rw [k] at this; cases this
   ·have : X.env.scope.names.lookup x = some .free:=hk
    rw [k] at this; cases this
end
section
variable {X : Cx} {pos : Pos}
def ziR (c : TT) (tb : TS) : TS:=fun D σ H => ∃ W : Nat → St → Hp → Prop,(∃ m,W m σ H) ∧ ∀ m σ H,W m σ H →
 c σ H fun b H1 => if b = true then ∃ N : St → Hp → Prop,(∀ σ' H',N σ' H' → ∃ m',m' < m ∧ W m' σ' H') ∧ tb { D with nx:=N,ct:=N,bk:=D.nx } σ H1 else D.nx σ H1
theorem zfG {c : Expr} {body : List Stmt} {tc : TT} {tb : TS} (hp : PassesOwn (model X.prog X.w) X.A X.env X.xe) (hc : PT X c tc) (hb : PSs X body tb) : PS X (.While c body [] pos) (ziR tc tb):=by
 intro pins s σ H D I h
 obtain ⟨W,⟨m0,w0⟩,turn⟩:=h
 refine wpAny_While (codeAny_whileLoop (fun n s' => ∃ σ' H',Inv X pins σ' H' s' ∧ W n σ' H') ?_ m0 ⟨σ,H,I,w0⟩)
 rintro n s1 ⟨σ1,H1,I1,w1⟩
 refine wpAny_passesOwn hp (thn (hc pins s1 σ1 H1 _ I1 (turn n σ1 H1 w1)) fun b s2 ⟨H2,I2,q2⟩ => ?_)
 cases b with
 | true =>
  obtain ⟨N,hN,q2⟩:=q2
  rw [if_pos rfl]
  refine wpAny_passesOwn hp (thn (hb pins s2 σ1 H2 _ I2 q2) fun f s3 q3 => ?_)
  cases f with
  | next =>
   obtain ⟨σ3,H3,I3,n3⟩:=q3
   obtain ⟨m',hm,w3⟩:=hN σ3 H3 n3
   exact ⟨m',hm,σ3,H3,I3,w3⟩
  | cont =>
   obtain ⟨σ3,H3,I3,n3⟩:=q3
   obtain ⟨m',hm,w3⟩:=hN σ3 H3 n3
   exact ⟨m',hm,σ3,H3,I3,w3⟩
  | brk => exact q3
  | ret v => exact q3
 | false =>
  rw [if_neg Bool.false_ne_true]
  exact wpAny_execs_nil ⟨σ1,H2,I2,q2⟩
end
structure It where
 go : Nat → Hp → Prop
 yld : Nat → Hp → V → Hp → Prop
 stop : Nat → Hp → Prop
def zbW (X : Cx) (pins : List (Addr × Obj)) (H : Hp) (b : Addr) : Prop :=
 H b = none ∧ b ≠ X.env.locals ∧ b ∉ X.fs ∧ (b ∈ X.ex ∨ X.s₀.heap.objs.size ≤ b) ∧ (∀ x c,X.env.cells.lookup x = some c → c ≠ b) ∧ ∀ p ∈ X.pn ++ pins,p.1 ≠ b
theorem Inv.fpOk {X : Cx} {pins : List (Addr × Obj)} {σ : St} {H H' : Hp} {s : Shared} {b : Addr} (I : Inv X pins σ H s) (hb : s.heap.objs.size ≤ b) (hn : H' b = none) : zbW X pins H' b:=by
 refine ⟨hn,Nat.ne_of_gt (Nat.lt_of_lt_of_le I.lt hb),I.nofs hb,.inr (Nat.le_trans I.sz hb),fun x c e z => ?_,fun p hp z => ?_⟩
 ·obtain ⟨v,q⟩:=I.cell x c e
  exact absurd (Nat.lt_of_lt_of_le q.lt (by rw [z]; exact hb)) (Nat.lt_irrefl _)
 ·exact absurd (Nat.lt_of_lt_of_le (Heap.lt_size (I.pin p hp).1) (by rw [z]; exact hb)) (Nat.lt_irrefl _)
structure Turn (P : Program) (w : World) (K : PySem.W.Frag) (tg : Expr) (J : It) (fp : List Addr) (it : Addr) (tn : Nat → Heap → Prop) : Prop where
 mem : it ∈ fp
 obj : ∀ i h,tn i h → ∀ b ∈ fp,∃ o,h.get? b = some o ∧ ∀ v,o.data ≠ .cell v
 keep : ∀ i h h',tn i h → (∀ b ∈ fp,∀ o,h.get? b = some o → h'.get? b = some o) → tn i h'
 item : ∀ (X : Cx),X.prog = P → X.w = w → X.K = K → X.calm = true → ∀ (i : Nat) (pins : List (Addr × Obj)) (s : Shared) (σ : St) (H : Hp) (E : Value → Shared → Prop),Inv X pins σ H s → (∀ b ∈ fp,zbW X pins H b) → tn i s.heap → J.go i H →
  wpAny (model P w) X.A (pyNext (.ref it)) (fun r s1 => ∃ u,r = some u ∧
   wpAny (model P w) X.A (letOwnedTupleGo tg (.ref it) u) (fun _ s2 => ∃ x H',Inv X pins σ H' s2 ∧ RelV x u ∧ J.yld i H x H' ∧ tn (i + 1) s2.heap ∧ ∀ b ∈ fp,H' b = none) E s1) E s
 done : ∀ (X : Cx),X.prog = P → X.w = w → X.K = K → X.calm = true → ∀ (i : Nat) (pins : List (Addr × Obj)) (s : Shared) (σ : St) (H : Hp) (E : Value → Shared → Prop),Inv X pins σ H s → (∀ b ∈ fp,zbW X pins H b) → tn i s.heap → J.stop i H →
  wpAny (model P w) X.A (pyNext (.ref it)) (fun r s1 => r = none ∧ Inv X pins σ H s1) E s
 self : ∀ (A : Around) (i : Nat) (s : Shared) (Q : Value → Shared → Prop) (E : Value → Shared → Prop),tn i s.heap → Q (.ref it) s → wpAny (model P w) A (pyIter (.ref it)) Q E s
abbrev TI:=St → Hp → (It → Hp → Prop) → Prop
def PIE (X : Cx) (pins : List (Addr × Obj)) (σ : St) (tg : Expr) (R : It → Hp → Prop) (itv : Value) (s2 : Shared) : Prop :=
 ∃ (it : Addr) (fp : List Addr) (tn : Nat → Heap → Prop) (J : It) (H' : Hp),itv = .ref it ∧ Inv X pins σ H' s2 ∧ Turn X.prog X.w X.K tg J fp it tn ∧ tn 0 s2.heap ∧ (∀ b ∈ fp,zbW X pins H' b) ∧ R J H'
def PI (X : Cx) (tg iter : Expr) (wi : TI) : Prop :=
 ∀ (pins : List (Addr × Obj)) (s : Shared) (σ : St) (H : Hp) (R : It → Hp → Prop),Inv X pins σ H s → wi σ H R →
  wpAny (model X.prog X.w) X.A (eval iter X.env) (fun v s1 => wpAny (model X.prog X.w) X.A (pyIter v) (PIE X pins σ tg R) X.xe s1) X.xe s
theorem zfH {M : Model} {A : Around} {E : Value → Shared → Prop} {s : Shared} {tg : Expr} {it : Addr} {u : Value} {o : Obj} {n : String} {vs : Array Value} {Q : Unit → Shared → Prop} (ho : s.heap.get? it = some o) (hc : o.cls = .type n) (hd : o.data = .fields vs)
  (hn : ["enumerate","zip","dict_itemiterator","dict_reverseitemiterator","odict_iterator","itertools.zip_longest","itertools.pairwise"].contains n = false) (hQ : Q () s) : wpAny M A (letOwnedTupleGo tg (.ref it) u) Q E s:=by
 unfold letOwnedTupleGo
 cases tg <;> first
  | exact wpAny_pure hQ
  | (cases u <;> first
    | exact wpAny_pure hQ
    | (refine wpAny_bind (wpAny_load ho ?_)
       rw [hc,hd]
       show wpAny M A (if (["enumerate","zip","dict_itemiterator","dict_reverseitemiterator","odict_iterator","itertools.zip_longest","itertools.pairwise"].contains n && vs[0]? == some (rawInt _)) = true then _ else _) Q E s
       rw [if_neg (by intro h; rw [hn,Bool.false_and] at h; cases h)]
       exact wpAny_pure hQ))
def Itl (K : PySem.W.Frag) (a : Addr) : It :=
 ⟨fun i H => ∃ xs x,SqL K H a xs ∧ xs[i]? = some x,fun i H x H' => H' = H ∧ ∀ xs,SqL K H a xs → xs[i]? = some x,fun i H => ∃ xs,SqL K H a xs ∧ xs.length ≤ i⟩
def Itt (K : PySem.W.Frag) (a : Addr) : It :=
 ⟨fun i H => ∃ xs x,SqT K H a xs ∧ xs[i]? = some x,fun i H x H' => H' = H ∧ ∀ xs,SqT K H a xs → xs[i]? = some x,fun i H => ∃ xs,SqT K H a xs ∧ xs.length ≤ i⟩
def Itr (lo : Int) (n : Nat) : It:=⟨fun i _ => i < n,fun i H x H' => H' = H ∧ x = .int (lo + i),fun i _ => n ≤ i⟩
theorem zew {P : Program} {w : World} {K : PySem.W.Frag} {tg : Expr} (a it : Addr) : Turn P w K tg (Itl K a) [it] it (fun i h => h.IsListIter it a i) where
 mem:=by simp
 obj:=fun i h st b hb => by
  have e : b = it:=by simpa using hb
  subst e
  obtain ⟨o,e,c,d⟩:=st
  exact ⟨o,e,fun v z => by rw [d] at z; cases z⟩
 keep:=fun i h h' st k => st.at fun o e => k it (by simp) o e
 item:=by
  intro X hP hw hK hc i pins s σ H E I hf st hg
  subst hP hw hK
  obtain ⟨xs,x,hq,hx⟩:=hg
  obtain ⟨its,rv,p,hz⟩:=I.list hq
  obtain ⟨u,hu,ru⟩:=rv.get hx
  obtain ⟨f0,f1,f2,f3,f4,f5⟩:=hf it (by simp)
  refine wpAny_pyNext_list_item st p.isList (x:=u) (by simpa using hu) fun h' st' sb => ?_
  have I1 : Inv X pins σ H { s with heap:=h' }:=I.turned (t':=s.toks) (fun b o hb e => (sb.2 b hb).trans e) f0 f1 f3 f4 f5
  obtain ⟨o,e,c,d⟩:=id st'
  exact ⟨u,rfl,zfH (s:={ s with heap:=h' }) e c d (by decide) ⟨x,H,I1,ru,⟨rfl,fun ys hy => by rw [I.list_inj hy hq]; exact hx⟩,st',fun b hb => (hf b hb).1⟩⟩
 done:=by
  intro X hP hw hK hc i pins s σ H E I hf st hg
  subst hP hw hK
  obtain ⟨xs,hq,hx⟩:=hg
  obtain ⟨its,rv,p,hz⟩:=I.list hq
  obtain ⟨f0,f1,f2,f3,f4,f5⟩:=hf it (by simp)
  have hl:=rv.length
  exact wpAny_pyNext_list_end (I.ok.hd hc) st p.isList (by simp; omega) fun h' eb => ⟨rfl,I.turned (t':=s.toks) (fun b o hb e => eb b o hb e) f0 f1 f3 f4 f5⟩
 self:=fun _ _ _ _ _ st h => wpAny_pyIter_listiter st h
theorem zdH {P : Program} {w : World} {K : PySem.W.Frag} {tg : Expr} (a it : Addr) : Turn P w K tg (Itt K a) [it] it (fun i h => h.IsTupleIter it a i) where
 mem:=by simp
 obj:=fun i h st b hb => by
  have e : b = it:=by simpa using hb
  subst e
  obtain ⟨o,e,c,d⟩:=st
  exact ⟨o,e,fun v z => by rw [d] at z; cases z⟩
 keep:=fun i h h' st k => st.at fun o e => k it (by simp) o e
 item:=by
  intro X hP hw hK hc i pins s σ H E I hf st hg
  subst hP hw hK
  obtain ⟨xs,x,hq,hx⟩:=hg
  obtain ⟨its,rv,p,hz⟩:=I.tuple hq
  obtain ⟨u,hu,ru⟩:=rv.get hx
  obtain ⟨f0,f1,f2,f3,f4,f5⟩:=hf it (by simp)
  refine wpAny_pyNext_tuple_item st (show s.heap.IsTuple a its.toArray from p) (x:=u) (by simpa using hu) fun h' st' sb => ?_
  have I1 : Inv X pins σ H { s with heap:=h' }:=I.turned (t':=s.toks) (fun b o hb e => (sb.2 b hb).trans e) f0 f1 f3 f4 f5
  obtain ⟨o,e,c,d⟩:=id st'
  exact ⟨u,rfl,zfH (s:={ s with heap:=h' }) e c d (by decide) ⟨x,H,I1,ru,⟨rfl,fun ys hy => by rw [I.tuple_inj hy hq]; exact hx⟩,st',fun b hb => (hf b hb).1⟩⟩
 done:=by
  intro X hP hw hK hc i pins s σ H E I hf st hg
  subst hP hw hK
  obtain ⟨xs,hq,hx⟩:=hg
  obtain ⟨its,rv,p,hz⟩:=I.tuple hq
  obtain ⟨f0,f1,f2,f3,f4,f5⟩:=hf it (by simp)
  have hl:=rv.length
  exact wpAny_pyNext_tuple_end (I.ok.hd hc) st (show s.heap.IsTuple a its.toArray from p) (by simp; omega) fun h' eb => ⟨rfl,I.turned (t':=s.toks) (fun b o hb e => eb b o hb e) f0 f1 f3 f4 f5⟩
 self:=fun _ _ _ _ _ st h => wpAny_pyIter_tupleiter st h
theorem zgw {P : Program} {w : World} {K : PySem.W.Frag} {tg : Expr} (it : Addr) (lo : Int) (n : Nat) : Turn P w K tg (Itr lo n) [it] it (fun i h => IsRangeIter h it (lo + (i : Nat) * 1) ((n : Int) - (i : Nat)) 1) where
 mem:=by simp
 obj:=fun i h st b hb => by
  have e : b = it:=by simpa using hb
  subst e
  exact ⟨_,st,fun v z => by
   have z' : Data.fields _ = Data.cell v:=z
   cases z'⟩
 keep:=fun i h h' st k => k it (by simp) _ st
 item:=by
  intro X hP hw hK hc i pins s σ H E I hf st hg
  subst hP hw hK
  obtain ⟨f0,f1,f2,f3,f4,f5⟩:=hf it (by simp)
  have W:=Walks.range (prog:=X.prog) (w:=X.w) (I.ok.hd hc) it lo 1 n
  refine W.item i s _ _ hg st fun v h' tk hv st' kk => ?_
  obtain ⟨t,rfl⟩:=hv
  have I1 : Inv X pins σ H { s with heap:=h',toks:=tk }:=I.turned (fun b o hb e => kk b o (by simpa using hb) e) f0 f1 f3 f4 f5
  refine ⟨_,rfl,zfH (s:={ s with heap:=h',toks:=tk }) (n:="range_iterator") st' rfl rfl (by decide) ⟨.int (lo + i),H,I1,⟨t,?_⟩,⟨rfl,rfl⟩,st',fun b hb => (hf b hb).1⟩⟩
  rw [Int.mul_one]
 done:=by
  intro X hP hw hK hc i pins s σ H E I hf st hg
  subst hP hw hK
  obtain ⟨f0,f1,f2,f3,f4,f5⟩:=hf it (by simp)
  exact wpAny_pyNext_range_end (I.ok.hd hc) st (by have : n ≤ i:=hg; omega) fun h' eb => ⟨rfl,I.turned (t':=s.toks) (fun b o hb e => eb b o hb e) f0 f1 f3 f4 f5⟩
 self:=fun _ _ _ _ _ st h => wpAny_pyIter_rangeiter st h
end L2
namespace L2
open PySem PySem.Spec PyProof.Rows
section
variable {X : Cx} {tg : Expr}
def zmr (K : PySem.W.Frag) (tl : TE) : TI:=fun σ H R => tl σ H fun x H1 => ∃ a,x = .ref a ∧ (∃ xs,SqL K H1 a xs) ∧ R (Itl K a) H1
def zms (K : PySem.W.Frag) (tl : TE) : TI:=fun σ H R => tl σ H fun x H1 => ∃ a,x = .ref a ∧ (∃ xs,SqT K H1 a xs) ∧ R (Itt K a) H1
theorem zai {l : Expr} {tl : TE} (hl : PE X l tl) : PI X tg l (zmr X.K tl):=by
 intro pins s σ H R I h
 refine thn (hl pins s σ H _ I h) fun v s1 ⟨x,H1,I1,r1,q1⟩ => ?_
 obtain ⟨a,e,⟨xs,hq⟩,q⟩:=q1
 subst e
 cases r1
 obtain ⟨its,rv,p,hz⟩:=I1.list hq
 refine wpAny_pyIter_list p.isList ?_
 refine ⟨s1.heap.objs.size,[s1.heap.objs.size],_,_,H1,rfl,I1.kept (t':=s1.toks) fun b o e => Heap.get?_push_of_some _ e,zew a _,⟨_,Heap.get?_push_size _ rfl,rfl,rfl⟩,fun b hb => ?_,q⟩
 have e : b = s1.heap.objs.size:=by simpa using hb
 subst e
 exact I1.fpOk (Nat.le_refl _) (I1.hok.fresh (Nat.le_refl _))
theorem ziS {l : Expr} {tl : TE} (hl : PE X l tl) : PI X tg l (zms X.K tl):=by
 intro pins s σ H R I h
 refine thn (hl pins s σ H _ I h) fun v s1 ⟨x,H1,I1,r1,q1⟩ => ?_
 obtain ⟨a,e,⟨xs,hq⟩,q⟩:=q1
 subst e
 cases r1
 obtain ⟨its,rv,p,hz⟩:=I1.tuple hq
 refine wpAny_pyIter_tuple (show s1.heap.IsTuple a its.toArray from p) ?_
 refine ⟨s1.heap.objs.size,[s1.heap.objs.size],_,_,H1,rfl,I1.kept (t':=s1.toks) fun b o e => Heap.get?_push_of_some _ e,zdH a _,⟨_,Heap.get?_push_size _ rfl,rfl,rfl⟩,fun b hb => ?_,q⟩
 have e : b = s1.heap.objs.size:=by simpa using hb
 subst e
 exact I1.fpOk (Nat.le_refl _) (I1.hok.fresh (Nat.le_refl _))
theorem zfI {pins : List (Addr × Obj)} {σ : St} {H : Hp} {s : Shared} {R : It → Hp → Prop} {E : Value → Shared → Prop} {lo hi : Int} {t u v : Tok} {tk : Nat} (I : Inv X pins σ H s) (h1 : -(2 ^ 62) ≤ lo) (h2 : lo < 2 ^ 62) (h3 : -(2 ^ 62) ≤ hi) (h4 : hi < 2 ^ 62)
  (q : R (Itr lo (hi - lo).toNat) H) : wpAny (model X.prog X.w) X.A (pyIter (.ref s.heap.objs.size)) (PIE X pins σ tg R) E { s with heap:=s.heap.push { cls:=.type "range",data:=.fields #[.int lo t,.int hi u,.int 1 v] },toks:=tk }:=by
 refine wpAny_pyIter_range (IsRange.new ..) (small_one h1 h2 h3 h4) ?_
 have I1 : Inv X pins σ H { s with heap:=s.heap.push { cls:=.type "range",data:=.fields #[.int lo t,.int hi u,.int 1 v] },toks:=tk }:=I.kept fun b o e => Heap.get?_push_of_some _ e
 refine ⟨(s.heap.push { cls:=.type "range",data:=.fields #[.int lo t,.int hi u,.int 1 v] }).objs.size,[(s.heap.push { cls:=.type "range",data:=.fields #[.int lo t,.int hi u,.int 1 v] }).objs.size],_,_,H,rfl,
  I1.kept (t':=tk) fun b o e => Heap.get?_push_of_some _ e,zgw _ lo (hi - lo).toNat,?_,fun b hb => ?_,q⟩
 ·have e1 : lo + ((0 : Nat) : Int) * 1 = lo:=by simp
  have e2 : (((hi - lo).toNat : Nat) : Int) - ((0 : Nat) : Int) = Builtin.Range.rangeSize lo hi 1:=by rw [rangeSize_one]; split <;> omega
  show IsRangeIter _ _ (lo + ((0 : Nat) : Int) * 1) ((((hi - lo).toNat : Nat) : Int) - ((0 : Nat) : Int)) 1
  rw [e1,e2]
  exact Heap.get?_push_size _ rfl
 ·have e : b = (s.heap.push { cls:=.type "range",data:=.fields #[.int lo t,.int hi u,.int 1 v] }).objs.size:=by simpa using hb
  subst e
  exact I1.fpOk (Nat.le_refl _) (I1.hok.fresh (Nat.le_refl _))
def zmt (ta : TA) : TI:=fun σ H R => ta σ H fun vs H1 => ∃ j : Int,vs = [.int j] ∧ -(2 ^ 62) ≤ j ∧ j < 2 ^ 62 ∧ R (Itr 0 j.toNat) H1
def zmu (ta : TA) : TI:=fun σ H R => ta σ H fun vs H1 => ∃ i j : Int,vs = [.int i,.int j] ∧ (-(2 ^ 62) ≤ i ∧ i < 2 ^ 62 ∧ -(2 ^ 62) ≤ j ∧ j < 2 ^ 62) ∧ R (Itr i (j - i).toNat) H1
theorem zaf {a : Expr} {ta : TA} {p pos : Pos} (hg : Gl X "range") (hm : X.mg "range" = none) (ha : PA X [a] ta) (hs : starEach [a] X.env = [(false,eval a X.env)]:=by rfl) : PI X tg (.Call (.Name "range" p) [a] [] pos) (zmt ta):=by
 intro pins s σ H R I h
 refine Call_ (zbh I hg hm boot_range (PyProof.Rows.callWith_type1 (thn (ha pos pins s σ H _ I h) fun us s1 ⟨vs,H1,I1,r1,q1⟩ => ?_) hs rfl))
 obtain ⟨j,e,q1,q2,q⟩:=q1
 subst e
 cases r1 with
 | cons r rr =>
  cases rr
  obtain ⟨t,rfl⟩:=r
  exact call_range_1 (zfI I1 (by omega) (by omega) q1 q2 (by simpa using q))
theorem zh1 {a b : Expr} {ta : TA} {p pos : Pos} (hg : Gl X "range") (hm : X.mg "range" = none) (ha : PA X [a,b] ta) (hs : starEach [a,b] X.env = [(false,eval a X.env),(false,eval b X.env)]:=by rfl) (hs2 : starEach [b] X.env = [(false,eval b X.env)]:=by rfl) :
  PI X tg (.Call (.Name "range" p) [a,b] [] pos) (zmu ta):=by
 intro pins s σ H R I h
 refine Call_ (zbh I hg hm boot_range (PyProof.Rows.callWith_type1 (thn (ha pos pins s σ H _ I h) fun us s1 ⟨vs,H1,I1,r1,q1⟩ => ?_) (by rw [hs,hs2]) (by rw [hs2]; rfl)))
 obtain ⟨i,j,e,⟨q1,q2,q3,q4⟩,q⟩:=q1
 subst e
 cases r1 with
 | cons r rr =>
  cases rr with
  | cons r' rr =>
   cases rr
   obtain ⟨t,rfl⟩:=r
   obtain ⟨t',rfl⟩:=r'
   exact call_range_2 (zfI I1 q1 q2 q3 q4 q)
def zm8 (wi : TI) (g : TG) (tb : TS) : TS:=fun D σ H => wi σ H fun J H1 => ∃ W : Nat → Nat → St → Hp → Prop,(∃ m,W 0 m σ H1) ∧ ∀ i m σ H,W i m σ H →
 (J.stop i H ∧ D.nx σ H) ∨ (J.go i H ∧ ∃ N : St → Hp → Prop,(∀ σ' H',N σ' H' → ∃ m',m' < m ∧ W (i + 1) m' σ' H') ∧ ∀ x H',J.yld i H x H' → g x σ H' fun σ2 H2 => tb { D with nx:=N,ct:=N,bk:=D.nx } σ2 H2)
def zbX (fp : List Addr) (h : Heap) : List (Addr × Obj):=fp.filterMap fun b => (h.get? b).map fun o => (b,o)
theorem zbB {fp : List Addr} {h : Heap} {b : Addr} {o : Obj} (hb : b ∈ fp) (e : h.get? b = some o) : (b,o) ∈ zbX fp h:=List.mem_filterMap.mpr ⟨b,hb,by rw [e]; rfl⟩
theorem zex {fp : List Addr} {h : Heap} {p : Addr × Obj} (hp : p ∈ zbX fp h) : p.1 ∈ fp ∧ h.get? p.1 = some p.2:=by
 obtain ⟨b,hb,e⟩:=List.mem_filterMap.mp hp
 cases q : h.get? b with
 | none => rw [q] at e; cases e
 | some o =>
  rw [q] at e
  have e' : (b,o) = p:=Option.some.inj e
  subst e'
  exact ⟨hb,q⟩
theorem Inv.pinned {pins : List (Addr × Obj)} {σ : St} {H : Hp} {s : Shared} {fp : List Addr} (I : Inv X pins σ H s) (hf : ∀ b ∈ fp,zbW X pins H b) (ho : ∀ b ∈ fp,∃ o,s.heap.get? b = some o ∧ ∀ v,o.data ≠ .cell v) : Inv X (pins ++ zbX fp s.heap) σ H s :=
 I.pins_of fun p hp => (List.mem_append.mp hp).elim (fun z => I.pin p (List.mem_append_right _ z)) fun z => by
  obtain ⟨hb,e⟩:=zex z
  obtain ⟨f0,f1,f2,_⟩:=hf p.1 hb
  obtain ⟨o,e',d⟩:=ho p.1 hb
  rw [e] at e'; cases e'
  exact ⟨e,f0,f1,f2,d⟩
theorem Inv.unpinned {pins pl : List (Addr × Obj)} {σ : St} {H : Hp} {s : Shared} (I : Inv X (pins ++ pl) σ H s) : Inv X pins σ H s:=I.pins_of fun p hp => I.pin p (List.mem_append_right _ (List.mem_append_left _ hp))
theorem zaP {iter : Expr} {body : List Stmt} {wi : TI} {g : TG} {tb : TS} {pos : Pos} (hp : PassesOwn (model X.prog X.w) X.A X.env X.xe) (hc : X.calm = true) (hi : PI X tg iter wi) (hg : PG X tg g) (hb : PSs X body tb)
  (hs : ∀ x,foldedSetIterable iter X.env x = pure x:=by intro _; rfl) : PS X (.For tg iter body [] pos) (zm8 wi g tb):=by
 intro pins s σ H D I h
 refine wpAny_For (thn (hi pins s σ H _ I h) fun v s1 h1 => thn h1 fun itv s2 h2 => ?_) hs
 obtain ⟨it,fp,tn,J,H2,e,I2,T,st2,f2,W,⟨m0,w0⟩,turn⟩:=h2
 subst e
 have stat : ∀ {H' : Hp},(∀ b ∈ fp,H' b = none) → ∀ b ∈ fp,zbW X pins H' b:=fun hn b hb => ⟨hn b hb,(f2 b hb).2⟩
 refine codeAny_forLoop_any (fun n s' => ∃ i σ' H',Inv X pins σ' H' s' ∧ tn i s'.heap ∧ (∀ b ∈ fp,H' b = none) ∧ W i n σ' H') ?_ m0 ⟨0,σ,H2,I2,st2,fun b hb => (f2 b hb).1,w0⟩
 rintro n s3 ⟨i,σ3,H3,I3,st3,fr3,w3⟩
 rcases turn i n σ3 H3 w3 with ⟨stop,qn⟩ | ⟨go,N,hN,step⟩
 ·refine wpAny_passesOwn hp (thn (T.done X rfl rfl rfl hc i pins s3 σ3 H3 X.xe I3 (stat fr3) st3 stop) fun r s4 ⟨hr,I4⟩ => ?_)
  subst hr
  exact wpAny_execs_nil ⟨σ3,H3,I4,qn⟩
 ·refine wpAny_passesOwn hp (thn (T.item X rfl rfl rfl hc i pins s3 σ3 H3 X.xe I3 (stat fr3) st3 go) fun r s4 ⟨u,hr,h4⟩ => ?_)
  subst hr
  refine wpAny_passesOwn hp (thn h4 fun _ s5 ⟨x,H5,I5,r5,y5,st5,fr5⟩ => ?_)
  have I5':=I5.pinned (stat fr5) (T.obj _ _ st5)
  refine wpAny_passesOwn hp (thn (hg _ s5 σ3 H5 x u _ I5' r5 (step x H5 y5)) fun _ s6 ⟨σ6,H6,I6,q6⟩ => ?_)
  refine wpAny_passesOwn hp (thn (hb _ s6 σ6 H6 _ I6 q6) fun f s7 q7 => ?_)
  have again : ∀ {σ7 : St} {H7 : Hp},Inv X (pins ++ zbX fp s5.heap) σ7 H7 s7 → N σ7 H7 → ∃ m,m < n ∧ ∃ i σ' H',Inv X pins σ' H' s7 ∧ tn i s7.heap ∧ (∀ b ∈ fp,H' b = none) ∧ W i m σ' H':=fun {σ7 H7} I7 n7 => by
   obtain ⟨m',hm,w7⟩:=hN σ7 H7 n7
   refine ⟨m',hm,i + 1,σ7,H7,I7.unpinned,T.keep _ _ _ st5 fun b hb o e => (I7.pin (b,o) (List.mem_append_right _ (List.mem_append_right _ (zbB hb e)))).1,fun b hb => ?_,w7⟩
   obtain ⟨o,e,d⟩:=T.obj _ _ st5 b hb
   exact (I7.pin (b,o) (List.mem_append_right _ (List.mem_append_right _ (zbB hb e)))).2.1
  cases f with
  | next => obtain ⟨σ7,H7,I7,n7⟩:=q7; exact again I7 n7
  | cont => obtain ⟨σ7,H7,I7,n7⟩:=q7; exact again I7 n7
  | brk => obtain ⟨σ7,H7,I7,q7⟩:=q7; exact ⟨σ7,H7,I7.unpinned,q7⟩
  | ret v => obtain ⟨x7,σ7,H7,I7,r7,q7⟩:=q7; exact ⟨x7,σ7,H7,I7.unpinned,r7,q7⟩
end
theorem zcC {K : PySem.W.Frag} {a : Addr} {xs : List V} {g : TG} {tb : TS} {D : Ends} {σ : St} {H : Hp} (Pv : Nat → St → Hp → Prop) (h0 : Pv 0 σ H) (hl : ∀ i σ H,i ≤ xs.length → Pv i σ H → SqL K H a xs)
  (hs : ∀ i x σ H,xs[i]? = some x → Pv i σ H → g x σ H fun σ2 H2 => tb { D with nx:=Pv (i + 1),ct:=Pv (i + 1),bk:=D.nx } σ2 H2) (hd : ∀ σ H,Pv xs.length σ H → D.nx σ H) :
  ∃ W : Nat → Nat → St → Hp → Prop,(∃ m,W 0 m σ H) ∧ ∀ i m σ H,W i m σ H →
   ((Itl K a).stop i H ∧ D.nx σ H) ∨ ((Itl K a).go i H ∧ ∃ N : St → Hp → Prop,(∀ σ' H',N σ' H' → ∃ m',m' < m ∧ W (i + 1) m' σ' H') ∧ ∀ x H',(Itl K a).yld i H x H' → g x σ H' fun σ2 H2 => tb { D with nx:=N,ct:=N,bk:=D.nx } σ2 H2):=by
 refine ⟨fun i m σ H => m = xs.length - i ∧ i ≤ xs.length ∧ Pv i σ H,⟨xs.length,by simp,Nat.zero_le _,h0⟩,?_⟩
 rintro i m σ H ⟨rfl,hi,p⟩
 have q:=hl i σ H hi p
 by_cases hlt : i < xs.length
 ·refine .inr ⟨⟨xs,xs[i],q,by simp [hlt]⟩,Pv (i + 1),fun σ' H' p' => ⟨xs.length - (i + 1),by omega,rfl,hlt,p'⟩,fun x H' y => ?_⟩
  obtain ⟨e,y⟩:=y
  subst e
  exact hs i x σ _ (y xs q) p
 ·have e : i = xs.length:=by omega
  subst e
  exact .inl ⟨⟨xs,q,Nat.le_refl _⟩,hd σ H p⟩
theorem zkf {K : PySem.W.Frag} {a : Addr} {xs : List V} {g : TG} {tb : TS} {D : Ends} {σ : St} {H : Hp} (Pv : Nat → St → Hp → Prop) (h0 : Pv 0 σ H) (hl : ∀ i σ H,i ≤ xs.length → Pv i σ H → SqT K H a xs)
  (hs : ∀ i x σ H,xs[i]? = some x → Pv i σ H → g x σ H fun σ2 H2 => tb { D with nx:=Pv (i + 1),ct:=Pv (i + 1),bk:=D.nx } σ2 H2) (hd : ∀ σ H,Pv xs.length σ H → D.nx σ H) :
  ∃ W : Nat → Nat → St → Hp → Prop,(∃ m,W 0 m σ H) ∧ ∀ i m σ H,W i m σ H →
   ((Itt K a).stop i H ∧ D.nx σ H) ∨ ((Itt K a).go i H ∧ ∃ N : St → Hp → Prop,(∀ σ' H',N σ' H' → ∃ m',m' < m ∧ W (i + 1) m' σ' H') ∧ ∀ x H',(Itt K a).yld i H x H' → g x σ H' fun σ2 H2 => tb { D with nx:=N,ct:=N,bk:=D.nx } σ2 H2):=by
 refine ⟨fun i m σ H => m = xs.length - i ∧ i ≤ xs.length ∧ Pv i σ H,⟨xs.length,by simp,Nat.zero_le _,h0⟩,?_⟩
 rintro i m σ H ⟨rfl,hi,p⟩
 have q:=hl i σ H hi p
 by_cases hlt : i < xs.length
 ·refine .inr ⟨⟨xs,xs[i],q,by simp [hlt]⟩,Pv (i + 1),fun σ' H' p' => ⟨xs.length - (i + 1),by omega,rfl,hlt,p'⟩,fun x H' y => ?_⟩
  obtain ⟨e,y⟩:=y
  subst e
  exact hs i x σ _ (y xs q) p
 ·have e : i = xs.length:=by omega
  subst e
  exact .inl ⟨⟨xs,q,Nat.le_refl _⟩,hd σ H p⟩
theorem zaO {lo : Int} {n : Nat} {g : TG} {tb : TS} {D : Ends} {σ : St} {H : Hp} (Pv : Nat → St → Hp → Prop) (h0 : Pv 0 σ H)
  (hs : ∀ i σ H,i < n → Pv i σ H → g (.int (lo + i)) σ H fun σ2 H2 => tb { D with nx:=Pv (i + 1),ct:=Pv (i + 1),bk:=D.nx } σ2 H2) (hd : ∀ σ H,Pv n σ H → D.nx σ H) :
  ∃ W : Nat → Nat → St → Hp → Prop,(∃ m,W 0 m σ H) ∧ ∀ i m σ H,W i m σ H →
   ((Itr lo n).stop i H ∧ D.nx σ H) ∨ ((Itr lo n).go i H ∧ ∃ N : St → Hp → Prop,(∀ σ' H',N σ' H' → ∃ m',m' < m ∧ W (i + 1) m' σ' H') ∧ ∀ x H',(Itr lo n).yld i H x H' → g x σ H' fun σ2 H2 => tb { D with nx:=N,ct:=N,bk:=D.nx } σ2 H2):=by
 refine ⟨fun i m σ H => m = n - i ∧ i ≤ n ∧ Pv i σ H,⟨n,by simp,Nat.zero_le _,h0⟩,?_⟩
 rintro i m σ H ⟨rfl,hi,p⟩
 by_cases hlt : i < n
 ·refine .inr ⟨hlt,Pv (i + 1),fun σ' H' p' => ⟨n - (i + 1),by omega,rfl,hlt,p'⟩,fun x H' y => ?_⟩
  obtain ⟨e,y⟩:=y
  subst e y
  exact hs i σ _ hlt p
 ·have e : i = n:=by omega
  subst e
  exact .inl ⟨Nat.le_refl _,hd σ H p⟩
theorem ziT {c : TT} {tb : TS} {D : Ends} {σ : St} {H : Hp} (Pv : St → Hp → Prop) (μ : St → Hp → Nat) (h0 : Pv σ H)
  (hs : ∀ σ H,Pv σ H → c σ H fun b H1 => if b = true then tb { D with nx:=fun σ' H' => Pv σ' H' ∧ μ σ' H' < μ σ H,ct:=fun σ' H' => Pv σ' H' ∧ μ σ' H' < μ σ H,bk:=D.nx } σ H1 else D.nx σ H1)
  (mono : ∀ σ H Q Q',(∀ b H1,Q b H1 → Q' b H1) → c σ H Q → c σ H Q') : ziR c tb D σ H:=by
 refine ⟨fun m σ H => m = μ σ H ∧ Pv σ H,⟨_,rfl,h0⟩,?_⟩
 rintro m σ H ⟨rfl,p⟩
 refine mono σ H _ _ (fun b H1 q => ?_) (hs σ H p)
 cases b with
 | true => exact ⟨_,fun σ' H' ⟨p',l⟩ => ⟨_,l,rfl,p'⟩,q⟩
 | false => exact q
end L2
namespace L2
open PySem PySem.Spec PyProof.Rows
abbrev R2:=V → V → Hp → VK → Prop
def OpR (X : Cx) (f : Value → Value → Sem Value) (r : R2) : Prop :=
 ∀ (pins : List (Addr × Obj)) (s : Shared) (σ : St) (H : Hp) (x y : V) (v u : Value) (Q : VK),Inv X pins σ H s → RelV x v → RelV y u → r x y H Q →
  wpAny (model X.prog X.w) X.A (f v u) (EP X pins σ Q) X.xe s
def UnR (X : Cx) (f : Value → Sem Value) (r : V → Hp → VK → Prop) : Prop :=
 ∀ (pins : List (Addr × Obj)) (s : Shared) (σ : St) (H : Hp) (x : V) (v : Value) (Q : VK),Inv X pins σ H s → RelV x v → r x H Q →
  wpAny (model X.prog X.w) X.A (f v) (EP X pins σ Q) X.xe s
def zbR (X : Cx) (f : Value) (r : List V → Hp → VK → Prop) : Prop :=
 ∀ (pins : List (Addr × Obj)) (s : Shared) (σ : St) (H : Hp) (xs : List V) (us : List Value) (Q : VK),Inv X pins σ H s → zJ xs us → r xs H Q →
  wpAny (model X.prog X.w) X.A (call f us) (EP X pins σ Q) X.xe s
def zm9 (X : Cx) (r : V → Hp → (Bool → Hp → Prop) → Prop) : Prop :=
 ∀ (pins : List (Addr × Obj)) (s : Shared) (σ : St) (H : Hp) (x : V) (v : Value) (Q : Bool → Hp → Prop),Inv X pins σ H s → RelV x v → r x H Q →
  wpAny (model X.prog X.w) X.A (truthy v) (TP X pins σ Q) X.xe s
def tOp (r : R2) (ta tb : TE) : TE:=fun σ H Q => ta σ H fun x H1 => tb σ H1 fun y H2 => r x y H2 Q
def tUn (r : V → Hp → VK → Prop) (ta : TE) : TE:=fun σ H Q => ta σ H fun x H1 => r x H1 Q
def rI (C : Int → Int → Prop) (g : Int → Int → V) : R2:=fun x y H Q => ∃ i j,x = .int i ∧ y = .int j ∧ C i j ∧ Q (g i j) H
def rI0 (g : Int → Int → V) : R2:=fun x y H Q => ∃ i j,x = .int i ∧ y = .int j ∧ Q (g i j) H
def rU (g : Int → V) : V → Hp → VK → Prop:=fun x H Q => ∃ i,x = .int i ∧ Q (g i) H
section
variable {X : Cx} {a b c : Expr} {ta tb tc : TE} {pos : Pos}
theorem zmv (ha : PE X a ta) (hb : PE X b tb) {pins : List (Addr × Obj)} {s : Shared} {σ : St} {H : Hp} {R : V → V → Hp → Prop} (I : Inv X pins σ H s)
  (h : ta σ H fun x H1 => tb σ H1 fun y H2 => R x y H2) {Q : Value → Shared → Prop} {f : Value → Value → Sem Value}
  (hf : ∀ v u s2 x y H2,Inv X pins σ H2 s2 → RelV x v → RelV y u → R x y H2 → wpAny (model X.prog X.w) X.A (f v u) Q X.xe s2) :
  wpAny (model X.prog X.w) X.A (eval a X.env) (fun v s₁ => wpAny (model X.prog X.w) X.A (eval b X.env) (fun u s₂ => wpAny (model X.prog X.w) X.A (f v u) Q X.xe s₂) X.xe s₁) X.xe s:=by
 refine thn (ha pins s σ H _ I h) fun v s1 ⟨x,H1,I1,r1,q1⟩ => ?_
 refine thn (hb pins s1 σ H1 _ I1 q1) fun u s2 ⟨y,H2,I2,r2,q2⟩ => ?_
 exact hf v u s2 x y H2 I2 r1 r2 q2
theorem zg {op : Operator} {r : R2} (ho : OpR X (binaryOp op) r) (ha : PE X a ta) (hb : PE X b tb) : PE X (.BinOp a op b pos) (tOp r ta tb):=by
 intro pins s σ H Q I h
 exact wpAny_BinOp (zmv ha hb I h fun v u s2 x y H2 I2 rx ry q => ho pins s2 σ H2 x y v u Q I2 rx ry q)
theorem zlf {op : UnaryOp} {r : V → Hp → VK → Prop} (ho : UnR X (unaryOp op) r) (ha : PE X a ta) : PE X (.UnaryOp op a pos) (tUn r ta):=by
 intro pins s σ H Q I h
 exact UnaryOp_ (thn (ha pins s σ H _ I h) fun v s1 ⟨x,H1,I1,r1,q1⟩ => ho pins s1 σ H1 x v Q I1 r1 q1)
theorem opI {f : Value → Value → Sem Value} {C : Int → Int → Prop} {g : Int → Int → Int}
  (rule : ∀ (i j : Int) (t u : Tok) (s : Shared) (Q : Value → Shared → Prop) (E : Value → Shared → Prop),C i j → Q (.int (g i j) s.toks) { s with toks:=s.toks + 1 } → wpAny (model X.prog X.w) X.A (f (.int i t) (.int j u)) Q E s) :
  OpR X f (rI C fun i j => .int (g i j)):=by
 intro pins s σ H x y v u Q I rx ry h
 obtain ⟨i,j,rfl,rfl,hc,q⟩:=h
 obtain ⟨t,rfl⟩:=rx
 obtain ⟨t',rfl⟩:=ry
 exact rule i j t t' s _ _ hc ⟨.int (g i j),H,I.tok _,⟨_,rfl⟩,q⟩
theorem zlB {f : Value → Value → Sem Value} {g : Int → Int → Int}
  (rule : ∀ (i j : Int) (t u : Tok) (s : Shared) (Q : Value → Shared → Prop) (E : Value → Shared → Prop),Q (.int (g i j) s.toks) { s with toks:=s.toks + 1 } → wpAny (model X.prog X.w) X.A (f (.int i t) (.int j u)) Q E s) :
  OpR X f (rI0 fun i j => .int (g i j)):=by
 intro pins s σ H x y v u Q I rx ry h
 obtain ⟨i,j,rfl,rfl,q⟩:=h
 obtain ⟨t,rfl⟩:=rx
 obtain ⟨t',rfl⟩:=ry
 exact rule i j t t' s _ _ ⟨.int (g i j),H,I.tok _,⟨_,rfl⟩,q⟩
theorem zlC {f : Value → Value → Sem Value} {g : Int → Int → Bool}
  (rule : ∀ (i j : Int) (t u : Tok) (s : Shared) (Q : Value → Shared → Prop) (E : Value → Shared → Prop),Q (.bool (g i j)) s → wpAny (model X.prog X.w) X.A (f (.int i t) (.int j u)) Q E s) :
  OpR X f (rI0 fun i j => .bl (g i j)):=by
 intro pins s σ H x y v u Q I rx ry h
 obtain ⟨i,j,rfl,rfl,q⟩:=h
 obtain ⟨t,rfl⟩:=rx
 obtain ⟨t',rfl⟩:=ry
 exact rule i j t t' s _ _ ⟨.bl (g i j),H,I,rfl,q⟩
def zmw (i j : Int) : Prop:=0 < j ∧ j < 1073741824
def zna (i j : Int) : Prop:=0 ≤ j ∧ j ≤ 1000000 ∧ i.natAbs < 2 ^ 64
def zlD (i j : Int) : Prop:=(-(2 ^ 64) < i ∧ i < 2 ^ 64) ∨ (-(2 ^ 64) < j ∧ j < 2 ^ 64)
theorem zlD.ok {i j : Int} (h : zlD i j) : IntMulOk i j:=by
 rcases h with ⟨h1,h2⟩ | ⟨h1,h2⟩
 ·exact .of_left (intBits_le_64 h1 h2)
 ·exact .of_right (intBits_le_64 h1 h2)
theorem zD : OpR X (binaryOp .Add) (rI0 fun i j => .int (i + j)):=zlB fun _ _ _ _ _ _ _ q => add_int q
theorem za8 : OpR X (binaryOp .Sub) (rI0 fun i j => .int (i - j)):=zlB fun _ _ _ _ _ _ _ q => sub_int q
theorem zS : OpR X (binaryOp .Mult) (rI zlD fun i j => .int (i * j)):=opI fun _ _ _ _ _ _ _ hc q => mul_int q hc.ok
theorem zbC : OpR X (binaryOp .FloorDiv) (rI zmw fun i j => .int (i / j)):=opI fun i j _ _ _ _ _ hc q => by
 have h1 : (0 : Int) < j:=hc.1
 have h2 : j < 1073741824:=hc.2
 exact floordiv_int (by omega) (by rw [Int.fdiv_eq_ediv_of_nonneg i (by omega)]; exact q) (.inl (PyProof.noPylong_small (by omega)))
theorem zA : OpR X (binaryOp .Mod) (rI (fun _ j => 0 < j) fun i j => .int (i % j)):=opI fun i j _ _ _ _ _ hc q => by
 have h1 : (0 : Int) < j:=hc
 exact mod_int' (by omega) (by rw [Int.fmod_eq_emod_of_nonneg i (by omega)]; exact q)
theorem zlE : OpR X (binaryOp .Pow) (rI zna fun i j => .int (i ^ j.toNat)):=opI fun _ _ _ _ _ _ _ hc q => pow_int_small hc.1 hc.2.1 hc.2.2 q
theorem zkg : OpR X (inplaceOp .Add) (rI0 fun i j => .int (i + j)):=zlB fun _ _ _ _ _ _ _ q => iadd_int q
theorem ziU : OpR X (inplaceOp .FloorDiv) (rI zmw fun i j => .int (i / j)):=opI fun i j _ _ _ _ _ hc q => by
 have h1 : (0 : Int) < j:=hc.1
 have h2 : j < 1073741824:=hc.2
 exact ifloordiv_int (by omega) (by rw [Int.fdiv_eq_ediv_of_nonneg i (by omega)]; exact q) (.inl (PyProof.noPylong_small (by omega)))
theorem unI {f : Value → Sem Value} {g : Int → Int}
  (rule : ∀ (i : Int) (t : Tok) (s : Shared) (Q : Value → Shared → Prop) (E : Value → Shared → Prop),Q (.int (g i) s.toks) { s with toks:=s.toks + 1 } → wpAny (model X.prog X.w) X.A (f (.int i t)) Q E s) :
  UnR X f (rU fun i => .int (g i)):=by
 intro pins s σ H x v Q I rx h
 obtain ⟨i,rfl,q⟩:=h
 obtain ⟨t,rfl⟩:=rx
 exact rule i t s _ _ ⟨.int (g i),H,I.tok _,⟨_,rfl⟩,q⟩
theorem ziV : UnR X (unaryOp .USub) (rU fun i => .int (-i)):=unI fun _ _ _ _ _ q => neg_int q
end
def zkh : V → V → Bool
 | .non,.non => true | .non,.int _ => true | .int _,.non => true | .non,.bl _ => true | .bl _,.non => true | .non,.str _ => true | .str _,.non => true
 | .int _,.int _ => true | .bl _,.bl _ => true | .str _,.str _ => true | .byt _,.byt _ => true
 | .int _,.str _ => true | .str _,.int _ => true | .bl _,.str _ => true | .str _,.bl _ => true
 | _,_ => false
def rEq : R2:=fun x y H Q => zkh x y = true ∧ Q (.bl (decide (x = y))) H
def rNe : R2:=fun x y H Q => zkh x y = true ∧ Q (.bl (!decide (x = y))) H
theorem zg1 {i j : Int} : decide (V.int i = V.int j) = (i == j):=by
 rw [Bool.eq_iff_iff]
 simp
theorem ziW {i j : Bool} : decide (V.bl i = V.bl j) = (i == j):=by
 rw [Bool.eq_iff_iff]
 simp
theorem zg2 {i j : Str} : decide (V.str i = V.str j) = (i == j):=by
 rw [Bool.eq_iff_iff]
 simp
theorem zg3 {i j : Array UInt8} : decide (V.byt i = V.byt j) = (i.toList == j.toList):=by
 rw [Bool.eq_iff_iff]
 cases i
 cases j
 simp
section
variable {X : Cx} {a b c : Expr} {ta tb tc : TE} {pos : Pos}
theorem zP {pins : List (Addr × Obj)} {σ : St} {H : Hp} {s : Shared} {Q : VK} {k k' : Bool} (I : Inv X pins σ H s) (q : Q (.bl k) H) (e : k = k') : EP X pins σ Q (.bool k') s:=by
 subst e
 exact ⟨.bl k,H,I,rfl,q⟩
theorem zdd : OpR X (compareOp .Eq) rEq:=by
 intro pins s σ H x y v u Q I rx ry h
 obtain ⟨hs,q⟩:=h
 cases x with
 | non =>
  cases rx
  cases y with
  | non => cases ry; exact PySem.EqNone.eq_none_none (zP I q (by simp))
  | bl j => cases ry; exact PySem.EqNone.eq_none_bool (zP I q (by simp))
  | int j => obtain ⟨t',rfl⟩:=ry; exact PySem.EqNone.eq_none_int (zP I q (by simp))
  | str j => obtain ⟨t',rfl⟩:=ry; exact PySem.EqNone.eq_none_str (zP I q (by simp))
  | _ => exact absurd (show false = true from hs) Bool.false_ne_true
 | bl i =>
  cases rx
  cases y with
  | non => cases ry; exact PySem.EqNone.eq_bool_none (zP I q (by simp))
  | bl j => cases ry; exact eq_bool (zP I q ziW)
  | str j => obtain ⟨t',rfl⟩:=ry; exact PySem.EqMixed.eq_bool_str (zP I q (by simp))
  | _ => exact absurd (show false = true from hs) Bool.false_ne_true
 | int i =>
  obtain ⟨t,rfl⟩:=rx
  cases y with
  | non => cases ry; exact PySem.EqNone.eq_int_none (zP I q (by simp))
  | int j => obtain ⟨t',rfl⟩:=ry; exact eq_int (zP I q zg1)
  | str j => obtain ⟨t',rfl⟩:=ry; exact PySem.EqMixed.eq_int_str (zP I q (by simp))
  | _ => exact absurd (show false = true from hs) Bool.false_ne_true
 | str i =>
  obtain ⟨t,rfl⟩:=rx
  cases y with
  | non => cases ry; exact PySem.EqNone.eq_str_none (zP I q (by simp))
  | bl j => cases ry; exact PySem.EqMixed.eq_str_bool (zP I q (by simp))
  | int j => obtain ⟨t',rfl⟩:=ry; exact PySem.EqMixed.eq_str_int (zP I q (by simp))
  | str j => obtain ⟨t',rfl⟩:=ry; exact eq_str (zP I q zg2)
  | _ => exact absurd (show false = true from hs) Bool.false_ne_true
 | byt i =>
  obtain ⟨t,rfl⟩:=rx
  cases y with
  | byt j => obtain ⟨t',rfl⟩:=ry; exact PySem.W.eq_bytes (zP I q zg3)
  | _ => exact absurd (show false = true from hs) Bool.false_ne_true
 | _ => cases y <;> exact absurd (show false = true from hs) Bool.false_ne_true
theorem zlg : OpR X (compareOp .NotEq) rNe:=by
 intro pins s σ H x y v u Q I rx ry h
 obtain ⟨hs,q⟩:=h
 cases x with
 | non =>
  cases rx
  cases y with
  | non => cases ry; exact PySem.EqNone.ne_none_none (zP I q (by simp))
  | bl j => cases ry; exact PySem.EqNone.ne_none_bool (zP I q (by simp))
  | int j => obtain ⟨t',rfl⟩:=ry; exact PySem.EqNone.ne_none_int (zP I q (by simp))
  | str j => obtain ⟨t',rfl⟩:=ry; exact PySem.EqNone.ne_none_str (zP I q (by simp))
  | _ => exact absurd (show false = true from hs) Bool.false_ne_true
 | bl i =>
  cases rx
  cases y with
  | non => cases ry; exact PySem.EqNone.ne_bool_none (zP I q (by simp))
  | bl j => cases ry; exact ne_bool (zP I q (congrArg not ziW))
  | str j => obtain ⟨t',rfl⟩:=ry; exact PySem.EqMixed.ne_bool_str (zP I q (by simp))
  | _ => exact absurd (show false = true from hs) Bool.false_ne_true
 | int i =>
  obtain ⟨t,rfl⟩:=rx
  cases y with
  | non => cases ry; exact PySem.EqNone.ne_int_none (zP I q (by simp))
  | int j => obtain ⟨t',rfl⟩:=ry; exact ne_int (zP I q (congrArg not zg1))
  | str j => obtain ⟨t',rfl⟩:=ry; exact PySem.EqMixed.ne_int_str (zP I q (by simp))
  | _ => exact absurd (show false = true from hs) Bool.false_ne_true
 | str i =>
  obtain ⟨t,rfl⟩:=rx
  cases y with
  | non => cases ry; exact PySem.EqNone.ne_str_none (zP I q (by simp))
  | bl j => cases ry; exact PySem.EqMixed.ne_str_bool (zP I q (by simp))
  | int j => obtain ⟨t',rfl⟩:=ry; exact PySem.EqMixed.ne_str_int (zP I q (by simp))
  | str j => obtain ⟨t',rfl⟩:=ry; exact ne_str (zP I q (congrArg not zg2))
  | _ => exact absurd (show false = true from hs) Bool.false_ne_true
 | byt i =>
  obtain ⟨t,rfl⟩:=rx
  cases y with
  | byt j => obtain ⟨t',rfl⟩:=ry; exact PySem.W.ne_bytes (zP I q (congrArg not zg3))
  | _ => exact absurd (show false = true from hs) Bool.false_ne_true
 | _ => cases y <;> exact absurd (show false = true from hs) Bool.false_ne_true
theorem zfJ : OpR X (compareOp .Lt) (rI0 fun i j => .bl (decide (i < j))):=zlC fun _ _ _ _ _ _ _ q => lt_int q
theorem zey : OpR X (compareOp .Gt) (rI0 fun i j => .bl (decide (j < i))):=zlC fun _ _ _ _ _ _ _ q => gt_int q
theorem zg4 : OpR X (compareOp .GtE) (rI0 fun i j => .bl (decide (j ≤ i))):=zlC fun _ _ _ _ _ _ _ q => ge_int q
theorem ziX : OpR X (compareOp .Is) (fun x y H Q => y = .non ∧ Q (.bl (decide (x = .non))) H):=by
 intro pins s σ H x y v u Q I rx ry h
 obtain ⟨rfl,q⟩:=h
 cases ry
 refine is_none_gen (zP I q ?_)
 cases x <;> first
  | (cases rx; rfl)
  | (obtain ⟨t,rfl⟩:=rx; rfl)
theorem ze2 : OpR X (compareOp .IsNot) (fun x y H Q => y = .non ∧ Q (.bl (!decide (x = .non))) H):=by
 intro pins s σ H x y v u Q I rx ry h
 obtain ⟨rfl,q⟩:=h
 cases ry
 refine isnot_none_gen (zP I q ?_)
 cases x <;> first
  | (cases rx; rfl)
  | (obtain ⟨t,rfl⟩:=rx; rfl)
theorem zM (b : Expr) {op : CmpOp} (h : op ≠ .In:=by decide) (h2 : op ≠ .NotIn:=by decide) : behindInMarks op b = false:=by
 have e1 : (op == CmpOp.In) = false:=by cases op <;> first | rfl | exact absurd rfl h
 have e2 : (op == CmpOp.NotIn) = false:=by cases op <;> first | rfl | exact absurd rfl h2
 cases b <;> simp [behindInMarks,e1,e2]
def zmx (t : TE) : TT:=fun σ H Q => t σ H fun x H' => ∃ k,x = .bl k ∧ Q k H'
theorem zE {op : CmpOp} {r : R2} (ho : OpR X (compareOp op) r) (ha : PE X a ta) (hb : PE X b tb) (hm : behindInMarks op b = false) : PT X (.Compare a [op] [b] pos) (zmx (tOp r ta tb)):=by
 intro pins s σ H Q I h
 refine wpAny_isTrue_Compare1 (thn (ha pins s σ H _ I h) fun v s1 ⟨x,H1,I1,r1,q1⟩ => thn (hb pins s1 σ H1 _ I1 q1) fun u s2 ⟨y,H2,I2,r2,q2⟩ =>
  thn (ho pins s2 σ H2 x y v u _ I2 r1 r2 q2) fun c s3 ⟨z,H3,I3,r3,k,e,q3⟩ => ?_) hm
 subst e
 cases r3
 exact wpAny_truthy_bool ⟨H3,I3,q3⟩
def zmy (K : PySem.W.Frag) (x : V) (H : Hp) (k : Bool) : Prop :=
 match x with
 | .non => k = false
 | .bl b => k = b
 | .int i => k = (i != 0)
 | .str y => y.length ≤ sizeLine ∧ k = ((y.length : Int) != 0)
 | .byt y => y.size ≤ sizeLine ∧ k = ((y.size : Int) != 0)
 | .ref p => (∃ xs,SqL K H p xs ∧ k = !xs.isEmpty) ∨ (∃ xs,SqT K H p xs ∧ k = !xs.isEmpty) ∨ ∃ kvs,H p = some (.dK kvs) ∧ k = !kvs.isEmpty
 | _ => False
theorem zgx {κ : Type} {kvs : List (κ × V)} {vs : List (κ × Value)} (r : KV kvs vs) : (!vs.isEmpty) = !kvs.isEmpty:=by
 cases r <;> rfl
theorem zdI {xs : List V} {its : List Value} (r : zJ xs its) : (!its.toArray.isEmpty) = !xs.isEmpty:=by
 cases r <;> simp
theorem zdJ : (sizeLine : Nat) < 2 ^ 63:=by rw [sizeLine_eq]; decide
theorem zlF : zm9 X (fun x H Q => ∃ k,zmy X.K x H k ∧ Q k H):=by
 intro pins s σ H x v Q I rx h
 obtain ⟨k,e,q⟩:=h
 have hl:=zdJ
 have hs : sizeLine = 16777216:=sizeLine_eq
 cases x with
 | non =>
  cases rx
  have e' : k = false:=e
  subst e'
  exact truthy_none ⟨H,I,q⟩
 | bl b =>
  cases rx
  have e' : k = b:=e
  subst e'
  exact wpAny_truthy_bool ⟨H,I,q⟩
 | int i =>
  obtain ⟨t,rfl⟩:=rx
  have e' : k = (i != 0):=e
  subst e'
  exact PySem.P.truthy_int ⟨H,I,q⟩
 | str y =>
  obtain ⟨t,rfl⟩:=rx
  obtain ⟨hy,e'⟩ : y.length ≤ sizeLine ∧ k = ((y.length : Int) != 0):=e
  subst e'
  exact PySem.P.truthy_str (by omega) ⟨H,I.tok _,q⟩
 | byt y =>
  obtain ⟨t,rfl⟩:=rx
  obtain ⟨hy,e'⟩ : y.size ≤ sizeLine ∧ k = ((y.size : Int) != 0):=e
  subst e'
  exact PySem.W.truthy_bytes (by omega) ⟨H,I.tok _,q⟩
 | ref p =>
  cases rx
  have e' : (∃ xs,SqL X.K H p xs ∧ k = !xs.isEmpty) ∨ (∃ xs,SqT X.K H p xs ∧ k = !xs.isEmpty) ∨ ∃ kvs,H p = some (.dK kvs) ∧ k = !kvs.isEmpty:=e
  rcases e' with ⟨xs,hx,e'⟩ | ⟨xs,hx,e'⟩ | ⟨kvs,hx,e'⟩
  ·subst e'
   obtain ⟨its,r,pl,hz⟩:=I.list hx
   have hlen:=r.length
   exact wpAny_truthy_list pl.isList (by simp only [List.size_toArray]; omega) ⟨H,I.tok _,by rw [zdI r]; exact q⟩
  ·subst e'
   obtain ⟨its,r,pl,hz⟩:=I.tuple hx
   have hlen:=r.length
   exact truthy_tuple pl (by simp only [List.size_toArray]; omega) ⟨H,I.tok _,by rw [zdI r]; exact q⟩
  ·subst e'
   obtain ⟨hz,hS,vs,r,m⟩ : kvs.length ≤ sizeLine ∧ (p == sysModules) = false ∧ ∃ vs,KV kvs vs ∧ s.heap.DictOf (zau X.prog X.w) p vs:=I.hok p _ hx
   have hlen : kvs.length = vs.length:=Paired.length r
   exact wpAny_truthy_dict hS m (by omega) ⟨H,I.tok _,by rw [zgx r]; exact q⟩
 | _ => exact (show False from e).elim
theorem ziY (ha : PE X a ta) (he : ∀ whole,isTrue a X.env whole = (do let v ← whole; standAt a.pos; holding [v] (truthy v))) :
  PT X a (fun σ H Q => ta σ H fun x H' => ∃ k,zmy X.K x H' k ∧ Q k H'):=by
 intro pins s σ H Q I h
 exact isTrue_plain (thn (ha pins s σ H _ I h) fun v s1 ⟨x,H1,I1,r1,q1⟩ => zlF pins s1 σ H1 x v Q I1 r1 q1) (he _)
theorem vals1 {x : V} {us : List Value} (r : zJ [x] us) : ∃ u,us = [u] ∧ RelV x u:=by
 cases r with
 | cons r1 r2 => cases r2; exact ⟨_,rfl,r1⟩
theorem vals2 {x y : V} {us : List Value} (r : zJ [x,y] us) : ∃ u w',us = [u,w'] ∧ RelV x u ∧ RelV y w':=by
 cases r with
 | cons r1 r2 =>
  cases r2 with
  | cons r3 r4 => cases r4; exact ⟨_,_,rfl,r1,r3⟩
theorem zez (hc : X.calm = true) : zbR X (.builtin "max") (fun xs H Q => ∃ i j,xs = [.int i,.int j] ∧ Q (.int (if j > i then j else i)) H):=by
 intro pins s σ H xs us Q I r h
 obtain ⟨i,j,rfl,q⟩:=h
 obtain ⟨u,w',rfl,⟨t,rfl⟩,⟨t',rfl⟩⟩:=vals2 r
 refine max_two_ints (I.ok.hd hc) fun h' tk k => ⟨_,H,I.kept k,?_,q⟩
 by_cases hj : j > i
 ·rw [if_pos hj,if_pos hj]; exact ⟨_,rfl⟩
 ·rw [if_neg hj,if_neg hj]; exact ⟨_,rfl⟩
theorem zcX (hc : X.calm = true) : zbR X (.builtin "min") (fun xs H Q => ∃ i j,xs = [.int i,.int j] ∧ Q (.int (if j < i then j else i)) H):=by
 intro pins s σ H xs us Q I r h
 obtain ⟨i,j,rfl,q⟩:=h
 obtain ⟨u,w',rfl,⟨t,rfl⟩,⟨t',rfl⟩⟩:=vals2 r
 refine min_two_ints (I.ok.hd hc) fun h' tk k => ⟨_,H,I.kept k,?_,q⟩
 by_cases hj : j < i
 ·rw [if_pos hj,if_pos hj]; exact ⟨_,rfl⟩
 ·rw [if_neg hj,if_neg hj]; exact ⟨_,rfl⟩
end
end L2
namespace L2
open PySem PySem.Spec PyProof.Rows
structure ObjM (h : Heap) (x dx C : Addr) (mA : Str → Option Value) : Prop where
 obj : h.get? x = some (PySem.W.instObj C dx)
 ns : h.Ns1 dx mA
 ne : dx ≠ x
theorem zh2 {h : Heap} {dx : Addr} {mA : Str → Option Value} (n : h.Ns1 dx mA) : ∃ od,h.get? dx = some od ∧ ∀ name,PySem.W.lookIn name od = some (mA name):=by
 obtain ⟨o,es,ep,ho,hd,hk,_,hm⟩:=n
 refine ⟨o,ho,fun name => ?_⟩
 have e:=hm name
 unfold nsFind findBy at e
 rw [← Array.find?_toList] at e
 unfold PySem.W.lookIn
 rw [hd]
 dsimp only
 split
 ·rename_i y q
  rw [q] at e
  exact congrArg some e
 ·rename_i q
  rw [q] at e
  have a : es.toList.any (·.refKey) = false:=by
   rw [List.any_eq_false]
   intro y hy
   obtain ⟨z,t,hkey⟩:=hk y (Array.mem_toList_iff.mp hy)
   simp [DictEntry.refKey,hkey]
  have a' : ¬ es.toList.any (·.refKey) = true:=by rw [a]; exact Bool.false_ne_true
  rw [if_neg a']
  exact congrArg some e
theorem ObjM.look {h : Heap} {x dx C : Addr} {mA : Str → Option Value} (I : ObjM h x dx C mA) : ∃ od,PySem.W.InstAt h x (PySem.W.instObj C dx) C (some od) ∧ ∀ name,PySem.W.lookIn name od = some (mA name) :=
 let ⟨od,ho,hl⟩:=zh2 I.ns
 ⟨od,⟨I.obj,rfl,rfl,ho⟩,hl⟩
section
variable {prog : Program} {w : World} {A : Around} {E : Value → Shared → Prop} {s : Shared} {K : PySem.W.Frag} {x dx C f : Addr} {mA : Str → Option Value} {name : Str} {v : Value}
end
section
variable {P : Program} {w : World} {H H' : Hp} {h h' : Heap} {a C dx : Addr} {fs fs' : List (Str × V)}
theorem zki (hok : HOk P w H h) (e : H a = some (.ins C dx fs)) : ∃ mA,ObjM h a dx C mA ∧ (∀ f,zhX (fs.lookup f) (mA f)) ∧ PySem.Within mA (fs.map (·.1)) ∧ fs.length ≤ 1000 ∧ H dx = some (.own a):=by
 obtain ⟨d,z,ne,ob,mA,n,r,q⟩:=(show zab P w H h a (.ins C dx fs) from hok a _ e)
 exact ⟨mA,⟨ob,n,ne⟩,r,q,z,d⟩
end
structure Cls (K : PySem.W.Frag) (C : Addr) : Prop where
 pg : PySem.W.plainGet K C Str.empty = true
 hd : PySem.W.hasDictIn K C = true
 po : PySem.W.plainOver K C = true
 sa : PySem.W.findIn K (.ref C) "__setattr__" = some (some (.builtin "object.__setattr__"))
theorem Cls.get {K : PySem.W.Frag} {C : Addr} (c : Cls K C) (f : Str) : PySem.W.plainGet K C f = true:=c.pg
section
variable {X : Cx} {pins : List (Addr × Obj)} {σ : St} {H : Hp} {s : Shared} {a C dx : Addr} {fs : List (Str × V)} {f : Str} {v : V} {A : Around} {E : Value → Shared → Prop}
end
section
variable {X : Cx} {o e value : Expr} {f : Str} {pos pos' tpos : Pos} {ta tv : TE}
end
section
variable {X : Cx} {pins : List (Addr × Obj)} {σ : St} {H : Hp} {s : Shared} {A : Around} {E : Value → Shared → Prop} {Q : Value → Shared → Prop} {c : Value} {b : Bool}
inductive TyOf (K : PySem.W.Frag) (H : Hp) : V → Value → Prop where
 | non : TyOf K H .non (.type "NoneType")
 | bl (x : Bool) : TyOf K H (.bl x) (.type "bool")
 | int (i : Int) : TyOf K H (.int i) (.type "int")
 | str (x : Str) : TyOf K H (.str x) (.type "str")
 | flt (x : UInt64) : TyOf K H (.flt x) (.type "float")
 | lst {a : Addr} {xs : List V} (e : H a = some (.lst xs)) : TyOf K H (.ref a) (.type "list")
 | frz {a : Addr} {o : Obj} {xs : List V} (e : H a = some (.frz o (.lst xs))) : TyOf K H (.ref a) (.type "list")
 | tup {a : Addr} {xs : List V} (e : H a = some (.tup xs)) : TyOf K H (.ref a) (.type "tuple")
 | dK {a : Addr} {kvs : List (Key × V)} (e : H a = some (.dK kvs)) : TyOf K H (.ref a) (.type "dict")
 | dT {a : Addr} {kvs : List (List Key × V)} (e : H a = some (.dT kvs)) : TyOf K H (.ref a) (.type "dict")
 | ins {a C dx : Addr} {fs : List (Str × V)} (e : H a = some (.ins C dx fs)) (cl : Cls K C) (ha : PySem.W.findIn K (.ref C) "__class__" = some (some (.builtin "object.__class__")))
   (hn : PySem.W.specialIn K (.builtin "object.__class__") "__get__" = some (some (.builtin "getset_descriptor.__get__"))) (htk : PySem.W.takesIn K (.builtin "object.__class__") = some true)
   (hm : PySem.W.mroIn K C (.type "object") = some true) : TyOf K H (.ref a) (.ref C)
theorem zh3 {x : V} {u t : Value} (I : Inv X pins σ H s) (rx : RelV x u) (ty : TyOf X.K H x t) (e : PySem.W.kitOne X.K t c = some b) (h : ∀ tk,Q (.bool b) { s with toks:=tk }) :
  wpAny (model X.prog X.w) A (call (.builtin "isinstance") [u,c]) Q E s:=by
 cases ty with
 | non => cases (show u = Value.none from rx); exact PySem.W.kia_one PySem.W.kitx_none I.kIn True.intro e (fun z => nomatch z) h
 | bl y => cases (show u = Value.bool y from rx); exact PySem.W.kia_one PySem.W.kitx_bool I.kIn True.intro e (fun z => nomatch z) h
 | int i => obtain ⟨t,q⟩:=(show ∃ t,u = Value.int i t from rx); cases q; exact PySem.W.kia_one PySem.W.kitx_int I.kIn True.intro e (fun z => nomatch z) h
 | str y => obtain ⟨t,q⟩:=(show ∃ t,u = Value.str y t from rx); cases q; exact PySem.W.kia_one PySem.W.kitx_str I.kIn True.intro e (fun z => nomatch z) h
 | flt y => obtain ⟨t,q⟩:=(show ∃ t,u = Value.float y t from rx); cases q; exact PySem.W.kia_one PySem.W.kitx_float I.kIn True.intro e (fun z => nomatch z) h
 | @lst a xs ea =>
  cases (show u = Value.ref a from rx)
  obtain ⟨_,_,n,_,h1⟩:=(show zab X.prog X.w H s.heap a (.lst xs) from I.hok a _ ea)
  exact PySem.W.kia_one PySem.W.kitx_list I.kIn ⟨_,h1,rfl⟩ e (fun z => nomatch z) h
 | @frz a ob xs ea =>
  cases (show u = Value.ref a from rx)
  obtain ⟨_,_,_,n,_,h1⟩:=(show zab X.prog X.w H s.heap a (.frz ob (.lst xs)) from I.hok a _ ea)
  exact PySem.W.kia_one PySem.W.kitx_list I.kIn ⟨_,h1,rfl⟩ e (fun z => nomatch z) h
 | @tup a xs ea =>
  cases (show u = Value.ref a from rx)
  obtain ⟨_,_,_,p⟩:=(show zab X.prog X.w H s.heap a (.tup xs) from I.hok a _ ea)
  obtain ⟨o,h1,h2,_⟩:=p
  exact PySem.W.kia_one PySem.W.kitx_tuple I.kIn ⟨o,h1,h2⟩ e (fun z => nomatch z) h
 | @dK a kvs ea =>
  cases (show u = Value.ref a from rx)
  obtain ⟨_,_,vs,_,p⟩:=(show zab X.prog X.w H s.heap a (.dK kvs) from I.hok a _ ea)
  obtain ⟨o,es,ep,h1,h2,_⟩:=p
  exact PySem.W.kia_one PySem.W.kitx_dict I.kIn ⟨o,h1,h2.1⟩ e (fun z => nomatch z) h
 | @dT a kvs ea =>
  cases (show u = Value.ref a from rx)
  obtain ⟨_,_,xs,_,o,es,ep,h1,h2,_⟩:=(show zab X.prog X.w H s.heap a (.dT kvs) from I.hok a _ ea)
  exact PySem.W.kia_one PySem.W.kitx_dict I.kIn ⟨o,h1,h2.1⟩ e (fun z => nomatch z) h
 | @ins a C dx fs ea cl ha hn htk hm =>
  cases (show u = Value.ref a from rx)
  obtain ⟨mA,O,_⟩:=zki I.hok ea
  obtain ⟨od,J,_⟩:=O.look
  exact PySem.W.kia_one (PySem.W.kitx_own (cl.get _) cl.hd ha hn htk hm) I.kIn J e (fun z => nomatch z) h
end
end L2
namespace L2
open PySem PySem.Spec PyProof.Rows
structure Room (k : Nat) (A : Around) : Prop where
 hd : A.handled = none
 dp : A.depth + 3 * k + 5 < recursionLimit
 un : A.units + 16 * k + 200 < cLine
theorem Room.mono {j k : Nat} {A : Around} (r : Room k A) (h : j ≤ k) : Room j A:=⟨r.hd,by have:=r.dp; omega,by have:=r.un; omega⟩
theorem Room.deeper {k : Nat} {A : Around} (r : Room (k + 1) A) (env : Env) : Room k (A.deeper env) :=
 ⟨r.hd,by have:=r.dp; show A.depth + 1 + 3 * k + 5 < _; omega,by have:=r.un; show A.units + 3 + 16 * k + 200 < _; omega⟩
theorem Room.depth {k : Nat} {A : Around} (r : Room k A) : A.depth < recursionLimit:=by have:=r.dp; omega
theorem Room.units {k : Nat} {A : Around} (r : Room k A) : A.units + 64 < cLine:=by have:=r.un; omega
def znb : TA:=fun _ H Q => Q [] H
def zlh (ta : TE) (tr : TA) : TA:=fun σ H Q => ta σ H fun x H1 => tr σ H1 fun xs H2 => Q (x :: xs) H2
section
variable {X : Cx} {e : Expr} {es : List Expr} {te : TE} {t : TA} {pos : Pos}
theorem ze : PA X [] znb:=fun _ _ _ _ H Q I h => Calls.spliced_nil ⟨[],H,I,.nil,h⟩
theorem za (ha : PE X e te) (hr : PA X es t) (hs : starEach (e :: es) X.env = (false,eval e X.env) :: starEach es X.env:=by rfl) : PA X (e :: es) (zlh te t):=by
 intro pos pins s σ H Q I h
 rw [hs]
 show wpAny _ _ (spliced ((false,eval e X.env) :: backTo pos (starEach es X.env))) _ _ s
 refine Calls.spliced_cons (thn (ha pins s σ H _ I h) fun u s1 ⟨x,H1,I1,r1,q1⟩ => ?_)
 exact thn (hr pos pins s1 σ H1 _ I1 q1) fun us s2 ⟨xs,H2,I2,r2,q2⟩ => ⟨x :: xs,H2,I2,.cons r1 r2,q2⟩
def znc (t : TA) : TE:=fun σ H Q => t σ H fun xs H1 => xs.length ≤ sizeLine ∧ ∀ p,H1 p = none → Q (.ref p) (upd H1 p (.tup xs))
def zkj (t : TA) : TE:=fun σ H Q => t σ H fun xs H1 => xs.length ≤ sizeLine ∧ ∀ p,H1 p = none → Q (.ref p) (upd H1 p (.lst xs))
theorem zaH {x1} (h : PA X es t) : PE X (.Tuple es x1 pos) (znc t):=by
 intro pins s σ H Q I hq
 refine wpAny_Tuple_spliced (thn (h pos pins s σ H _ I hq) fun us s1 ⟨xs,H1,I1,r,z,q⟩ => ⟨by rw [← r.length]; exact z,?_⟩)
 have hf : H1 s1.heap.objs.size = none:=I1.hok.fresh (Nat.le_refl _)
 refine ⟨.ref s1.heap.objs.size,upd H1 s1.heap.objs.size (.tup xs),I1.laid (t':=s1.toks) (fun b u e => Heap.get?_push_of_some _ e) (Nat.le_refl _) ?_,rfl,q _ hf⟩
 exact ⟨z,us,r,⟨_,Heap.get?_push_size _ rfl,rfl,_,rfl⟩⟩
theorem z0 (h : PA X es t) : PE X (.List es pos) (zkj t):=by
 intro pins s σ H Q I hq
 refine wpAny_List_spliced (thn (h pos pins s σ H _ I hq) fun us s1 ⟨xs,H1,I1,r,z,q⟩ => ⟨by rw [← r.length]; exact z,?_⟩)
 have hf : H1 s1.heap.objs.size = none:=I1.hok.fresh (Nat.le_refl _)
 refine ⟨.ref s1.heap.objs.size,upd H1 s1.heap.objs.size (.lst xs),I1.laid (t':=s1.toks) (fun b u e => Heap.get?_push_of_some _ e) (Nat.le_refl _) ?_,rfl,q _ hf⟩
 exact ⟨z,us,0,r,Heap.get?_push_size _ rfl⟩
end
abbrev Sp:=List V → Hp → VK → XK → Prop
abbrev CXT:=List Env → Hp → Shared → XK → Value → Shared → Prop
structure Env0 (P : Program) (w : World) (K : PySem.W.Frag) (mg : Str → Option Value) (base : Heap) (A : Around) (outer : List Env) (s : Shared) (H : Hp) : Prop where
 frames : A.frames = some outer
 mod : Mod K mg base
 bs : ∀ b o,base.get? b = some o → s.heap.get? b = some o ∧ H b = none
 bsz : base.objs.size ≤ s.heap.objs.size
 funs : s.heap.FunFrames base outer
 frf : ∀ b ∈ frs outer,H b = none
 hok : HOk P w H s.heap
 bare : AllBare s.gens
def CE (outer : List Env) (P : Program) (w : World) (H : Hp) (s : Shared) (Q : VK) (u : Value) (s' : Shared) : Prop :=
 ∃ v H',s'.os = s.os ∧ AllBare s'.gens ∧ Un (frs outer) [] H H' s.heap s'.heap ∧ HOk P w H' s'.heap ∧ RelV v u ∧ Q v H'
def CR (CX : CXT) (outer : List Env) (P : Program) (w : World) (H : Hp) (s : Shared) (Q : VK) (E : XK) (r : Result) (s' : Shared) : Prop :=
 match r with
 | .ok (.ret u) => CE outer P w H s Q u s'
 | .ok _ => False
 | .error e => CX outer H s E e s'
structure FnOk (P : Program) (w : World) (K : PySem.W.Frag) (mg : Str → Option Value) (base : Heap) (CX : CXT) (k : Nat) (f : Addr) (fd : FuncData) (ps : List Str) (sp : Sp) : Prop where
 len : ∀ vs H Q E,sp vs H Q E → vs.length = ps.length
 run : ∀ (A : Around) (outer : List Env) (s : Shared) (H : Hp) (args : Args) (us : List Value) (vs : List V) (Q : VK) (E : XK),Room k A → Env0 P w K mg base A outer s H → BindsTo s fd args (ps.zip us) → zJ vs us → sp vs H Q E →
  codeAny (model P w) A (.call (.ref f) args) (CR CX outer P w H s Q E) s
section
variable {X : Cx} {pins : List (Addr × Obj)} {σ : St} {H : Hp} {s s' : Shared}
theorem Inv.env0 (I : Inv X pins σ H s) : Env0 X.prog X.w X.K X.mg X.base X.A X.stack s H :=
 ⟨I.ok.frames,I.ok.mod,I.bs,Nat.le_trans I.ok.bsz I.sz,I.stack,I.stkFree,I.hok,I.bare⟩
theorem Inv.after {Q : VK} {u : Value} (I : Inv X pins σ H s) (h : CE X.stack X.prog X.w H s Q u s') : EP X pins σ Q u s':=by
 obtain ⟨v,H',os,bare,un,hok,r,q⟩:=h
 obtain ⟨hh,g,d,t,os'⟩:=s'
 obtain rfl : os' = s.os:=os
 exact ⟨v,H',I.call (h':=hh) (g':=g) (d':=d) (t':=t) (ch:=[]) un hok bare (fun b z => absurd z (by simp)),r,q⟩
end
def zmz (sp : Sp) (dvs : List V) (E : XK) (t : TA) : TE:=fun σ H Q => t σ H fun vs H1 => sp (vs ++ dvs) H1 Q E
def Binds (K : PySem.W.Frag) (fd : FuncData) (ps : List Str) (ds : List Value) : Prop :=
 ∀ (s : Shared) (us : List Value),K.In s.heap → (us ++ ds).length = ps.length → BindsTo s fd ⟨us,[]⟩ (ps.zip (us ++ ds))
theorem Binds.all {K : PySem.W.Frag} {fd : FuncData} {ps : List Str} (h : ∀ us : List Value,us.length = ps.length → bindArgs fd ⟨us,[]⟩ = pure (ps.zip us)) : Binds K fd ps []:=fun s us _ hl => by
 rw [List.append_nil] at hl ⊢
 exact .of_eq (h us hl)
def zgy (CX : CXT) (X : Cx) (E : XK) : Prop:=∀ (pins : List (Addr × Obj)) (σ : St) (H : Hp) (s : Shared) (e : Value) (s' : Shared),Inv X pins σ H s → CX X.stack H s E e s' → X.xe e s'
section
variable {X : Cx} {CX : CXT} {k : Nat} {f C : Addr} {fd : FuncData} {ps : List Str} {sp : Sp} {dvs : List V} {ds : List Value} {E : XK} {x m : Str} {p pos apos : Pos} {e o : Expr} {es : List Expr} {ta : TE} {t : TA}
theorem zlG {pins : List (Addr × Obj)} {σ : St} {H : Hp} {s : Shared} {Q : VK} {us : List Value} {vs : List V} (F : FnOk X.prog X.w X.K X.mg X.base CX k f fd ps sp) (hr : Room k X.A) (hb : Binds X.K fd ps ds) (hd : zJ dvs ds) (hx : zgy CX X E)
  (I : Inv X pins σ H s) (r : zJ vs us) (h : sp (vs ++ dvs) H Q E) : wpAny (model X.prog X.w) X.A (call (.ref f) us) (EP X pins σ Q) X.xe s:=by
 have r2 : zJ (vs ++ dvs) (us ++ ds):=r.append hd
 have hl : (us ++ ds).length = ps.length:=by rw [← r2.length]; exact F.len _ _ _ _ h
 refine wpAny_call (codeAny_mono (F.run X.A X.stack s H ⟨us,[]⟩ (us ++ ds) (vs ++ dvs) Q E hr I.env0 (hb s us I.kIn hl) r2 h) fun r s' hq => ?_)
 cases r with
 | error e => exact hx pins σ H s e s' I hq
 | ok fl =>
  cases fl with
  | ret u => exact I.after hq
  | next => exact False.elim hq
  | brk => exact False.elim hq
  | cont => exact False.elim hq
theorem zt (F : FnOk X.prog X.w X.K X.mg X.base CX k f fd ps sp) (hr : Room k X.A) (hg : Gl X x) (hm : X.mg x = some (.ref f)) (hk : PySem.W.keepIn X.K (.ref f) = true) (hb : Binds X.K fd ps ds) (hd : zJ dvs ds) (hx : zgy CX X E)
  (ha : PA X (e :: es) t) (hdb : (x == ("__debug__" : Str)) = false:=by decide) (he : starEach (e :: es) X.env = (false,eval e X.env) :: starEach es X.env:=by rfl) (hpl : (backTo pos (starEach es X.env)).any (·.1) = false:=by rfl) :
  PE X (.Call (.Name x p) (e :: es) [] pos) (zmz sp dvs E t):=by
 intro pins s σ H Q I h
 refine wpAny_Call_Name_kw (zkd I hg hm ?_ hdb)
 refine PySem.W.callWith_K (h₀:=X.base) I.ok.mod.kin hk (thn (ha pos pins s σ H _ I h) fun us s1 ⟨vs,H1,I1,r,q⟩ => ⟨I1.kIn,?_⟩) he hpl
 exact zlG F hr hb hd hx I1 r q
end
section
variable {X : Cx} {CX : CXT} {k : Nat} {f C : Addr} {fd : FuncData} {ps ks : List Str} {sp : Sp} {E : XK} {x m : Str} {p pos apos kpos : Pos} {e o : Expr} {es : List Expr} {kws : List Keyword} {te ta : TE} {t tk : TA} {nm : Option Str}
variable {g : List Value → List Value → List Value} {gV : List V → List V → List V}
end
structure FnScope (N P : List Str) (sc : Scope) : Prop where
 kind : sc.kind = .function
 co : sc.isCoroutine = false
 gen : sc.isGenerator = false
 nd : N.Nodup
 pre : N.take P.length = P
 par : ∀ x ∈ P,sc.names.lookup x = some .local ∨ sc.names.lookup x = some .cell
 nofree : ∀ y ∈ sc.names,y.2 ≠ .free
theorem zeA {kindOf : Str → Option NameKind} {x : Str} : ∀ {binds : List (Str × Value)} {m : Str → Option Value},(∀ v,(x,v) ∉ binds) → bindL kindOf binds m x = m x
 | [],_,_ => rfl
 | (n,v) :: r,m,h => by
  unfold bindL
  rw [zeA fun w hw => h w (List.mem_cons_of_mem _ hw)]
  split
  ·have : x ≠ n:=by rintro rfl; exact h v List.mem_cons_self
   simp [this]
  ·rfl
theorem zeB {kindOf : Str → Option NameKind} {x : Str} : ∀ {binds : List (Str × Value)} {m : Str → Option Value},(∀ v,(x,v) ∉ binds) → bindC kindOf binds m x = m x
 | [],_,_ => rfl
 | (n,v) :: r,m,h => by
  unfold bindC
  rw [zeB fun w hw => h w (List.mem_cons_of_mem _ hw)]
  split
  ·rfl
  ·have : x ≠ n:=by rintro rfl; exact h v List.mem_cons_self
   simp [this]
theorem zeC {kindOf : Str → Option NameKind} {x : Str} {v : Value} : ∀ {P : List Str} {vs : List Value} {i : Nat} {m : Str → Option Value},P.Nodup → P[i]? = some x → vs[i]? = some v → kindOf x = some .local →
  bindL kindOf (P.zip vs) m x = some v
 | [],_,_,_,_,h,_,_ => by simp at h
 | _ :: _,[],_,_,_,_,h,_ => by simp at h
 | p :: P,w :: vs,0,m,nd,h1,h2,hk => by
  simp at h1 h2; subst h1; subst h2
  show bindL kindOf ((p,w) :: P.zip vs) m p = _
  unfold bindL
  rw [zeA fun v hv => (List.nodup_cons.mp nd).1 (List.of_mem_zip hv).1,if_pos hk]
  simp
 | p :: P,w :: vs,i + 1,m,nd,h1,h2,hk => by
  show bindL kindOf ((p,w) :: P.zip vs) m x = _
  unfold bindL
  exact zeC (i:=i) (List.nodup_cons.mp nd).2 (by simpa using h1) (by simpa using h2) hk
theorem zeD {kindOf : Str → Option NameKind} {x : Str} {v : Value} : ∀ {P : List Str} {vs : List Value} {i : Nat} {m : Str → Option Value},P.Nodup → P[i]? = some x → vs[i]? = some v → kindOf x ≠ some .local →
  bindC kindOf (P.zip vs) m x = some v
 | [],_,_,_,_,h,_,_ => by simp at h
 | _ :: _,[],_,_,_,_,h,_ => by simp at h
 | p :: P,w :: vs,0,m,nd,h1,h2,hk => by
  simp at h1 h2; subst h1; subst h2
  show bindC kindOf ((p,w) :: P.zip vs) m p = _
  unfold bindC
  rw [zeB fun v hv => (List.nodup_cons.mp nd).1 (List.of_mem_zip hv).1,if_neg hk]
  simp
 | p :: P,w :: vs,i + 1,m,nd,h1,h2,hk => by
  show bindC kindOf ((p,w) :: P.zip vs) m x = _
  unfold bindC
  exact zeD (i:=i) (List.nodup_cons.mp nd).2 (by simpa using h1) (by simpa using h2) hk
def start (N : List Str) (vs : List V) : St:=vs.map some ++ List.replicate (N.length - vs.length) none
def zh4 (CX : CXT) (P : Program) (w : World) (K : PySem.W.Frag) (mg : Str → Option Value) (base : Heap) (N : List Str) (qual : Str) (scope : Scope) (f : Addr) (cd : Value) (A : Around) (outer : List Env) (s : Shared) (H : Hp) (E : XK) : Cx where
 prog:=P
 w:=w
 K:=K
 mg:=mg
 base:=base
 A:=A.deeper (envOfC qual scope s.heap.objs.size f cd)
 N:=N
 s₀:=s
 H₀:=H
 env:=envOfC qual scope s.heap.objs.size f cd
 outer:=outer
 stack:=envOfC qual scope s.heap.objs.size f cd :: outer
 ex:=[]
 calm:=true
 fn:=fun _ => true
 pn:=[]
 xe:=fun e s' => wpAny (model P w) (A.deeper (envOfC qual scope s.heap.objs.size f cd)) (leaving (envOfC qual scope s.heap.objs.size f cd) e) (fun _ s'' => CX outer H s E e s'') (fun e' s'' => CX outer H s E e' s'') s'
theorem zfK {sc : Scope} {n : Nat} {x : Str} (h : sc.names.lookup x = some .cell) : ∃ c,(cellsFrom n sc.names []).lookup x = some c:=by
 have q:=PySem.W.cellsFrom_some sc.names n [] (.inl h)
 exact Option.isSome_iff_exists.mp q
theorem zh5 {CX : CXT} {P : Program} {w : World} {K : PySem.W.Frag} {mg : Str → Option Value} {base : Heap} {N ps : List Str} {qual : Str} {scope : Scope} {f : Addr} {cd : Value} {A : Around} {outer : List Env} {s s1 : Shared} {H : Hp} {E : XK} {us : List Value} {vs : List V}
  (S : FnScope N ps scope) (hd : A.handled = none) (e0 : Env0 P w K mg base A outer s H) (hl : vs.length = ps.length) (r : zJ vs us)
  (x : InCallC s s.heap.objs.size (bindL (envOfC qual scope s.heap.objs.size f cd).kindOf (ps.zip us) fun _ => none) (cellsFrom (s.heap.objs.size + 1) scope.names []) (bindC (envOfC qual scope s.heap.objs.size f cd).kindOf (ps.zip us) fun _ => none) s1) :
  Inv (zh4 CX P w K mg base N qual scope f cd A outer s H E) [] (start N vs) H s1:=by
 have hpl : ps.length ≤ N.length:=by have:=congrArg List.length S.pre; rw [List.length_take] at this; omega
 obtain ⟨h1,tk,rfl,hk⟩:=x.done
 have noA : ∀ b : Addr,b ∉ (zh4 CX P w K mg base N qual scope f cd A outer s H E).ex:=fun b z => absurd (show b ∈ ([] : List Addr) from z) (by simp)
 refine ⟨⟨e0.mod,S.kind,rfl,rfl,Nat.le_refl _,fun y z c h1 h2 => ?_,fun y hy => ?_,fun y c _ h => ?_,fun _ => hd,Around.frames_deeper e0.frames,.inr ⟨rfl,rfl⟩,fun b z => absurd z (noA b),e0.bs,e0.bsz,fun b _ _ => noA b,fun b z => absurd z (noA b),e0.funs,e0.frf⟩,
  rfl,e0.bare,Un.kept hk,⟨_,x.toInCall.ns,fun i y v h1 h2 h3 => ?_⟩,fun y c h => ⟨_,x.cell y c h⟩,e0.hok.fresh (Nat.le_refl _),fun y c h => ?_,fun p hp => absurd (show p ∈ ([] : List (Addr × Obj)) from hp) (by simp),e0.hok.kept hk,?_⟩
 ·exact name_of_addr x.apart (PySem.mem_of_lookup h1) (PySem.mem_of_lookup h2)
 ·have hy : scope.names.lookup y = some .cell ∨ scope.names.lookup y = some .free:=hy
  rcases hy with hy | hy
  ·exact zfK hy
  ·exact absurd rfl (S.nofree _ (PySem.mem_of_lookup hy))
 ·exact Nat.le_of_lt (x.above y c (PySem.mem_of_lookup h))
 ·have hi : i < vs.length:=by
   unfold start at h2
   by_cases hi : i < vs.length
   ·exact hi
   ·rw [List.getElem?_append_right (by simpa using hi)] at h2
    rw [List.getElem?_replicate] at h2
    split at h2 <;> cases h2
  have ha : vs[i]? = some v:=by
   unfold start at h2
   rw [List.getElem?_append_left (by simpa using hi),List.getElem?_map] at h2
   cases e : vs[i]? with
   | none => rw [e] at h2; cases h2
   | some a => rw [e] at h2; cases h2; rfl
  obtain ⟨u,hu,rv⟩:=r.get ha
  have hp : ps[i]? = some y:=by
   rw [← S.pre,List.getElem?_take_of_lt (by omega)]; exact h1
  have ndP : ps.Nodup:=by rw [← S.pre]; exact S.nd.sublist (List.take_sublist _ _)
  refine ⟨u,rv,?_⟩
  rcases S.par y (List.mem_of_getElem? hp) with k | k
  ·exact .inl ⟨k,zeC ndP hp hu k⟩
  ·obtain ⟨c,e⟩:=zfK (n:=s.heap.objs.size + 1) k
   refine .inr ⟨.inl k,c,e,?_⟩
   have q:=x.cell y c e
   rw [zeD ndP hp hu (by show scope.names.lookup y ≠ _; rw [k]; decide)] at q
   exact q
 ·exact e0.hok.fresh (Nat.le_of_lt (x.above y c (PySem.mem_of_lookup h)))
 ·unfold start
  show _ = N.length
  rw [List.length_append,List.length_map,List.length_replicate]
  omega
theorem zmA {CX : CXT} {P : Program} {w : World} {K : PySem.W.Frag} {mg : Str → Option Value} {base : Heap} {k : Nat} {f : Addr} {name qual : Str} {params : Arguments} {body : List Stmt} {scope : Scope} {dV kV doc pm cdv ct oc : Value} {an od : Option Addr}
  {osl : Array (Option Value)} {N ps : List Str} {sp : Sp} (lk : K.lookup f = some ⟨oc,od,.func (PySem.W.fnOf name qual params body scope dV kV doc pm an cdv ct),osl⟩) (hcd : PySem.W.codeIn K cdv qual = true) (S : FnScope N ps scope)
  (len : ∀ vs H Q E,sp vs H Q E → vs.length = ps.length)
  (hbody : ∀ (A : Around) (outer : List Env) (s : Shared) (H : Hp) (vs : List V) (Q : VK) (E : XK),Room k (A.deeper (envOfC qual scope s.heap.objs.size f cdv)) → sp vs H Q E →
   ∃ t,PSs (zh4 CX P w K mg base N qual scope f cdv A outer s H E) body t ∧ t { nx:=fun _ H' => Q .non H',rt:=Q } (start N vs) H) :
  FnOk P w K mg base CX (k + 1) f (PySem.W.fnOf name qual params body scope dV kV doc pm an cdv ct) ps sp:=by
 refine ⟨len,fun A outer s H args us vs Q E hr e0 hb r hsp => ?_⟩
 have hl:=len _ _ _ _ hsp
 have KX : K.In s.heap:=e0.mod.kin.keeps fun b o e => (e0.bs b o e).1
 have lim : s.heap.NoLimit:=e0.mod.nolimit.keeps fun b o e => (e0.bs b o e).1
 have hkind : ∀ y ∈ ps.zip us,scope.names.lookup y.1 = some .local ∨ (scope.names.lookup y.1 = some .cell ∧ ((cellsFrom (s.heap.objs.size + 1) scope.names []).lookup y.1).isSome = true):=fun ⟨n,v⟩ hy => by
  rcases S.par n (List.of_mem_zip hy).1 with q | q
  ·exact .inl q
  ·exact .inr ⟨q,PySem.W.cellsFrom_some _ _ _ (.inl q)⟩
 refine codeAny_call_function hr.depth (KX _ _ lk) rfl S.co S.gen rfl (PySem.W.codeRec_of KX hcd) (hb _ _ _ _ ?_)
 refine wpAny_newFunctionEnv_cells S.kind hkind fun env he s1 x => ?_
 subst he
 refine ⟨lim.keeps x.toInCall.keep,codeAny_func ?_⟩
 obtain ⟨t,ht,hq⟩:=hbody A outer s H vs Q E (hr.deeper _) hsp
 have I : Inv (zh4 CX P w K mg base N qual scope f cdv A outer s H E) [] (start N vs) H s1:=zh5 S hr.hd e0 hl r x
 refine wpAny_mono (ht [] s1 (start N vs) H _ I hq) (fun fl s' hs => ?_) fun e s' hs => hs
 have fin : ∀ {σ' : St} {H' : Hp} {v : V} {u : Value},Inv (zh4 CX P w K mg base N qual scope f cdv A outer s H E) [] σ' H' s' → RelV v u → Q v H' → CE outer P w H s Q u s' :=
  fun {σ' H' v u} J rv q => ⟨v,H',J.os,J.bare,J.base,J.hok,rv,q⟩
 cases fl with
 | ret u =>
  obtain ⟨v,σ',H',J,rv,q⟩:=hs
  exact fin J rv q
 | next =>
  obtain ⟨σ',H',J,q⟩:=hs
  exact fin (v:=V.non) (u:=Value.none) J rfl q
 | brk =>
  obtain ⟨_,_,_,q⟩:=hs
  exact False.elim q
 | cont =>
  obtain ⟨_,_,_,q⟩:=hs
  exact False.elim q
end L2
namespace L2
open PySem PySem.Spec PyProof.Rows
section
variable {X : Cx} {x : Str} {p pos : Pos} {e : Expr} {es : List Expr} {t : TA} {id T : String} {r : List V → Hp → VK → Prop}
def tCB (r : List V → Hp → VK → Prop) (t : TA) : TE:=fun σ H Q => t σ H fun vs H1 => r vs H1 Q
theorem zu (hc : zbR X (.builtin id) r) (hg : Gl X x) (hm : X.mg x = none) (hv : bootBuiltins x = some (.builtin id)) (ha : PA X (e :: es) t) (hn : x ≠ "__name__":=by decide) (hdb : (x == ("__debug__" : Str)) = false:=by decide)
  (he : starEach (e :: es) X.env = (false,eval e X.env) :: starEach es X.env:=by rfl) (hpl : (backTo pos (starEach es X.env)).any (·.1) = false:=by rfl) : PE X (.Call (.Name x p) (e :: es) [] pos) (tCB r t):=by
 intro pins s σ H Q I h
 refine wpAny_Call_Name_kw (zbh I hg hm hv ?_ hn hdb)
 exact PyProof.Rows.callWith_builtin1 (thn (ha pos pins s σ H _ I h) fun us s1 ⟨vs,H1,I1,r1,q1⟩ => hc pins s1 σ H1 vs us Q I1 r1 q1) he hpl
theorem zat (hc : zbR X (.type T) r) (hg : Gl X x) (hm : X.mg x = none) (hv : bootBuiltins x = some (.type T)) (ha : PA X (e :: es) t) (hn : x ≠ "__name__":=by decide) (hdb : (x == ("__debug__" : Str)) = false:=by decide)
  (he : starEach (e :: es) X.env = (false,eval e X.env) :: starEach es X.env:=by rfl) (hpl : (backTo pos (starEach es X.env)).any (·.1) = false:=by rfl) : PE X (.Call (.Name x p) (e :: es) [] pos) (tCB r t):=by
 intro pins s σ H Q I h
 refine wpAny_Call_Name_kw (zbh I hg hm hv ?_ hn hdb)
 exact PyProof.Rows.callWith_type1 (thn (ha pos pins s σ H _ I h) fun us s1 ⟨vs,H1,I1,r1,q1⟩ => hc pins s1 σ H1 vs us Q I1 r1 q1) he hpl
end
end L2
namespace HT
open PySem PyProof.Rows
section
open PySem.SeqAt
open PySem.AutoSeq1 (wpAny_loadPart')
open PySem.MeetsSeq PySem.MeetsSeq2 PySem.MeetsSeq3
end
section
variable {prog : Program} {w : World} {A : Around} {E : Value → Shared → Prop} {s : Shared}
theorem cat_tup {t b : Addr} {vs ws : List Value} {Q : Value → Shared → Prop} (ht : IsTup s.heap t vs.toArray) (hb : IsTup s.heap b ws.toArray) (hv : vs ≠ [])
  (h1 : ws = [] → Q (.ref t) s) (h2 : ws ≠ [] → Q (.ref s.heap.objs.size) { s with heap:=s.heap.push { cls:=.type "tuple",data:=.seq (vs ++ ws).toArray } })
  (hsz : vs.length + ws.length ≤ sizeLine) : wpAny (model prog w) A (binaryOp .Add (.ref t) (.ref b)) Q E s:=by
 obtain ⟨⟨cls,dd,data,sl⟩,ho,hc,n,hd⟩:=id ht
 obtain ⟨⟨cls2,dd2,data2,sl2⟩,ho2,hc2,n2,hd2⟩:=id hb
 simp only at hc hd hc2 hd2
 subst hc hd hc2 hd2
 have e : vs.toArray ++ ws.toArray = (vs ++ ws).toArray:=by simp
 by_cases hw : ws = []
 ·exact concat_meets ⟨_,ho,rfl⟩ ⟨_,ho2,rfl⟩ noFill_tuple_add seq_tuple_add PySem.F.slot_tuple_add PySem.F.entry_tuple_add (PySem.F.args_tuple_add_2 _ _)
   (tuple_addW1 t b vs.toArray ws.toArray n n2 dd dd2 sl sl2 (by simpa using hv) (by simp [hw])) ⟨ho,ho2,h1 hw⟩
 ·refine concat_meets ⟨_,ho,rfl⟩ ⟨_,ho2,rfl⟩ noFill_tuple_add seq_tuple_add PySem.F.slot_tuple_add PySem.F.entry_tuple_add (PySem.F.args_tuple_add_2 _ _)
   (tuple_addW2 t b vs.toArray ws.toArray n n2 dd dd2 sl sl2 (by simpa using hv) (by simpa using hw) (by rw [List.size_toArray,List.size_toArray]; exact hsz)) ⟨ho,ho2,?_⟩
  rw [e]
  exact h2 hw
def sIx (n d : Nat) : Option Int → Nat
 | none => d
 | some v => if v < 0 then (v + (n : Int)).toNat else min v.toNat n
theorem sIx_none (n d : Nat) : sIx n d none = d:=rfl
theorem sIx_nat (n d k : Nat) : sIx n d (some (k : Int)) = min k n:=by
 show (if (k : Int) < 0 then ((k : Int) + (n : Int)).toNat else min (k : Int).toNat n) = min k n
 rw [if_neg (by omega),Int.toNat_natCast]
theorem zlH (n d : Nat) (hd : d ≤ n) (o : Option Int) : sIx n d o ≤ n:=by
 cases o with
 | none => exact hd
 | some v =>
  show (if v < 0 then (v + (n : Int)).toNat else min v.toNat n) ≤ n
  by_cases hv : v < 0
  ·rw [if_pos hv]; omega
  ·rw [if_neg hv]; exact Nat.min_le_right _ _
theorem zg5 (v : Int) (n d : Nat) : (if v < 0 then max (v + (n : Int)) 0 else min v (n : Int)) = ((sIx n d (some v) : Nat) : Int):=by
 show (if v < 0 then max (v + (n : Int)) 0 else min v (n : Int)) = (((if v < 0 then (v + (n : Int)).toNat else min v.toNat n) : Nat) : Int)
 by_cases hv : v < 0
 ·simp only [if_pos hv]; omega
 ·simp only [if_neg hv]; omega
theorem zgz (lo hi : Option Int) (n : Nat) : Builtin.Slice.sliceAdjust lo hi 1 (n : Int) = (((sIx n 0 lo : Nat) : Int),((sIx n n hi : Nat) : Int)):=by
 have h1 : ¬ ((1 : Int) < 0):=by omega
 unfold Builtin.Slice.sliceAdjust
 simp only [h1,if_false]
 refine Prod.ext ?_ ?_
 ·cases lo with
  | none => rfl
  | some v => exact zg5 v n 0
 ·cases hi with
  | none => rfl
  | some v => exact zg5 v n n
theorem zgA (i j : Nat) : Builtin.Slice.slicePlaces (i : Int) (j : Int) 1 = j - i:=by
 unfold Builtin.Slice.slicePlaces
 have h1 : (1 : Int) > 0:=by omega
 simp only [h1,if_true,Int.ediv_one]
 split <;> omega
theorem zdK {v : Value} {o : Option Int} {Q : Option Int → Shared → Prop} (p : IsPart v o) (h : Q o s) : wpAny (model prog w) A (Builtin.Slice.slicePartIndex v) Q E s:=by
 cases p with
 | none => exact slicePart_none h
 | int i t => exact slicePart_int h
theorem zbt {sl : Addr} {vl vu : Value} {lo hi : Option Int} {n : Nat} {Q : Int × Int × Nat → Shared → Prop} (hs : s.heap.IsSliceOf sl vl vu .none) (pl : IsPart vl lo) (pu : IsPart vu hi)
  (h : Q (((sIx n 0 lo : Nat) : Int),1,sIx n n hi - sIx n 0 lo) s) : wpAny (model prog w) A (Builtin.Slice.sliceApplied (.ref sl) (pure (n : Int))) Q E s:=by
 obtain ⟨os,hos,hcs,hds⟩:=id hs
 unfold Builtin.Slice.sliceApplied Builtin.Slice.sliceFields
 refine wpAny_bind (wpAny_bind (wpAny_field hos hds (x:=vl) rfl (wpAny_bind (wpAny_field hos hds (x:=vu) rfl (wpAny_bind (wpAny_field hos hds (x:=.none) rfl (wpAny_pure ?_)))))))
 refine wpAny_bind (slicePart_none ?_)
 show wpAny _ _ (if ((1 : Int) == 0) = true then _ else _) _ _ s
 rw [if_neg (by decide)]
 refine wpAny_bind (zdK pl (wpAny_bind (zdK pu (wpAny_bind (wpAny_pure ?_)))))
 show wpAny _ _ (match Builtin.Slice.sliceAdjust lo hi 1 (n : Int) with | (lo,hi) => pure (lo,(1 : Int),Builtin.Slice.slicePlaces lo hi 1)) _ _ s
 rw [zgz lo hi n]
 show wpAny _ _ (pure (((sIx n 0 lo : Nat) : Int),(1 : Int),Builtin.Slice.slicePlaces ((sIx n 0 lo : Nat) : Int) ((sIx n n hi : Nat) : Int) 1)) _ _ s
 rw [zgA]
 exact wpAny_pure h
theorem ziZ (xs : Array Value) (i k : Nat) : ((List.range k).filterMap fun (m : Nat) => xs[((i : Int) + (m : Int) * 1).toNat]?).toArray = ((xs.toList.drop i).take k).toArray:=by
 have e : (fun (m : Nat) => xs[((i : Int) + (m : Int) * 1).toNat]?) = fun m => xs[i + m]?:=by
  funext m
  have : ((i : Int) + (m : Int) * 1).toNat = i + m:=by omega
  rw [this]
 rw [e]
 have:=pick_run xs i k
 rw [List.filterMap_map] at this
 have e2 : ((fun x => xs[x]?) ∘ fun x => i + x) = fun m => xs[i + m]?:=rfl
 rw [e2] at this
 rw [this]
theorem getItem_tuple_cut {t sl : Addr} {items : Array Value} {vl vu : Value} {lo hi : Option Int} {Q : Value → Shared → Prop} (ht : IsTup s.heap t items) (hs : s.heap.IsSliceOf sl vl vu .none) (pl : IsPart vl lo) (pu : IsPart vu hi)
  (hw : ¬ (sIx items.size 0 lo = 0 ∧ sIx items.size items.size hi = items.size))
  (h : Q (.ref s.heap.objs.size) { s with heap:=s.heap.push { cls:=.type "tuple",data:=.seq ((items.toList.drop (sIx items.size 0 lo)).take (sIx items.size items.size hi - sIx items.size 0 lo)).toArray } })
  (hsz : items.size ≤ sizeLine) : wpAny (model prog w) A (getItem (.ref t) (.ref sl)) Q E s:=by
 have htake : sizeOk (.seq ((items.toList.drop (sIx items.size 0 lo)).take (sIx items.size items.size hi - sIx items.size 0 lo)).toArray):=by
  show ((items.toList.drop (sIx items.size 0 lo)).take (sIx items.size items.size hi - sIx items.size 0 lo)).toArray.size ≤ sizeLine
  rw [List.size_toArray,List.length_take,List.length_drop,Array.length_toList]
  omega
 have hj : sIx items.size items.size hi ≤ items.size:=zlH _ _ (Nat.le_refl _) hi
 obtain ⟨os,hos,hcs,hds⟩:=id hs
 have hTs : s.TypeIs (.ref sl) "slice":=⟨os,hos,hcs⟩
 unfold getItem
 try with_reducible refine wpAny_holding ?_
 first | refine wpAny_bind (wpAny_pure ?_) | skip
 refine wpAny_bind (wpAny_sequenceKey ht.typeIs (by decide) ?_)
 refine wpAny_bind (wpAny_callSpecial?_slot (name:=Str.ofString "__getitem__") ht.typeIs PyProof.Rows.slot_tuple_getitem
  (wpAny_call_entry PyProof.Rows.slot_tuple_getitem ht.typeIs entry_tuple_getitem ?_ (args_tuple_getitem _ _)))
 show wpAny _ _ (Builtin.Tuple.tupleItemsOf (.ref t) >>= _) _ _ s
 refine wpAny_bind (tupleItemsOf_ ht ?_)
 refine wpAny_bind (wpAny_typeOf hTs ?_)
 rw [if_pos (by decide)]
 refine wpAny_bind (zbt hs pl pu ?_)
 have hno : ¬ ((((sIx items.size 0 lo : Nat) : Int) == 0 && (1 : Int) == 1 && (sIx items.size items.size hi - sIx items.size 0 lo) == items.size) = true):=by
  intro q
  rw [Bool.and_eq_true,Bool.and_eq_true] at q
  have q1 : ((sIx items.size 0 lo : Nat) : Int) = 0:=eq_of_beq q.1.1
  have q2 : sIx items.size items.size hi - sIx items.size 0 lo = items.size:=eq_of_beq q.2
  exact hw ⟨by omega,by omega⟩
 show wpAny _ _ (if (((sIx items.size 0 lo : Nat) : Int) == 0 && (1 : Int) == 1 && (sIx items.size items.size hi - sIx items.size 0 lo) == items.size) = true then _ else _) _ _ s
 rw [if_neg hno,ziZ]
 first
  | exact wpAny_bind (m:=Builtin.Tuple.tupleExact _) (wpAny_newObj_type (wpAny_pure ⟨_,rfl,wpAny_pure h⟩) htake)
  | exact wpAny_bind (m:=Builtin.Tuple.tupleExact _) (wpAny_newObj_type (wpAny_bind (wpAny_pure (wpAny_pure ⟨_,rfl,wpAny_pure h⟩))) htake)
  | exact wpAny_bind (wpAny_bind (m:=Builtin.Tuple.tupleExact _) (wpAny_newObj_type (wpAny_pure (wpAny_pure ⟨_,rfl,wpAny_pure h⟩)) htake))
  | exact wpAny_bind (wpAny_bind (m:=Builtin.Tuple.tupleExact _) (wpAny_newObj_type (wpAny_pure ⟨_,rfl,wpAny_pure h⟩) htake))
end
end HT
namespace L2
open PySem PySem.Spec PyProof.Rows
abbrev TO:=St → Hp → (Option Int → Hp → Prop) → Prop
def PO (X : Cx) (e : Option Expr) (t : TO) : Prop :=
 ∀ (pins : List (Addr × Obj)) (s : Shared) (σ : St) (H : Hp) (Q : Option Int → Hp → Prop),Inv X pins σ H s → t σ H Q →
  wpAny (model X.prog X.w) X.A (evalPart e X.env) (fun u s' => ∃ o H',Inv X pins σ H' s' ∧ IsPart u o ∧ Q o H') X.xe s
def zkk : TO:=fun _ H Q => Q none H
def zmB (t : TE) : TO:=fun σ H Q => t σ H fun x H1 => ∃ i,x = .int i ∧ Q (some i) H1
theorem intsAre_of {ns : List Int} : ∀ {us : List Value},zJ (ns.map V.int) us → IntsAre us ns:=by
 induction ns with
 | nil => intro us r; rw [List.map_nil] at r; cases r; exact .nil
 | cons n ns ih =>
  intro us r
  rw [List.map_cons] at r
  cases r with
  | cons r1 r2 =>
   obtain ⟨t,e⟩:=r1
   subst e
   exact .cons n t (ih r2)
section
variable {X : Cx} {e : Expr} {te : TE} {lo hi : Option Expr} {tl th : TO} {pos p2 : Pos}
theorem zbD : PO X none zkk:=by
 intro pins s σ H Q I h
 rw [evalPart_none]
 exact wpAny_pure ⟨none,H,I,.none,h⟩
theorem zbb (h : PE X e te) : PO X (some e) (zmB te):=by
 intro pins s σ H Q I hw
 rw [evalPart_some]
 refine thn (h pins s σ H _ I hw) fun u s1 ⟨x,H1,I1,r1,q1⟩ => ?_
 obtain ⟨i,rfl,q⟩:=q1
 obtain ⟨t,rfl⟩:=r1
 exact ⟨some i,H1,I1,.int i t,q⟩
def SlR (X : Cx) (r : V → Option Int → Option Int → Hp → VK → Prop) : Prop :=
 ∀ (pins : List (Addr × Obj)) (s : Shared) (σ : St) (H : Hp) (x : V) (v vl vu : Value) (lo hi : Option Int) (sl : Addr) (Q : VK),Inv X pins σ H s → RelV x v → s.heap.IsSliceOf sl vl vu .none → IsPart vl lo → IsPart vu hi → r x lo hi H Q →
  ∃ T id,typeLookup (.type T) "__getitem__" = pure (some (.builtin id)) ∧ s.TypeIs v T ∧ wpAny (model X.prog X.w) X.A (getItem v (.ref sl)) (EP X pins σ Q) X.xe s
def tSl (r : V → Option Int → Option Int → Hp → VK → Prop) (te : TE) (tl th : TO) : TE:=fun σ H Q => te σ H fun x H1 => tl σ H1 fun l H2 => th σ H2 fun u H3 => r x l u H3 Q
theorem za1 {r : V → Option Int → Option Int → Hp → VK → Prop} (hr : SlR X r) (he : PE X e te) (hl : PO X lo tl) (hu : PO X hi th) : PE X (.Subscript e (.Slice lo hi none p2) pos) (tSl r te tl th):=by
 intro pins s σ H Q I h
 refine Subscript_ (thn (he pins s σ H _ I h) fun v s1 ⟨x,H1,I1,r1,q1⟩ => ?_)
 refine wpAny_Slice (thn (hl pins s1 σ H1 _ I1 q1) fun vl s2 ⟨l,H2,I2,pl,q2⟩ => thn (hu pins s2 σ H2 _ I2 q2) fun vu s3 ⟨u,H3,I3,pu,q3⟩ => ?_)
 rw [evalPart_none]
 refine wpAny_pure ?_
 have I4 : Inv X pins σ H3 { s3 with heap:=s3.heap.push { cls:=.type "slice",data:=.fields #[vl,vu,.none] } }:=I3.kept (t':=s3.toks) fun b ob q => Heap.get?_push_of_some _ q
 obtain ⟨T,id,hT,ht,hg⟩:=hr pins { s3 with heap:=s3.heap.push { cls:=.type "slice",data:=.fields #[vl,vu,.none] } } σ H3 x v vl vu l u s3.heap.objs.size Q I4 r1 (Heap.IsSliceOf.new ..) pl pu q3
 show wpAny (model X.prog X.w) X.A (subscriptTail e (.Slice lo hi none p2) v (.ref s3.heap.objs.size)) (EP X pins σ Q) X.xe { s3 with heap:=s3.heap.push { cls:=.type "slice",data:=.fields #[vl,vu,.none] } }
 exact tail_any (ops:=[.ref s3.heap.objs.size,v]) ht hT hg (by with_unfolding_all rfl)
def za2 (xs : List V) (lo hi : Option Int) : List V:=(xs.drop (HT.sIx xs.length 0 lo)).take (HT.sIx xs.length xs.length hi - HT.sIx xs.length 0 lo)
theorem zde (xs : List V) (lo hi : Option Int) : (za2 xs lo hi).length ≤ xs.length:=by
 unfold za2
 rw [List.length_take,List.length_drop]
 omega
def znd (K : PySem.W.Frag) : V → Option Int → Option Int → Hp → VK → Prop:=fun x lo hi H Q => ∃ a xs,x = .ref a ∧ SqT K H a xs ∧
 ¬ (HT.sIx xs.length 0 lo = 0 ∧ HT.sIx xs.length xs.length hi = xs.length) ∧ ∀ p,H p = none → Q (.ref p) (upd H p (.tup (za2 xs lo hi)))
theorem zi0 : SlR X (znd X.K):=by
 intro pins s σ H x v vl vu lo hi sl Q I rx hs pl pu h
 obtain ⟨a,xs,rfl,hx,hw,q⟩:=h
 cases rx
 obtain ⟨its,r,ht,hz⟩:=I.tuple hx
 have hlen : its.toArray.size = xs.length:=by rw [List.size_toArray]; exact r.length.symm
 refine ⟨"tuple",_,PyProof.Rows.slot_tuple_getitem.lookup,ht.typeIs,?_⟩
 refine HT.getItem_tuple_cut ht hs pl pu (by rw [hlen]; exact hw) ?_ (by rw [hlen]; exact hz)
 rw [hlen]
 refine ⟨.ref s.heap.objs.size,_,I.laid (t':=s.toks) (o:=.tup (za2 xs lo hi)) (fun b ob q => Heap.get?_push_of_some _ q) (Nat.le_refl _) ?_,rfl,q _ (I.hok.fresh (Nat.le_refl _))⟩
 exact ⟨Nat.le_trans (zde xs lo hi) hz,_,(r.drop (HT.sIx xs.length 0 lo)).take (HT.sIx xs.length xs.length hi - HT.sIx xs.length 0 lo),IsTup.new _ _⟩
def zmC (K : PySem.W.Frag) : R2:=fun x y H Q => ∃ a b xs ys,x = .ref a ∧ y = .ref b ∧ SqT K H a xs ∧ SqT K H b ys ∧ xs ≠ [] ∧ xs.length + ys.length ≤ sizeLine ∧
 (ys = [] → Q (.ref a) H) ∧ (ys ≠ [] → ∀ p,H p = none → Q (.ref p) (upd H p (.tup (xs ++ ys))))
theorem zJ.nil_iff {xs : List V} {us : List Value} (r : zJ xs us) : us = [] ↔ xs = []:=by
 cases r with
 | nil => simp
 | cons _ _ => simp
theorem zkl : OpR X (binaryOp .Add) (zmC X.K):=by
 intro pins s σ H x y v u Q I rx ry h
 obtain ⟨a,b,xs,ys,rfl,rfl,ha,hb,hx,hz,q1,q2⟩:=h
 cases rx
 cases ry
 obtain ⟨its,r1,p1,_⟩:=I.tuple ha
 obtain ⟨its2,r2,p2,_⟩:=I.tuple hb
 refine HT.cat_tup p1 p2 (fun z => hx (r1.nil_iff.mp z)) (fun z => ⟨.ref a,H,I,rfl,q1 (r2.nil_iff.mp z)⟩) (fun z => ?_) (by rw [← r1.length,← r2.length]; exact hz)
 refine ⟨.ref s.heap.objs.size,_,I.laid (t':=s.toks) (o:=.tup (xs ++ ys)) (fun b ob q => Heap.get?_push_of_some _ q) (Nat.le_refl _) ?_,rfl,q2 (fun w => z (r2.nil_iff.mpr w)) _ (I.hok.fresh (Nat.le_refl _))⟩
 exact ⟨by rw [List.length_append]; exact hz,_,r1.append r2,IsTup.new _ _⟩
end
end L2
namespace L2
open PySem PySem.Spec PyProof.Rows
def ixN (n : Nat) (i : Int) : Option Nat:=if 0 ≤ i then (if i < n then some i.toNat else none) else if -(n : Int) ≤ i then some (i + n).toNat else none
def atI {α : Type} (xs : List α) (i : Int) : Option α:=(ixN xs.length i).bind fun j => xs[j]?
theorem zg6 {n : Nat} {i : Int} {j : Nat} (h : ixN n i = some j) : seqIndex? i n = some j ∧ j < n ∧ -(n : Int) ≤ i ∧ i < n:=by
 unfold ixN at h
 by_cases h0 : 0 ≤ i
 ·rw [if_pos h0] at h
  by_cases h1 : i < n
  ·rw [if_pos h1] at h
   have e : i.toNat = j:=Option.some.inj h
   exact ⟨by rw [seqIndex_of h0 h1,e],by omega,by omega,h1⟩
  ·rw [if_neg h1] at h; cases h
 ·rw [if_neg h0] at h
  by_cases h1 : -(n : Int) ≤ i
  ·rw [if_pos h1] at h
   have e : (i + n).toNat = j:=Option.some.inj h
   exact ⟨by rw [seqIndex_neg (by omega) h1,e],by omega,h1,by omega⟩
  ·rw [if_neg h1] at h; cases h
theorem zg7 {α : Type} {xs : List α} {i : Int} {v : α} (h : atI xs i = some v) : ∃ j,seqIndex? i xs.length = some j ∧ xs[j]? = some v ∧ j < xs.length ∧ -(xs.length : Int) ≤ i ∧ i < xs.length:=by
 unfold atI at h
 cases e : ixN xs.length i with
 | none => rw [e] at h; cases h
 | some j =>
  rw [e] at h
  obtain ⟨h1,h2,h3,h4⟩:=zg6 e
  exact ⟨j,h1,h,h2,h3,h4⟩
theorem zam {α : Type} {xs : List α} {j : Nat} {v : α} (h : xs[j]? = some v) : atI xs (j : Int) = some v:=by
 have hj : j < xs.length:=(List.getElem?_eq_some_iff.mp h).1
 have e : ixN xs.length (j : Int) = some j:=by
  unfold ixN
  rw [if_pos (by omega),if_pos (by omega)]; simp
 unfold atI; rw [e]; exact h
def zkm (b : Expr) : Prop:=∀ o i,subscripted b false o i = operate [o,i] (getItem o i)
def IxR (X : Cx) (r : R2) : Prop :=
 ∀ (value slice : Expr) (pins : List (Addr × Obj)) (s : Shared) (σ : St) (H : Hp) (x y : V) (v u : Value) (Q : VK),Inv X pins σ H s → RelV x v → RelV y u → r x y H Q →
  subscripted slice false v u = operate [v,u] (getItem v u) → wpAny (model X.prog X.w) X.A (subscriptTail value slice v u) (EP X pins σ Q) X.xe s
def MtR (X : Cx) (id : String) (r : V → List V → Hp → VK → Prop) : Prop :=
 ∀ (pins : List (Addr × Obj)) (s : Shared) (σ : St) (H : Hp) (x : V) (xs : List V) (v : Value) (us : List Value) (Q : VK),Inv X pins σ H s → RelV x v → zJ xs us → r x xs H Q →
  wpAny (model X.prog X.w) X.A (call (.builtin id) (v :: us)) (EP X pins σ Q) X.xe s
section
variable {X : Cx} {a b : Expr} {ta tb : TE} {pos : Pos}
theorem zH {r : R2} (hr : IxR X r) (ha : PE X a ta) (hb : PE X b tb) (hs : zkm b) : PE X (.Subscript a b pos) (tOp r ta tb):=by
 intro pins s σ H Q I h
 exact Subscript_ (zmv ha hb I h fun v u s2 x y H2 I2 rx ry q => hr a b pins s2 σ H2 x y v u Q I2 rx ry q (hs _ _))
def zmD (K : PySem.W.Frag) : R2:=fun x y H Q => ∃ p xs i v,x = .ref p ∧ y = .int i ∧ SqL K H p xs ∧ atI xs i = some v ∧ Q v H
def zmE (K : PySem.W.Frag) : R2:=fun x y H Q => ∃ p xs i v,x = .ref p ∧ y = .int i ∧ SqT K H p xs ∧ atI xs i = some v ∧ Q v H
theorem zw : IxR X (zmD X.K):=by
 intro value slice pins s σ H x y v u Q I rx ry h hs
 obtain ⟨p,xs,i,z,rfl,rfl,hq,he,q⟩:=h
 cases rx
 obtain ⟨t,rfl⟩:=ry
 obtain ⟨its,r,pl,hz⟩:=I.list hq
 obtain ⟨j,h1,h2,h3,h4,h5⟩:=zg7 he
 obtain ⟨w,ew,rw'⟩:=r.get h2
 have hl:=r.length
 have hn:=zdJ
 have fin : EP X pins σ Q w s:=⟨z,H,I,rw',q⟩
 by_cases h0 : 0 ≤ i
 ·have hj : i.toNat = j:=by
   rw [seqIndex_of h0 h5] at h1
   exact Option.some.inj h1
  exact item_listR pl.isList h0 (by omega) (by rw [hj]; simpa using ew) fin hs
 ·have hj : (i + (its.toArray.size : Int)).toNat = j:=by
   rw [seqIndex_neg (by omega) h4] at h1
   rw [List.size_toArray,← hl]
   exact Option.some.inj h1
  exact subscriptTail_builtinR (x:=w) pl.isList.typeIs slot_list_getitem.lookup
   (wpAny_getItem_list_neg (Q:=fun r s' => r = w ∧ EP X pins σ Q r s') pl.isList (by omega) (by rw [List.size_toArray] <;> omega) (by omega) (by rw [hj]; simpa using ew) ⟨rfl,fin⟩) hs
theorem zbE : IxR X (zmE X.K):=by
 intro value slice pins s σ H x y v u Q I rx ry h hs
 obtain ⟨p,xs,i,z,rfl,rfl,hq,he,q⟩:=h
 cases rx
 obtain ⟨t,rfl⟩:=ry
 obtain ⟨its,r,pl,hz⟩:=I.tuple hq
 obtain ⟨j,h1,h2,h3,h4,h5⟩:=zg7 he
 obtain ⟨w,ew,rw'⟩:=r.get h2
 have hl:=r.length
 have hn:=zdJ
 have fin : EP X pins σ Q w s:=⟨z,H,I,rw',q⟩
 exact subscriptTail_builtinR (x:=w) pl.typeIs slot_tuple_getitem.lookup
  (getItem_tuple (j:=j) (Q:=fun r s' => r = w ∧ EP X pins σ Q r s') pl (by omega) (by omega) (by rw [List.size_toArray,← hl]; exact h1) (by simpa using ew) ⟨rfl,fin⟩) hs
theorem zgB (its : List Value) (n j : Nat) (u : Value) : Obj.mapSeq (·.setIfInBounds j u) { cls:=.type "list",data:=.seq its.toArray n } = { cls:=.type "list",data:=.seq (its.set j u).toArray n }:=by
 simp [Obj.mapSeq]
theorem Inv.lst {pins : List (Addr × Obj)} {σ : St} {H : Hp} {s : Shared} {p : Addr} {xs : List V} (I : Inv X pins σ H s) (h : H p = some (.lst xs)) :
  ∃ (its : List Value) (n : Nat),zJ xs its ∧ s.heap.get? p = some { cls:=.type "list",data:=.seq its.toArray n } ∧ xs.length ≤ sizeLine:=by
 obtain ⟨z,its,n,r,e⟩:=I.hok p _ h
 exact ⟨its,n,r,e,z⟩
theorem Inv.lstUpd {pins : List (Addr × Obj)} {σ : St} {H : Hp} {s : Shared} {p : Addr} {xs ys : List V} {its its' : List Value} {n n' : Nat} {f : Obj → Obj} (I : Inv X pins σ H s) (h : H p = some (.lst xs))
  (ho : s.heap.get? p = some { cls:=.type "list",data:=.seq its.toArray n }) (hf : f { cls:=.type "list",data:=.seq its.toArray n } = { cls:=.type "list",data:=.seq its'.toArray n' }) (r : zJ ys its') (hz : ys.length ≤ sizeLine) (t : Nat) :
  Inv X pins σ (upd H p (.lst ys)) { s with heap:=s.heap.update p f,toks:=t }:=by
 have e : (s.heap.update p f).get? p = some { cls:=.type "list",data:=.seq its'.toArray n' }:=by
  rw [Heap.get?_update_self f ho (by rw [hf] <;> rfl),hf]
 refine I.write (x:=p) (e:=p) (by rw [h]; trivial) (.inl rfl) (fun b u hb q => (Heap.get?_update_other _ _ (Ne.symm hb)).trans q) ⟨_,e⟩ ?_
 exact ⟨hz,its',n',r,e⟩
def zmF : V → V → V → Hp → (Hp → Prop) → Prop:=fun o i v H Q => ∃ p xs k j,o = .ref p ∧ i = .int k ∧ H p = some (.lst xs) ∧ ixN xs.length k = some j ∧ Q (upd H p (.lst (xs.set j v)))
theorem set_list : zmq X zmF:=by
 intro pins s σ H o i v ov iv u Q I ro ri rv h
 obtain ⟨p,xs,k,j,rfl,rfl,hp,hj,q⟩:=h
 cases ro
 obtain ⟨t,rfl⟩:=ri
 obtain ⟨its,n,r,ho,hz⟩:=I.lst hp
 obtain ⟨h1,h2,h3,h4⟩:=zg6 hj
 have hl:=r.length
 have hn:=zdJ
 have I' : Inv X pins σ (upd H p (.lst (xs.set j v))) { s with heap:=s.heap.update p (Obj.mapSeq (·.setIfInBounds j u)) } :=
  I.lstUpd hp ho (zgB its n j u) (r.set rv j) (by rw [List.length_set]; exact hz) s.toks
 by_cases h0 : 0 ≤ k
 ·have hk : k.toNat = j:=by
   rw [seqIndex_of h0 h4] at h1
   exact Option.some.inj h1
  exact PySem.W.ki_setAt ho h0 (by omega) (by rw [List.size_toArray,← hl]; exact h4) (by rw [hk]; exact ⟨_,I',q⟩)
 ·have hk : (k + (its.toArray.size : Int)).toNat = j:=by
   rw [seqIndex_neg (by omega) h3] at h1
   rw [List.size_toArray,← hl]
   exact Option.some.inj h1
  exact PySem.W.ki_setBack ho (by omega) (by rw [List.size_toArray,← hl]; exact h3) (by omega) (by rw [hk]; exact ⟨_,I',q⟩)
theorem ze3 (lo hi : Option Int) (n : Nat) : (sliceBounds lo hi none n).1 = ((HT.sIx n 0 lo : Nat) : Int) ∧ (sliceBounds lo hi none n).2.1 = ((HT.sIx n n hi : Nat) : Int) ∧ (sliceBounds lo hi none n).2.2 = 1:=by
 refine ⟨?_,?_,rfl⟩
 ·cases lo with
  | none => simp [sliceBounds,HT.sIx]
  | some i =>
   simp only [sliceBounds,HT.sIx,Option.getD_none,show (1 : Int) > 0 by decide,if_true]
   by_cases h : i < 0
   ·simp only [h,if_true] <;> omega
   ·simp only [h,if_false] <;> omega
 ·cases hi with
  | none => simp [sliceBounds,HT.sIx]
  | some i =>
   simp only [sliceBounds,HT.sIx,Option.getD_none,show (1 : Int) > 0 by decide,if_true]
   by_cases h : i < 0
   ·simp only [h,if_true] <;> omega
   ·simp only [h,if_false] <;> omega
theorem zej (its : List Value) (lo hi : Option Int) : slicePick its.toArray lo hi none = ((its.drop (HT.sIx its.length 0 lo)).take (HT.sIx its.length its.length hi - HT.sIx its.length 0 lo)).toArray:=by
 obtain ⟨h1,h2,h3⟩:=ze3 lo hi its.toArray.size
 unfold slicePick
 rw [h1,h2,h3]
 simp only [sliceRange_one,pick_run,List.size_toArray] <;> rfl
def zmG (K : PySem.W.Frag) : V → Option Int → Option Int → Hp → VK → Prop:=fun x lo hi H Q => ∃ a xs,x = .ref a ∧ SqL K H a xs ∧ ∀ p,H p = none → Q (.ref p) (upd H p (.lst (za2 xs lo hi)))
theorem zb8 : SlR X (zmG X.K):=by
 intro pins s σ H x v vl vu lo hi sl Q I rx hs pl pu h
 obtain ⟨a,xs,rfl,hx,q⟩:=h
 cases rx
 obtain ⟨its,r,ht,hz⟩:=I.list hx
 have hlen:=r.length
 refine ⟨"list",_,slot_list_getitem.lookup,ht.isList.typeIs,?_⟩
 refine wpAny_getItem_list_slice ht.isList hs pl pu .none (by simp) ?_ (by rw [List.size_toArray] <;> omega)
 rw [zej,← hlen]
 refine ⟨.ref s.heap.objs.size,_,I.laid (t':=s.toks) (o:=.lst (za2 xs lo hi)) (fun b ob q => Heap.get?_push_of_some _ q) (Nat.le_refl _) ?_,rfl,q _ (I.hok.fresh (Nat.le_refl _))⟩
 exact ⟨Nat.le_trans (zde xs lo hi) hz,_,0,(r.drop (HT.sIx xs.length 0 lo)).take (HT.sIx xs.length xs.length hi - HT.sIx xs.length 0 lo),Heap.get?_push_size _ rfl⟩
def zeE : V → Bool
 | .non => true
 | .bl _ => true
 | .int _ => true
 | .str _ => true
 | _ => false
def eqV : V → V → Bool
 | .non,.non => true
 | .bl a,.bl b => a == b
 | .bl a,.int b => (if a then 1 else 0) == b
 | .int a,.bl b => a == (if b then 1 else 0)
 | .int a,.int b => a == b
 | .str a,.str b => a == b
 | _,_ => false
theorem zlI {A : Around} {s : Shared} {y x : V} {u v : Value} (ry : RelV y u) (rx : RelV x v) (fy : zeE y = true) (fx : zeE x = true) : SeqAt.EqAt A s u v (eqV y x):=by
 cases y with
 | non =>
  cases ry
  cases x with
  | non => cases rx; exact SeqAt.EqAt.same _
  | bl b => cases rx; exact SeqAt.EqAt.none_bool b
  | int b => obtain ⟨t,rfl⟩:=rx; exact SeqAt.EqAt.none_int b t
  | str b => obtain ⟨t,rfl⟩:=rx; exact SeqAt.EqAt.none_str b t
  | _ => exact absurd (show false = true from fx) Bool.false_ne_true
 | bl a =>
  cases ry
  cases x with
  | non => cases rx; exact SeqAt.EqAt.bool_none a
  | bl b => cases rx; exact SeqAt.EqAt.bool_bool a b
  | int b => obtain ⟨t,rfl⟩:=rx; exact SeqAt.EqAt.bool_int a b t
  | str b => obtain ⟨t,rfl⟩:=rx; exact SeqAt.EqAt.bool_str a b t
  | _ => exact absurd (show false = true from fx) Bool.false_ne_true
 | int a =>
  obtain ⟨t',rfl⟩:=ry
  cases x with
  | non => cases rx; exact SeqAt.EqAt.int_none a t'
  | bl b => cases rx; exact SeqAt.EqAt.int_bool a t' b
  | int b => obtain ⟨t,rfl⟩:=rx; exact SeqAt.EqAt.int_int a t' b t
  | str b => obtain ⟨t,rfl⟩:=rx; exact SeqAt.EqAt.int_str a t' b t
  | _ => exact absurd (show false = true from fx) Bool.false_ne_true
 | str a =>
  obtain ⟨t',rfl⟩:=ry
  cases x with
  | non => cases rx; exact SeqAt.EqAt.str_none a t'
  | bl b => cases rx; exact SeqAt.EqAt.str_bool a t' b
  | int b => obtain ⟨t,rfl⟩:=rx; exact SeqAt.EqAt.str_int a t' b t
  | str b => obtain ⟨t,rfl⟩:=rx; exact SeqAt.EqAt.str_str a t' b t
  | _ => exact absurd (show false = true from fx) Bool.false_ne_true
 | _ => exact absurd (show false = true from fy) Bool.false_ne_true
theorem zq : zbR X (.builtin "len") (fun xs H Q => ∃ p ys,xs = [.ref p] ∧ (SqL X.K H p ys ∨ SqT X.K H p ys) ∧ Q (.int ys.length) H):=by
 intro pins s σ H xs us Q I r h
 obtain ⟨p,ys,rfl,hq,q⟩:=h
 obtain ⟨u,rfl,rx⟩:=vals1 r
 cases rx
 have hn:=zdJ
 rcases hq with hq | hq
 ·obtain ⟨its,r',pl,hz⟩:=I.list hq
  have hlen:=r'.length
  exact Calls.call_len_list pl.isList (by simp only [List.size_toArray] <;> omega) ⟨.int ys.length,H,I.tok _,⟨s.toks + 1,by rw [List.size_toArray,hlen]⟩,q⟩
 ·obtain ⟨its,r',pl,hz⟩:=I.tuple hq
  have hlen:=r'.length
  exact len_tuple pl (by simp only [List.size_toArray] <;> omega) ⟨.int ys.length,H,I.tok _,⟨s.toks + 1,by rw [List.size_toArray,hlen]⟩,q⟩
theorem ze4 : zbR X (.type "list") (fun xs H Q => ∃ p ys,xs = [.ref p] ∧ (SqL X.K H p ys ∨ SqT X.K H p ys) ∧ ∀ l,H l = none → Q (.ref l) (upd H l (.lst ys))):=by
 intro pins s σ H xs us Q I r h
 obtain ⟨p,ys,rfl,hq,q⟩:=h
 obtain ⟨u,rfl,rx⟩:=vals1 r
 cases rx
 have fin : ∀ (its : List Value),zJ ys its → ys.length ≤ sizeLine → ∀ (h' : Heap) (c' : Nat),(∀ b o',s.heap.get? b = some o' → h'.get? b = some o') →
   h'.get? s.heap.objs.size = some { cls:=.type "list",dict:=none,data:=.seq its.toArray c',slots:=#[] } → EP X pins σ Q (.ref s.heap.objs.size) { s with heap:=h' }:=fun its r' hz h' c' kp e =>
  ⟨.ref s.heap.objs.size,_,I.laid (t':=s.toks) kp (Nat.le_refl _) (show zab X.prog X.w _ h' _ (.lst ys) from ⟨hz,its,c',r',e⟩),rfl,q _ (I.hok.fresh (Nat.le_refl _))⟩
 rcases hq with hq | hq
 ·obtain ⟨its,r',pl,hz⟩:=I.list hq
  have hlen:=r'.length
  obtain ⟨o,ho,hc,n,hd⟩:=pl.isList
  exact call_list_seq p (.inl rfl) ho hc hd (fun h' c' kp e => fin its r' hz h' c' kp e) (by simp only [List.size_toArray] <;> omega)
 ·obtain ⟨its,r',pl,hz⟩:=I.tuple hq
  have hlen:=r'.length
  obtain ⟨o,ho,hc,n,hd⟩:=pl
  exact call_list_seq p (.inr rfl) ho hc hd (fun h' c' kp e => fin its r' hz h' c' kp e) (by simp only [List.size_toArray] <;> omega)
theorem zaD : zbR X (.type "tuple") (fun xs H Q => ∃ p ys,xs = [.ref p] ∧ ((SqL X.K H p ys ∧ ∀ l,H l = none → Q (.ref l) (upd H l (.tup ys))) ∨ (SqT X.K H p ys ∧ Q (.ref p) H))):=by
 intro pins s σ H xs us Q I r h
 obtain ⟨p,ys,rfl,h⟩:=h
 obtain ⟨u,rfl,rx⟩:=vals1 r
 cases rx
 rcases h with ⟨hq,q⟩ | ⟨hq,q⟩
 ·obtain ⟨its,r',pl,hz⟩:=I.list hq
  have hlen:=r'.length
  refine call_tuple_list pl.isList (fun h' kp => ?_) (by simp only [List.size_toArray] <;> omega)
  have I1 : Inv X pins σ H { s with heap:=h' }:=I.kept (t':=s.toks) kp
  have I2 : Inv X pins σ (upd H h'.objs.size (.tup ys)) { s with heap:=h'.push { cls:=.type "tuple",data:=.seq its.toArray } } :=
   I1.laid (t':=s.toks) (fun b o e => Heap.get?_push_of_some _ e) (Nat.le_refl _) (show zab X.prog X.w _ _ _ (.tup ys) from ⟨hz,its,r',IsTup.new _ _⟩)
  exact ⟨.ref h'.objs.size,_,I2,rfl,q _ (I1.hok.fresh (Nat.le_refl _))⟩
 ·obtain ⟨its,r',pl,hz⟩:=I.tuple hq
  exact call_tuple_same pl ⟨.ref p,H,I,rfl,q⟩
def tyV (K : PySem.W.Frag) (T : String) (x : V) (H : Hp) : Prop:=match x with
 | .str _ => T = "str"
 | .int _ => T = "int"
 | .ref p => (T = "list" ∧ ∃ xs,SqL K H p xs) ∨ (T = "tuple" ∧ ∃ o,K.lookup p = some o ∧ o.cls = .type "tuple" ∧ o.dict = none) ∨
   (T = "dict" ∧ ((∃ kvs,H p = some (.dK kvs)) ∨ ∃ kvs,H p = some (.dT kvs))) ∨ (T = "set" ∧ ∃ S n,H p = some (.set S n))
 | _ => False
theorem zlJ {pins : List (Addr × Obj)} {σ : St} {H : Hp} {s : Shared} {T : String} {x : V} {v : Value} (I : Inv X pins σ H s) (r : RelV x v) (ty : tyV X.K T x H) :
  s.TypeIs v T ∧ ∀ a,v = .ref a → ∃ ob,s.heap.get? a = some ob ∧ ob.dict = none:=by
 cases x with
 | str z =>
  obtain ⟨t,rfl⟩:=r
  cases (show T = "str" from ty)
  exact ⟨typeIs_str s z t,fun _ e => nomatch e⟩
 | int i =>
  obtain ⟨t,rfl⟩:=r
  cases (show T = "int" from ty)
  exact ⟨typeIs_int s i t,fun _ e => nomatch e⟩
 | ref p =>
  cases r
  rcases ty with ⟨rfl,xs,hq⟩ | ⟨rfl,o,hk,hc,hd⟩ | ⟨rfl,hk⟩ | ⟨rfl,S,n,hk⟩
  ·obtain ⟨its,_,pl,_⟩:=I.list hq
   refine ⟨pl.isList.typeIs,fun a e => ?_⟩
   cases e
   obtain ⟨o,n,e,c,hd,_⟩:=pl
   exact ⟨o,e,hd⟩
  ·refine ⟨⟨o,I.kIn p o hk,hc⟩,fun a e => ?_⟩
   cases e
   exact ⟨o,I.kIn _ o hk,hd⟩
  ·have z : ∃ o,s.heap.get? p = some o ∧ o.ExactDict:=by
    rcases hk with ⟨kvs,hk⟩ | ⟨kvs,hk⟩
    ·obtain ⟨_,_,_,_,o,_,_,e,ex,_⟩:=I.hok p _ hk
     exact ⟨o,e,ex⟩
    ·obtain ⟨_,_,_,_,o,_,_,e,ex,_⟩:=I.hok p _ hk
     exact ⟨o,e,ex⟩
   obtain ⟨o,e,ex⟩:=z
   refine ⟨⟨o,e,ex.1⟩,fun a e2 => ?_⟩
   cases e2
   exact ⟨o,e,ex.2.1⟩
  ·obtain ⟨o,_,_,_,e,ex,_⟩:=I.hok p _ hk
   refine ⟨⟨o,e,ex.1⟩,fun a e2 => ?_⟩
   cases e2
   exact ⟨o,e,ex.2.1⟩
 | _ => exact False.elim ty
def tBM (K : PySem.W.Frag) (T : String) (r : V → List V → Hp → VK → Prop) (to : TE) (t : TA) : TE:=fun σ H Q => to σ H fun x H1 => tyV K T x H1 ∧ t σ H1 fun xs H2 => r x xs H2 Q
variable {o e : Expr} {es : List Expr} {to : TE} {t : TA} {name : Str} {apos cpos : Pos} {T id : String} {r : V → List V → Hp → VK → Prop}
theorem zdL (pa : PlainAttrs T) (slot : Slot T name id) (hty : typeOf (.builtin id) = pure (.type "method_descriptor")) (hm : MtR X id r) (ho : PE X o to) (ha : PA X (e :: es) t)
  (hbase : attributeBase o name X.env (eval o X.env) = eval o X.env:=by rfl)
  (hfew : ((backTo cpos (starEach (e :: es) X.env)).all (fun x => !x.1) && (backToKw cpos (keywordEach [] X.env)).all (fun x => x.1.isSome)
   && decide ((e :: es).length + ([] : List Keyword).length + (if ([] : List Keyword).isEmpty then 0 else 1) < 30)) = true:=by rfl)
  (hline : (apos.endLine == cpos.line) = true:=by rfl) (hs : starEach (e :: es) X.env = (false,eval e X.env) :: starEach es X.env:=by rfl) (hplain : (backTo cpos (starEach es X.env)).any (·.1) = false:=by rfl) :
  PE X (.Call (.Attribute o name apos) (e :: es) [] cpos) (tBM X.K T r to t):=by
 intro pins s σ H Q I h
 refine wpAny_Call_method_late hbase hfew hline rfl (thn (ho pins s σ H _ I h) fun v s1 ⟨x,H1,I1,r1,ty,q1⟩ => ?_)
 obtain ⟨h1,h2⟩:=zlJ I1 r1 ty
 refine ⟨T,id,pa,slot,hty,h1,h2,?_⟩
 have hA:=ha cpos pins s1 σ H1 _ I1 q1
 rw [hs] at hA ⊢
 refine Calls.callWith_builtin (by show (false || (backTo cpos (starEach es X.env)).any (·.1)) = false; rw [hplain] <;> rfl) (Calls.evalArgs_plain ?_)
 exact thn hA fun us s2 ⟨vs,H2,I2,r2,q2⟩ => hm pins s2 σ H2 x vs v us Q I2 r1 r2 q2
end
end L2
namespace L2
open PySem PySem.Spec PyProof.Rows
def MtM (X : Cx) (id : String) (r : V → List V → Hp → VK → Prop) : Prop :=
 ∀ (pins : List (Addr × Obj)) (s : Shared) (σ : St) (H : Hp) (x : V) (xs : List V) (v : Value) (us : List Value) (Q : VK),Inv X pins σ H s → RelV x v → zJ xs us → r x xs H Q →
  wpAny (model X.prog X.w) X.A (call (.builtin id) (v :: us)) (EP X pins σ Q) X.xe s
theorem zJ.one : ∀ {x : V} {us : List Value},zJ [x] us → ∃ u,us = [u] ∧ RelV x u
 | _,_,.cons r .nil => ⟨_,rfl,r⟩
theorem zJ.eraseIdx : ∀ {xs : List V} {us : List Value} (i : Nat),zJ xs us → zJ (xs.eraseIdx i) (us.eraseIdx i)
 | _,_,_,.nil => .nil
 | _,_,0,.cons _ t => t
 | _,_,i + 1,.cons r t => .cons r (zJ.eraseIdx i t)
theorem zJ.rep {xs : List V} {us : List Value} (h : zJ xs us) : ∀ k : Nat,zJ (List.replicate k xs).flatten (List.replicate k us).flatten
 | 0 => .nil
 | k + 1 => by
  rw [List.replicate_succ,List.replicate_succ,List.flatten_cons,List.flatten_cons]
  exact zJ.append h (zJ.rep h k)
theorem zeF {α : Type} : ∀ (l : List α) (i : Nat),(l.eraseIdx i).length ≤ l.length
 | [],_ => Nat.le_refl _
 | _ :: _,0 => Nat.le_succ _
 | _ :: r,i + 1 => Nat.succ_le_succ (zeF r i)
theorem foldl_rep (its : List Value) : ∀ (k : Nat) (acc : List Value),
  List.foldl (fun x1 x2 => x1 ++ x2) acc.toArray (List.replicate k its.toArray) = (acc ++ (List.replicate k its).flatten).toArray
 | 0,acc => by simp
 | k + 1,acc => by
  have e : acc.toArray ++ its.toArray = (acc ++ its).toArray:=by simp
  have e2 : (acc ++ its) ++ (List.replicate k its).flatten = acc ++ (List.replicate (k + 1) its).flatten:=by
   rw [List.replicate_succ,List.flatten_cons,List.append_assoc]
  rw [← e2,← foldl_rep its k (acc ++ its),← e,List.replicate_succ,List.foldl_cons]
section
variable {X : Cx} {pins : List (Addr × Obj)} {σ : St} {H : Hp} {s : Shared} {l b : Addr} {xs ys zs : List V}
theorem Inv.lset {its its' : List Value} {n : Nat} {f : Array Value → Array Value} {t' : Nat} (I : Inv X pins σ H s) (hH : H l = some (.lst xs))
  (e : s.heap.get? l = some { cls:=.type "list",data:=.seq its.toArray n }) (hf : f its.toArray = its'.toArray) (hv : zJ ys its') (hz : ys.length ≤ sizeLine) :
  Inv X pins σ (upd H l (.lst ys)) { s with heap:=s.heap.update l (Obj.mapSeq f),toks:=t' }:=by
 have q:=PySem.IsL.update e f
 rw [hf] at q
 refine I.write (x:=l) (e:=l) (by rw [hH]; exact trivial) (.inl rfl) (fun b' u hb hu => (Heap.get?_update_other s.heap (Obj.mapSeq f) (Ne.symm hb)).trans hu) ⟨_,q⟩ ?_
 exact ⟨hz,its',_,hv,q⟩
theorem Inv.lnew {its : List Value} {t' : Nat} (I : Inv X pins σ H s) (hv : zJ ys its) (hz : ys.length ≤ sizeLine) :
  Inv X pins σ (upd H s.heap.objs.size (.lst ys)) { s with heap:=s.heap.push { cls:=.type "list",data:=.seq its.toArray },toks:=t' } :=
 I.laid (fun _ _ q => Heap.get?_push_of_some _ q) (Nat.le_refl _) ⟨hz,its,0,hv,Heap.get?_push_size _ rfl⟩
theorem Inv.fresh (I : Inv X pins σ H s) : H s.heap.objs.size = none:=I.hok.fresh (Nat.le_refl _)
theorem Inv.lstM (I : Inv X pins σ H s) (hH : H l = some (.lst xs)) : xs.length ≤ sizeLine ∧ ∃ (its : List Value) (n : Nat),zJ xs its ∧ xs.length = its.length ∧ s.heap.get? l = some { cls:=.type "list",data:=.seq its.toArray n }:=by
 obtain ⟨z,its,n,r,e⟩:=I.hok l _ hH
 exact ⟨z,its,n,r,r.length,e⟩
theorem zi1 {n : Nat} (h : n ≤ sizeLine) : Builtin.List.listTooLong n = false:=by
 unfold Builtin.List.listTooLong
 exact decide_eq_false (by omega)
end
section
variable {X : Cx}
def zkn : V → List V → Hp → VK → Prop:=fun x vs H Q => ∃ l xs y,x = .ref l ∧ vs = [y] ∧ H l = some (.lst xs) ∧ xs.length < sizeLine ∧ Q .non (upd H l (.lst (xs ++ [y])))
theorem zb9 : MtM X "list.append" zkn:=by
 intro pins s σ H x vs v us Q I rx rv h
 obtain ⟨l,xs,y,rfl,rfl,hH,hz,q⟩:=h
 cases rx
 obtain ⟨u,rfl,ru⟩:=rv.one
 obtain ⟨z,its,n,r,hl,e⟩:=I.lstM hH
 refine call_meets F.slot_list_append ⟨_,e,rfl⟩ F.entry_list_append (F.args_list_append_2 _ _) (PySem.list_append l its.toArray n u (by rw [List.size_toArray]; omega)) ⟨e,?_⟩
 refine ⟨.non,_,I.lset (its':=its ++ [u]) hH e (by simp) (r.append (.cons ru .nil)) ?_,rfl,q⟩
 rw [List.length_append,List.length_singleton]
 omega
def zlK : V → List V → Hp → VK → Prop:=fun x vs H Q => ∃ l xs i k y,x = .ref l ∧ vs = [.int i] ∧ H l = some (.lst xs) ∧ -(2 ^ 63) ≤ i ∧ i < 2 ^ 63 ∧ seqIndex? i xs.length = some k ∧ xs[k]? = some y ∧ Q y (upd H l (.lst (xs.eraseIdx k)))
theorem zdM : MtM X "list.pop" zlK:=by
 intro pins s σ H x vs v us Q I rx rv h
 obtain ⟨l,xs,i,k,y,rfl,rfl,hH,h1,h2,hk,hy,q⟩:=h
 cases rx
 obtain ⟨u,rfl,ru⟩:=rv.one
 obtain ⟨t,rfl⟩:=ru
 obtain ⟨z,its,n,r,hl,e⟩:=I.lstM hH
 obtain ⟨w,hw,rw'⟩:=r.get hy
 refine call_meets F.slot_list_pop ⟨_,e,rfl⟩ F.entry_list_pop (F.args_list_pop_2 _ _)
  (MeetsSeq.list_pop_at l its.toArray n i t k w (fitsIndex_both h1 h2) (by rw [List.size_toArray,← hl]; exact hk) (by rw [← Array.getElem?_toList]; exact hw) (by rw [List.size_toArray]; omega)) ⟨e,?_⟩
 refine ⟨y,_,I.lset (its':=its.eraseIdx k) hH e ?_ (r.eraseIdx k) ?_,rw',q⟩
 ·show its.toArray.eraseIdxIfInBounds k = (its.eraseIdx k).toArray
  rw [List.eraseIdxIfInBounds_toArray]
 ·have:=zeF xs k
  omega
def zne : R2:=fun x y H Q => ∃ l b xs zs,x = .ref l ∧ y = .ref b ∧ H l = some (.lst xs) ∧ H b = some (.lst zs) ∧ xs.length + zs.length ≤ sizeLine ∧ ∀ p,H p = none → Q (.ref p) (upd H p (.lst (xs ++ zs)))
theorem zdN : OpR X (binaryOp .Add) zne:=by
 intro pins s σ H x y v u Q I rx ry h
 obtain ⟨l,b,xs,zs,rfl,rfl,hH,hB,hz,q⟩:=h
 cases rx
 cases ry
 obtain ⟨z,its,n,r,hl,e⟩:=I.lstM hH
 obtain ⟨z2,its2,n2,r2,hl2,e2⟩:=I.lstM hB
 refine PySem.P.add_list e e2 ?_ (by rw [List.size_toArray,List.size_toArray]; omega)
 have ea : its.toArray ++ its2.toArray = (its ++ its2).toArray:=by simp
 rw [ea]
 exact ⟨.ref _,_,I.lnew (t':=s.toks) (r.append r2) (by rw [List.length_append]; omega),rfl,q _ I.fresh⟩
def znf : R2:=fun x y H Q => ∃ l k xs,x = .ref l ∧ y = .int k ∧ H l = some (.lst xs) ∧ -(2 ^ 63) ≤ k ∧ k < 2 ^ 63 ∧ xs.length * k.toNat ≤ sizeLine ∧
 ∀ p,H p = none → Q (.ref p) (upd H p (.lst (List.replicate k.toNat xs).flatten))
theorem len_rep {α : Type} (xs : List α) (k : Nat) : (List.replicate k xs).flatten.length = k * xs.length:=by
 induction k with
 | zero => simp
 | succ k ih => rw [List.replicate_succ,List.flatten_cons,List.length_append,ih,Nat.succ_mul,Nat.add_comm]
theorem ze5 : OpR X (binaryOp .Mult) znf:=by
 intro pins s σ H x y v u Q I rx ry h
 obtain ⟨l,k,xs,rfl,rfl,hH,h1,h2,hz,q⟩:=h
 cases rx
 obtain ⟨t,rfl⟩:=ry
 obtain ⟨z,its,n,r,hl,e⟩:=I.lstM hH
 have hlen : its.toArray.size * k.toNat ≤ sizeLine:=by rw [List.size_toArray,← hl]; exact hz
 have hcap : ¬ its.toArray.size * k.toNat > (2 ^ 63 - 1) / 8:=by
  have : (sizeLine : Nat) ≤ (2 ^ 63 - 1) / 8:=by decide
  omega
 have hfit : ¬ (!Builtin.List.listFitsIndex k) = true:=by
  rw [fitsIndex_both h1 h2]
  exact Bool.false_ne_true
 have hlong : ¬ Builtin.List.listTooLong (its.toArray.size * k.toNat) = true:=by
  rw [zi1 hlen]
  exact Bool.false_ne_true
 have hnew : List.foldl (fun x1 x2 => x1 ++ x2) #[] (List.replicate (if its.toArray.isEmpty = true then 0 else k.toNat) its.toArray) = (List.replicate k.toNat its).flatten.toArray:=by
  have f0 : ∀ m : Nat,List.foldl (fun x1 x2 => x1 ++ x2) #[] (List.replicate m its.toArray) = (List.replicate m its).flatten.toArray:=fun m => by
   have:=foldl_rep its m []
   rw [List.nil_append] at this
   exact this
  rw [f0]
  cases its with
  | nil => simp
  | cons a r' => rw [if_neg (by simp)]
 refine wpAny_binaryOp_repeat_ref (T:="list") (U:="int") (by decide) ⟨_,e,rfl⟩ (fun s' => typeIs_int s' k t) noFill_list_mul F.fills_int_mul F.slot_int_rmul repeat_list F.slot_int_index.lookup
  (call_meets F.slot_int_rmul (typeIs_int s k t) F.entry_int_rmul (F.args_int_rmul_2 _ _) (int___rmul___int_list k t l its.toArray n)
   ⟨e,rfl,⟨_,e,rfl⟩,call_meets F.slot_list_mul ⟨_,e,rfl⟩ F.entry_list_mul (F.args_list_mul_2 _ _) (AutoListH.list___mul___list_int_3 l its.toArray n k t hfit hcap hlong) ⟨e,?_⟩⟩)
 rw [hnew]
 exact ⟨.ref _,_,I.lnew (t':=s.toks) (r.rep k.toNat) (by rw [len_rep,Nat.mul_comm]; exact hz),rfl,q _ I.fresh⟩
end
section
variable {prog : Program} {w : World} {A : Around} {E : Value → Shared → Prop} {s : Shared}
end
section
variable {X : Cx}
end
end L2
namespace Att
open PySem PySem.W PySem.Calls PyProof.Rows
theorem zdm {P : Params} {h : Heap} : ∀ (ns : List Int) (vs : List Value),WellAll P h vs (ns.map WData.int) → IntsAre vs ns:=by
 intro ns
 induction ns with
 | nil =>
  intro vs w
  rw [List.map_nil] at w
  cases w
  exact .nil
 | cons n ns ih =>
  intro vs w
  rw [List.map_cons] at w
  cases w with
  | cons a b =>
   cases a
   exact .cons _ _ (ih _ b)
theorem zh6 {l : OpenLaw} {n : Nat} (hn : l.most = some n) {P : Params} {h : Heap} {args : List WData} {vals : List Value}
  (hpre : l.row.toRowW.claim.pre args = true) (hwl : WellAll P h vals args) :
  ∃ a vs ns,vals = [Value.ref a] ∧ args = [WData.list (ns.map WData.int)] ∧ h.get? a = some { cls:=.type "list",data:=.seq vs.toArray } ∧ IntsAre vs ns ∧ ns.length ≤ n:=by
 have hsh : WShape.hasAll [] args [.list .int] = true:=(pre_splitW hpre).1
 have hc : l.pre.holds [] { args:=args } = true:=(pre_splitW hpre).2
 obtain ⟨d,r,rfl,h1,h2⟩:=hasAllW_cons hsh
 obtain rfl:=hasAllW_nil h2
 obtain ⟨xs,rfl,h3⟩:=hasW_list h1
 obtain ⟨ns,rfl⟩:=items_int h3
 have hlen : ns.length ≤ n:=by
  unfold OpenLaw.pre at hc
  have h4 : (WTm.not (.lt (.lit (.int (n : Int))) (.len (.arg 0)))).holds [] { args:=[.list (ns.map .int)] } = true:=by
   have h4:=(holds_andW hc).1
   rw [hn] at h4
   exact h4
  have h5:=condW_of h4 (w_not (w_lt w_lit (w_len_list (w_arg rfl))))
  rw [List.length_map] at h5
  refine Nat.le_of_not_lt fun q => ?_
  have q' : (n : Int) < ((ns.length : Nat) : Int):=by omega
  first
   | (rw [decide_eq_true q'] at h5; exact absurd h5 (by decide))
   | (simp at h5; omega)
 cases hwl with
 | cons w1 w2 =>
  cases w2
  cases w1 with
  | list ho hall => exact ⟨_,_,ns,rfl,rfl,ho,zdm ns _ hall,hlen⟩
theorem zh7 (l : OpenLaw) (args : List WData) : l.row.toRowW.claim.post args (.bool true) args = true :=
 postW_of (r:=l.row.toRowW) (X:=(true == true))
  (show WShape.has [] (.bool true) .bool = true by first | rfl | decide | simp [WShape.has,WShape.arms,WShape.armsAll])
  (show (WTm.eq .res (.lit (.bool true))).value [] { args:=args,res:=some (.bool true),after:=args } = some (.bool (true == true)) from w_eq_bool (w_res rfl) w_lit) rfl
theorem attach_call {l : OpenLaw} {n : Nat} {q : Program} {loose : List Str} {XP : (Str → Option Value) → Heap → Prop} {YP : World → Heap → Prop} {d : DefRec}
  (hn : l.most = some n) (hdf : d.params.defaults = [])
  (call : ∀ (w : World) (s₀ s₁ : Shared) (mg mb : Str → Option Value) (fa : Addr) (o : Obj) (pm cd doc : Value) (a : Addr) (vs : List Value) (ns : List Int),
   Ground q loose [] XP w s₀ mg mb s₁.heap → YP w s₁.heap →
   s₁.heap.get? fa = some o → o.data = .func (docDef d.name d.params d.body d.scope pm cd doc) → s₁.heap.CodeRec cd d.name → mg d.name = some (.ref fa) →
   s₁.heap.get? a = some { cls:=.type "list",data:=.seq vs.toArray } → IntsAre vs ns → ns.length ≤ n → s₁.gens = #[] →
   codeAny (model l.prog w) callerA (.call (.ref fa) ⟨[.ref a],[]⟩) (fun r s' => r = .ok (.ret (.bool true)) ∧ OldK s₁.heap s'.heap ∧ s'.os = s₁.os ∧ AllBare s'.gens) s₁) :
  WalkO q loose XP YP l.row.toRowW d [] (fun f vs => PySem.call f vs):=by
 intro w s₀ s₁ mg mb G Y fa o pm cd doc dV kV ho hd hcd hD hmg hg args vals as hpre hlay hrd hwl hlo
 obtain rfl : dV = .none:=Dflts.none hD hdf
 obtain rfl : kV = .none:=Dflts.noKw hD
 obtain ⟨a,vs,ns,rfl,rfl,hobj,hints,hlen⟩:=zh6 hn hpre hwl
 refine enter_call (codeAny_mono (call w s₀ s₁ mg mb fa o pm cd doc a vs ns G Y ho (fd_plain hd) hcd hmg hobj hints hlen hg) fun r s' hq => ?_)
 obtain ⟨rfl,h2,h3,h4⟩:=hq
 exact ⟨.inl ⟨.bool true,.bool true,[],rfl,fun _ => rfl,.bool true,zh7 l _,fun _ => ⟨List.Pairwise.nil,fun _ hm => (nomatch hm)⟩⟩,h2,h3,h4⟩
section
variable {prog : Program} {w : World} {A : Around} {E : Value → Shared → Prop} {s : Shared} {K : Frag}
end
end Att
namespace L2
open PySem PySem.Spec PyProof.Rows
theorem zeG : ∀ {vs : List Value} {ns : List Int},IntsAre vs ns → zJ (ns.map V.int) vs
 | _,_,.nil => .nil
 | _,_,.cons n t h => .cons ⟨t,rfl⟩ (zeG h)
def zlL (H : Hp) : Prop:=∀ b,H b = none ∨ ∃ o xs,H b = some (.frz o (.lst xs))
theorem zi2 {P : Program} {w : World} {K : PySem.W.Frag} {mg mb : Str → Option Value} {CX : CXT} {k : Nat} {fa a : Addr} {fd : FuncData} {x : Str} {sp : Sp} {s₁ : Shared} {vs : List Value} {ns : List Int}
  (KX : K.In s₁.heap) (hns : s₁.heap.Ns mainGlobals mg) (hb : s₁.heap.Ns builtinsNs mb) (hbb : ∀ x : Str,x ≠ "__name__" → mb x = bootBuiltins x) (hlim : s₁.heap.NoLimit) (hg : s₁.gens = #[])
  (ha : s₁.heap.get? a = some { cls:=.type "list",data:=.seq vs.toArray }) (hi : IntsAre vs ns) (hl : ns.length ≤ sizeLine) (hr : Room k callerA)
  (F : ∀ base : Heap,K.In base → base.Ns mainGlobals mg → FnOk P w K mg base CX k fa fd [x] sp) (hbind : ∀ (s : Shared) (u : Value),BindsTo s fd ⟨[u],[]⟩ [(x,u)])
  (hsp : ∀ H : Hp,zlL H → SqL K H a (ns.map V.int) → sp [.ref a] H (fun v _ => v = .bl true) fun _ _ _ => False)
  (hCX : ∀ H e s',CX [] H s₁ (fun _ _ _ => False) e s' → False) :
  codeAny (model P w) callerA (.call (.ref fa) ⟨[.ref a],[]⟩) (fun r s' => r = .ok (.ret (.bool true)) ∧ OldK s₁.heap s'.heap ∧ s'.os = s₁.os ∧ AllBare s'.gens) s₁:=by
 have rv:=zeG hi
 have lenV:=hi.length
 have core : ∀ H : Hp,zlL H → SqL K H a (ns.map V.int) → HOk P w H s₁.heap → (∀ b,H b ≠ none → b = a) → (H a ≠ none → K.lookup a = none) →
   codeAny (model P w) callerA (.call (.ref fa) ⟨[.ref a],[]⟩) (fun r s' => r = .ok (.ret (.bool true)) ∧ OldK s₁.heap s'.heap ∧ s'.os = s₁.os ∧ AllBare s'.gens) s₁:=by
  intro H hO hS hok hA hK
  have base_of : ∀ {b : Addr} {o : Obj},s₁.heap.get? b = some o → H b = none → (zeY s₁.heap H).get? b = some o:=fun e n => ziL e n
  have noA : ∀ {b : Addr} {o : Obj} {es : Array DictEntry} {ep : Nat},s₁.heap.get? b = some o → o.data = .dict es ep → H b = none:=fun {b o es ep} e d => by
   cases q : H b with
   | none => rfl
   | some u =>
    have e' : b = a:=hA b (by rw [q]; simp)
    subst e'
    rw [ha] at e; cases e
    have d' : Data.seq vs.toArray _ = Data.dict es ep:=d
    cases d'
  have nsK : ∀ {b : Addr} {m : Str → Option Value},s₁.heap.Ns b m → (zeY s₁.heap H).Ns b m:=fun {b m} ⟨o,es,ep,e,d,r⟩ => ⟨o,es,ep,base_of e (noA e d),d,r⟩
  have hKb : K.In (zeY s₁.heap H):=fun b o e => base_of (KX b o e) (by
   cases q : H b with
   | none => rfl
   | some u =>
    have e' : b = a:=hA b (by rw [q]; simp)
    subst e'
    rw [hK (by rw [q]; simp)] at e; cases e)
  have hM : Mod K mg (zeY s₁.heap H):=⟨hKb,nsK hns,⟨mb,nsK hb,hbb⟩,let ⟨mc,h1,h2⟩:=hlim; ⟨mc,nsK h1,h2⟩⟩
  have e0 : Env0 P w K mg (zeY s₁.heap H) callerA [] s₁ H:=⟨rfl,hM,fun b o e => zkc e,Nat.le_of_eq (zhY _ _),trivial,fun b hb => absurd (show b ∈ ([] : List Addr) from hb) (by simp),hok,.of_eq hg⟩
  refine codeAny_mono ((F _ hKb (nsK hns)).run callerA [] s₁ H ⟨[.ref a],[]⟩ [.ref a] [.ref a] _ _ hr e0 (hbind s₁ (.ref a)) (.cons rfl .nil) (hsp H hO hS)) fun r s' h => ?_
  cases r with
  | error e => exact (hCX H e s' h).elim
  | ok fl =>
   cases fl with
   | next => exact False.elim h
   | brk => exact False.elim h
   | cont => exact False.elim h
   | ret u =>
    obtain ⟨v,H',os,bare,un,hok',r',q⟩:=h
    have q' : v = .bl true:=q
    subst q'
    obtain rfl : u = Value.bool true:=r'
    refine ⟨rfl,OldK.of_keep fun b o e => ?_,os,bare⟩
    cases q : H b with
    | none => exact un.keep b o e q (by intro z; exact absurd (show b ∈ ([] : List Addr) from z) (by simp)) (by simp)
    | some u =>
     rcases hO b with z | ⟨ob,xs,z⟩
     ·rw [q] at z; cases z
     ·have z2:=un.frzs b ob _ z
      obtain ⟨e1,_⟩:=hok b _ z
      obtain ⟨e2,_⟩:=hok' b _ z2
      rw [e] at e1; cases e1
      exact e2
 cases hk : K.lookup a with
 | some o =>
  have e:=KX a o hk
  rw [ha] at e
  cases e
  refine core (fun _ => none) (fun _ => .inl rfl) (.inr ⟨_,vs.toArray,_,hk,rfl,rfl,rfl,by rw [List.size_toArray,lenV]; exact hl,by simpa using rv⟩) (fun b u z => by have z' : (none : Option HO) = some u:=z; cases z') (fun b z => absurd rfl z) fun z => absurd rfl z
 | none =>
  refine core (fun b => if b = a then some (.frz { cls:=.type "list",data:=.seq vs.toArray } (.lst (ns.map V.int))) else none) (fun b => ?_) (.inl (.inr ⟨{ cls:=.type "list",data:=.seq vs.toArray },if_pos rfl⟩)) (fun b u z => ?_) (fun b z => ?_) fun _ => hk
  ·by_cases hb : b = a
   ·exact .inr ⟨_,_,if_pos hb⟩
   ·exact .inl (if_neg hb)
  ·by_cases hb : b = a
   ·have z':=(if_pos hb).symm.trans z
    cases z'
    subst hb
    exact ⟨ha,by rw [List.length_map]; exact hl,vs,_,rv,ha⟩
   ·have z':=(if_neg hb).symm.trans z
    cases z'
  ·by_cases hb : b = a
   ·exact hb
   ·exact absurd (if_neg hb) z
end L2
namespace L2
open PySem PySem.Spec PyProof.Rows
theorem zko {l : PySem.W.OpenLaw} {n k : Nat} {q : Program} {loose : List Str} {XP : (Str → Option Value) → Heap → Prop} {YP : World → Heap → Prop} {d : DefRec} {K : Params → PySem.W.Frag} {CX : World → CXT} {sp : World → Sp} {x : Str}
  (hn : l.most = some n) (hn2 : n ≤ sizeLine) (hdf : d.params.defaults = []) (hr : Room k callerA)
  (hY : ∀ (w : World) (h : Heap),YP w h → (K w.params).In h)
  (F : ∀ (w : World) (mg : Str → Option Value) (fa : Addr) (h : Heap),(K w.params).In h → h.Ns mainGlobals mg → mg d.name = some (.ref fa) →
   ∃ fd : FuncData,(∀ (s : Shared) (u : Value),BindsTo s fd ⟨[u],[]⟩ [(x,u)]) ∧
    ∀ base : Heap,(K w.params).In base → base.Ns mainGlobals mg → FnOk l.prog w (K w.params) mg base (CX w) k fa fd [x] (sp w))
  (hsp : ∀ (w : World) (H : Hp) (a : Addr) (ns : List Int),ns.length ≤ n → zlL H → SqL (K w.params) H a (ns.map V.int) → sp w [.ref a] H (fun v _ => v = .bl true) fun _ _ _ => False)
  (hCX : ∀ (w : World) (H : Hp) (s : Shared) (e : Value) (s' : Shared),CX w [] H s (fun _ _ _ => False) e s' → False) :
  PySem.W.WalkO q loose XP YP l.row.toRowW d [] (fun f vs => PySem.call f vs):=by
 refine Att.attach_call hn hdf fun w s₀ s₁ mg mb fa o pm cd doc a vs ns G Y ho hd hcd hmg hobj hints hlen hg => ?_
 have KX:=hY w _ Y
 obtain ⟨fd,hb,hF⟩:=F w mg fa _ KX G.T.g hmg
 exact zi2 KX G.T.g G.T.b G.T.builtins G.T.nolimit hg hobj hints (Nat.le_trans hlen hn2) hr hF hb (fun H hO hS => hsp w H a ns hlen hO hS) fun H e s' => hCX w H s₁ e s'
end L2
namespace L2
open PySem PySem.Spec PyProof.Rows
def zbl (s : Stmt) : Arguments:=match s with
 | .FunctionDef _ a _ _ _ _ _ _ _ _ => a
 | _ => { posonlyargs:=[],args:=[],vararg:=none,kwonlyargs:=[],kw_defaults:=[],kwarg:=none,defaults:=[] }
def zbc (s : Stmt) : List Stmt:=match s with
 | .FunctionDef _ _ b _ _ _ _ _ _ _ => b
 | _ => []
def zj (s : Stmt) : Scope:=match s with
 | .FunctionDef _ _ _ _ _ _ sc _ _ _ => sc
 | _ => { kind:=.function,names:=[],isGenerator:=false,isCoroutine:=false }
abbrev CX0 : CXT:=fun _ _ _ _ _ _ => False
abbrev E0 : XK:=fun _ _ _ => False
theorem zK {X : Cx} : zgy CX0 X E0:=fun _ _ _ _ _ _ _ h => h.elim
structure Fun (K : PySem.W.Frag) (x qual : Str) (st : Stmt) (f : Addr) (fd : FuncData) : Prop where
 ex : ∃ (oc : Value) (od : Option Addr) (kV doc pm : Value) (an : Option Addr) (cdv ct : Value) (osl : Array (Option Value)),
  fd = PySem.W.fnOf x qual (zbl st) (zbc st) (zj st) .none kV doc pm an cdv ct ∧ K.lookup f = some ⟨oc,od,.func fd,osl⟩ ∧ PySem.W.codeIn K cdv qual = true
 kp : PySem.W.keepIn K (.ref f) = true
section
variable {P : Program} {w : World} {K : PySem.W.Frag} {mg : Str → Option Value} {base : Heap}
theorem Fun.ok {x qual : Str} {st : Stmt} {f : Addr} {fd : FuncData} {N ps : List Str} {k : Nat} {sp : Sp} (F : Fun K x qual st f fd) (S : FnScope N ps (zj st)) (len : ∀ vs H Q E,sp vs H Q E → vs.length = ps.length)
  (hbody : ∀ (cdv : Value) (A : Around) (outer : List Env) (s : Shared) (H : Hp) (vs : List V) (Q : VK) (E : XK),Room k (A.deeper (envOfC qual (zj st) s.heap.objs.size f cdv)) → sp vs H Q E →
   ∃ t,PSs (zh4 CX0 P w K mg base N qual (zj st) f cdv A outer s H E).nox (zbc st) t ∧ t { nx:=fun _ H' => Q .non H',rt:=Q } (start N vs) H) : FnOk P w K mg base CX0 (k + 1) f fd ps sp:=by
 obtain ⟨oc,od,kV,doc,pm,an,cdv,ct,osl,rfl,lk,hcd⟩:=F.ex
 refine zmA lk hcd S len fun A outer s H vs Q E hr hsp => ?_
 obtain ⟨t,h,q⟩:=hbody cdv A outer s H vs Q E hr hsp
 exact ⟨t,h.nox,q⟩
theorem Fun.binds {x qual : Str} {st : Stmt} {f : Addr} {fd : FuncData} {ps : List Str} (F : Fun K x qual st f fd)
  (h : ∀ (kV doc pm : Value) (an : Option Addr) (cdv ct : Value) (us : List Value),us.length = ps.length → bindArgs (PySem.W.fnOf x qual (zbl st) (zbc st) (zj st) .none kV doc pm an cdv ct) ⟨us,[]⟩ = pure (ps.zip us)) : Binds K fd ps []:=by
 obtain ⟨oc,od,kV,doc,pm,an,cdv,ct,osl,rfl,lk,hcd⟩:=F.ex
 exact .all (h kV doc pm an cdv ct)
theorem zi3 {x qual : Str} {st : Stmt} {f : Addr} {oc : Value} {od an : Option Addr} {osl : Array (Option Value)} {kV doc pm cdv ct : Value} (l : K.lookup f = some ⟨oc,od,.func (PySem.W.fnOf x qual (zbl st) (zbc st) (zj st) .none kV doc pm an cdv ct),osl⟩)
  (c : PySem.W.codeIn K cdv qual = true) (k : PySem.W.keepIn K (.ref f) = true) : Fun K x qual st f (PySem.W.fnOf x qual (zbl st) (zbc st) (zj st) .none kV doc pm an cdv ct):=⟨⟨oc,od,kV,doc,pm,an,cdv,ct,osl,rfl,l,c⟩,k⟩
end
section
variable {X : Cx}
end
theorem zek {A B : Prop} (h : B) : if false = true then A else B:=by
 rw [if_neg Bool.false_ne_true]
 exact h
theorem zng {A B : Prop} (h : A) : if true = true then A else B:=by
 rw [if_pos rfl]
 exact h
theorem zay {c A B : Prop} [Decidable c] (h1 : c → A) (h2 : ¬ c → B) : if c then A else B:=by
 by_cases h : c
 ·rw [if_pos h]
  exact h1 h
 ·rw [if_neg h]
  exact h2 h
def zy (H H' : Hp) : Prop:=∀ b o,H b = some o → H' b = some o
theorem zy.trans {H H1 H2 : Hp} (a : zy H H1) (b : zy H1 H2) : zy H H2:=fun c o h => b c o (a c o h)
theorem zy.free {H H' : Hp} (e : zy H H') {l : Addr} (h : H' l = Option.none) : H l = Option.none:=by
 cases q : H l with
 | none => rfl
 | some o =>
  rw [e l o q] at h
  cases h
theorem zy.seq {K : PySem.W.Frag} {H H' : Hp} {a : Addr} {xs : List V} (e : zy H H') (h : SqL K H a xs) : SqL K H' a xs:=by
 rcases h with (h | ⟨o,h⟩) | h
 ·exact .inl (.inl (e _ _ h))
 ·exact .inl (.inr ⟨o,e _ _ h⟩)
 ·exact .inr h
end L2
section
set_option maxHeartbeats 3999000
namespace L2
open PySem PySem.Spec PyProof.Rows
def zaQ (cs : List (Str × Addr)) : List (Str × NameKind) → List (Str × Addr) → List (Str × Addr)
 | [],acc => acc
 | (n,k) :: r,acc => if k == .free then zaQ cs r ((n,(cs.lookup n).getD 0) :: acc) else zaQ cs r acc
theorem zco {scope : Scope} {env : Env} (h : ∀ y ∈ scope.names,y.2 = .free → ∃ c,env.cells.lookup y.1 = some c) :
  closureFor scope env = pure (zaQ env.cells scope.names []):=by
 have go : ∀ (names : List (Str × NameKind)) (acc : List (Str × Addr)),(∀ y ∈ names,y.2 = .free → ∃ c,env.cells.lookup y.1 = some c) →
   (forIn names acc (fun (x : Str × NameKind) (cs : List (Str × Addr)) => (if (x.2 == NameKind.free) = true then do
    let a ← cellOf env x.1
    pure (ForInStep.yield ((x.1,a) :: cs)) else pure (ForInStep.yield cs) : Sem (ForInStep (List (Str × Addr)))))) = (pure (zaQ env.cells names acc) : Sem _):=by
  intro names
  induction names with
  | nil => intro acc _; rfl
  | cons y r ih =>
   intro acc hy
   obtain ⟨n,k⟩:=y
   rw [List.forIn_cons]
   cases hk : (k == NameKind.free) with
   | true =>
    obtain ⟨c,hc⟩:=hy (n,k) List.mem_cons_self (by simpa using hk)
    have hcell : cellOf env n = pure c:=by
     unfold cellOf
     have hc' : env.cells.lookup n = some c:=hc
     rw [hc']
    simp only [hk,if_true,hcell]
    have e:=ih ((n,c) :: acc) fun y hy' => hy y (List.mem_cons_of_mem _ hy')
    have hc' : env.cells.lookup n = some c:=hc
    simp only [zaQ,hk,if_true,hc',Option.getD_some]
    exact e
   | false =>
    simp only [hk,Bool.false_eq_true,if_false]
    have e:=ih acc fun y hy' => hy y (List.mem_cons_of_mem _ hy')
    simp only [zaQ,hk,Bool.false_eq_true,if_false]
    exact e
 have e:=go scope.names [] h
 unfold closureFor
 show (forIn scope.names [] _ >>= fun cs => pure cs) = _
 first
  | (rw [e]; rfl)
  | (simp only []; rw [e]; rfl)
  | (have e':=e; simp at e' ⊢; exact e')
theorem zbp {cs : List (Str × Addr)} : ∀ (names : List (Str × NameKind)) (acc : List (Str × Addr)),
  (∀ y ∈ names,y.2 = .free → ∃ c,cs.lookup y.1 = some c) → (∀ x c,acc.lookup x = some c → cs.lookup x = some c) →
  ∀ x c,(zaQ cs names acc).lookup x = some c → cs.lookup x = some c
 | [],acc,_,h,x,c,e => h x c e
 | (n,k) :: r,acc,hy,h,x,c,e => by
  have hr : ∀ y ∈ r,y.2 = .free → ∃ c,cs.lookup y.1 = some c:=fun y hy' => hy y (List.mem_cons_of_mem _ hy')
  unfold zaQ at e
  cases hk : (k == NameKind.free) with
  | false =>
   rw [hk] at e
   exact zbp r acc hr h x c e
  | true =>
   rw [hk] at e
   obtain ⟨d,hd⟩:=hy (n,k) List.mem_cons_self (by simpa using hk)
   have hd' : cs.lookup n = some d:=hd
   refine zbp r _ hr (fun x c e' => ?_) x c e
   rw [hd',Option.getD_some,List.lookup_cons] at e'
   cases hx : (x == n) with
   | true =>
    rw [hx] at e'
    have : x = n:=by simpa using hx
    subst this
    rw [hd']
    exact e'
   | false =>
    rw [hx] at e'
    exact h x c e'
theorem zbF {cs : List (Str × Addr)} : ∀ (names : List (Str × NameKind)) (acc : List (Str × Addr)) (x : Str),
  ((∃ c,acc.lookup x = some c) ∨ (x,NameKind.free) ∈ names) → ∃ c,(zaQ cs names acc).lookup x = some c
 | [],acc,x,h => by
  rcases h with h | h
  ·exact h
  ·cases h
 | (n,k) :: r,acc,x,h => by
  unfold zaQ
  cases hk : (k == NameKind.free) with
  | false =>
   refine zbF r acc x ?_
   rcases h with h | h
   ·exact .inl h
   ·rcases List.mem_cons.mp h with h | h
    ·cases h
     exact absurd hk (by decide)
    ·exact .inr h
  | true =>
   refine zbF r _ x ?_
   cases hx : (x == n) with
   | true => exact .inl ⟨_,by rw [List.lookup_cons,hx]⟩
   | false =>
    rcases h with ⟨c,h⟩ | h
    ·exact .inl ⟨c,by rw [List.lookup_cons,hx]; exact h⟩
    ·rcases List.mem_cons.mp h with h | h
     ·cases h
      simp at hx
     ·exact .inr h
theorem lookup_mem {α : Type} : ∀ {l : List (Str × α)} {x : Str} {k : α},l.lookup x = some k → (x,k) ∈ l
 | [],x,k,h => by simp at h
 | (n,j) :: r,x,k,h => by
  rw [List.lookup_cons] at h
  cases hx : (x == n) with
  | true =>
   rw [hx] at h
   have : x = n:=by simpa using hx
   subst this
   cases h
   exact List.mem_cons_self
  | false =>
   rw [hx] at h
   exact List.mem_cons_of_mem _ (lookup_mem h)
theorem zba {env : Env} : ∀ {names : List (Str × NameKind)} {x : Str},names.lookup x = some .free →
  (names.map fun (n,k) => if (k == NameKind.free && env.scope.kind == .function && env.kindOf n == some .cell) then (n,NameKind.cell) else (n,k)).lookup x = some .cell ∨
  (names.map fun (n,k) => if (k == NameKind.free && env.scope.kind == .function && env.kindOf n == some .cell) then (n,NameKind.cell) else (n,k)).lookup x = some .free
 | [],_,h => by simp at h
 | (n,k) :: r,x,h => by
  have ih:=@zba env r x
  simp only [List.map_cons]
  cases hx : x == n with
  | true =>
   simp only [List.lookup_cons,hx] at h; cases h
   by_cases hc : (NameKind.free == NameKind.free && env.scope.kind == .function && env.kindOf n == some .cell) = true
   ·rw [if_pos hc]; left; simp only [List.lookup_cons,hx]
   ·rw [if_neg hc]; right; simp only [List.lookup_cons,hx]
  | false =>
   simp only [List.lookup_cons,hx] at h; rcases Classical.em ((k == NameKind.free && env.scope.kind == .function && env.kindOf n == some .cell) = true) with hc | hc
   ·exact (by rw [if_pos hc]; simp only [List.lookup_cons,hx]; exact ih h)
   ·exact (by rw [if_neg hc]; simp only [List.lookup_cons,hx]; exact ih h)
theorem zcD {env : Env} : ∀ {names : List (Str × NameKind)} {x : Str},
  ((names.map fun (n,k) => if (k == NameKind.free && env.scope.kind == .function && env.kindOf n == some .cell) then (n,NameKind.cell) else (n,k)).lookup x = some .cell ∨
  (names.map fun (n,k) => if (k == NameKind.free && env.scope.kind == .function && env.kindOf n == some .cell) then (n,NameKind.cell) else (n,k)).lookup x = some .free) →
  names.lookup x = some .free ∨ names.lookup x = some .cell
 | [],_,h => by simp at h
 | (n,k) :: r,x,h => by
  have ih:=@zcD env r x
  simp only [List.map_cons] at h
  cases hx : x == n with
  | true =>
   rcases Classical.em ((k == NameKind.free && env.scope.kind == .function && env.kindOf n == some .cell) = true) with hc | hc
   ·have hk : k = .free:=by
     simp only [Bool.and_eq_true] at hc; simpa using hc.1.1
    subst hk
    exact .inl (by simp only [List.lookup_cons,hx])
   ·rw [if_neg hc] at h
    simp only [List.lookup_cons,hx] at h ⊢
    rcases h with h | h
    ·exact .inr h
    ·exact .inl h
  | false =>
   rcases Classical.em ((k == NameKind.free && env.scope.kind == .function && env.kindOf n == some .cell) = true) with hc | hc
   ·rw [if_pos hc] at h
    simp only [List.lookup_cons,hx] at h ⊢
    exact ih h
   ·rw [if_neg hc] at h
    simp only [List.lookup_cons,hx] at h ⊢
    exact ih h
end L2
end
section
set_option maxHeartbeats 3999000
namespace L2
open PySem PySem.Spec PyProof.Rows
abbrev zG (X : Cx) (N' : List Str) (scope : Scope) (s₃ : Shared) (H₃ : Hp) (ex : List Addr) (pins : List (Addr × Obj)) : Cx :=
 { X with N:=N',s₀:=s₃,H₀:=H₃,env:=compEnvC scope (zaQ X.env.cells scope.names []) s₃.heap.objs.size X.env,outer:=X.stack,stack:=X.stack,ex:=ex,fn:=fun _ => false,pn:=X.pn ++ pins,xe:=fun _ _ => False }
def zgC (ifs : List Expr) (env : Env) : Sem Bool :=
 forIn ifs true fun c r => if r = true then do let ok ← isTrue c env (eval c env); pure (ForInStep.yield ok) else pure (ForInStep.yield r)
def zcE (X : Cx) (ifs : List Expr) (t : TT) : Prop :=
 ∀ (pins : List (Addr × Obj)) (s : Shared) (σ : St) (H : Hp) (Q : Bool → Hp → Prop),Inv X pins σ H s → t σ H Q → wpAny (model X.prog X.w) X.A (zgC ifs X.env) (TP X pins σ Q) X.xe s
def zlM : TT:=fun _ H Q => Q true H
theorem zU {X : Cx} : zcE X [] zlM:=fun _ _ _ H _ I h => wpAny_pure ⟨H,I,h⟩
theorem za3 {X : Cx} {c : Expr} {t : TT} (h : PT X c t) : zcE X [c] t:=by
 intro pins s σ H Q I hw
 unfold zgC
 rw [List.forIn_cons]
 simp only [if_true]
 exact wpAny_bind (wpAny_bind (thn (h pins s σ H _ I hw) fun b s1 q => wpAny_pure (wpAny_pure q)))
structure CompSc (X : Cx) (N' : List Str) (ix : List (Option Nat)) (scope : Scope) : Prop where
 kind : scope.kind = .function
 nocell : ∀ y ∈ scope.names,y.2 ≠ .cell
 names : ∀ y ∈ scope.names,y.2 = .local → scope.names.lookup y.1 = some .local
 free : ∀ y ∈ scope.names,y.2 = .free → X.env.kindOf y.1 = some .cell ∨ X.env.kindOf y.1 = some .free
 len : N'.length = ix.length
 cap : ∀ j i : Nat,ix[j]? = some (some i) → ∃ x,N'[j]? = some x ∧ X.N[i]? = some x ∧ scope.names.lookup x = some .free
def zg8 (osc : Scope) (oN N' : List Str) (ix : List (Option Nat)) (scope : Scope) : Bool :=
 (scope.kind == .function) && (scope.names.all fun y => y.2 != .cell) && (scope.names.all fun y => y.2 != .local || scope.names.lookup y.1 == some .local) &&
 (scope.names.all fun y => y.2 != .free || (osc.names.lookup y.1 == some .cell || osc.names.lookup y.1 == some .free)) && (N'.length == ix.length) &&
 ((List.range ix.length).all fun j => match ix[j]? with
  | some (some i) => (match N'[j]? with
   | some x => oN[i]? == some x && scope.names.lookup x == some .free
   | none => false)
  | _ => true)
theorem CompSc.of {X : Cx} {N' : List Str} {ix : List (Option Nat)} {scope : Scope} (osc : Scope) (oN : List Str) (h1 : X.env.scope = osc) (h2 : X.N = oN) (hb : zg8 osc oN N' ix scope = true) : CompSc X N' ix scope:=by
 unfold zg8 at hb
 simp only [Bool.and_eq_true,List.all_eq_true] at hb
 obtain ⟨⟨⟨⟨⟨a,b⟩,c⟩,d⟩,e⟩,f⟩:=hb
 refine ⟨?_,fun y hy => ?_,fun y hy hl => ?_,fun y hy hf => ?_,by simpa using e,fun j i hj => ?_⟩
 ·revert a
  cases scope.kind <;> first | (intro _; rfl) | (intro h; exact absurd h (by decide))
 ·have:=b y hy
  simpa using this
 ·have:=c y hy
  rw [hl] at this
  simpa using this
 ·have:=d y hy
  rw [hf] at this
  have e1 : X.env.kindOf y.1 = osc.names.lookup y.1:=by rw [← h1]; rfl
  rw [e1]
  simpa using this
 ·have hlt : j < ix.length:=(List.getElem?_eq_some_iff.mp hj).1
  have:=f j (List.mem_range.mpr hlt)
  rw [hj] at this
  cases hN : N'[j]? with
  | none =>
   rw [hN] at this
   simp at this
  | some x =>
   rw [hN] at this
   refine ⟨x,rfl,?_⟩
   rw [h2]
   simpa using this
def zcF (ix : List (Option Nat)) (σ : St) : St:=ix.map fun o => match o with
 | none => none
 | some i => (σ[i]?).join
theorem Inv.track {X : Cx} {pins : List (Addr × Obj)} {σ : St} {H : Hp} {s : Shared} {D : Addr} {o : HO} (I : Inv X pins σ H s) (hn : H D = none) (hs : X.s₀.heap.objs.size ≤ D) (hL : X.env.locals ≠ D)
  (hC : ∀ x c,X.env.cells.lookup x = some c → c ≠ D) (hp : ∀ p ∈ X.pn ++ pins,p.1 ≠ D) (ok : zab X.prog X.w (upd H D o) s.heap D o) : Inv X pins σ (upd H D o) s:=by
 have ne : ∀ b u,H b = some u → b ≠ D:=fun b u e => zF e hn
 refine ⟨I.ok,I.os,I.bare,⟨I.base.keep,I.base.slot,fun b u e n hx => ?_,I.base.there,fun b xs e => ?_,fun b u xs e => ?_,fun b ps e => ?_⟩,I.loc,I.cell,?_,fun x c e => ?_,fun p hp' => ?_,fun b u e => ?_,I.len⟩
 ·have : b ≠ D:=Nat.ne_of_lt (Nat.lt_of_lt_of_le (Heap.lt_size e) hs)
  rw [zr this]
  exact I.base.free b u e n hx
 ·have:=I.base.tups b xs e
  rw [zr (ne b _ this)]
  exact this
 ·have:=I.base.frzs b u xs e
  rw [zr (ne b _ this)]
  exact this
 ·obtain ⟨more,q⟩:=I.base.tbls b ps e
  exact ⟨more,by rw [zr (ne b _ q)]; exact q⟩
 ·rw [zr hL]
  exact I.free
 ·rw [zr (hC x c e)]
  exact I.freeC x c e
 ·obtain ⟨a1,a2,a3⟩:=I.pin p hp'
  exact ⟨a1,by rw [zr (hp p hp')]; exact a2,a3⟩
 ·by_cases hb : b = D
  ·subst hb
   rw [zc] at e
   cases e
   exact ok
  ·rw [zr hb] at e
   exact (I.hok b u e).stay (fun c v _ q => q) (fun c q => by rw [zr (ne c _ q)]; exact q) fun c xs q => by rw [zr (ne c _ q)]; exact q
def cGo (g : TG) (ts : TT) (te : TE) (σ0 : St) (J : It) (Q : VK) (H1 : Hp) : Prop :=
 ∃ W : Nat → Nat → List V → Hp → Prop,(∃ m,W 0 m [] H1) ∧ ∀ i m ys H,W i m ys H →
  (J.stop i H ∧ ∀ D,H D = none → Q (.ref D) (upd H D (.lst ys))) ∨
  (J.go i H ∧ ∃ N : List V → Hp → Prop,(∀ ys' H',N ys' H' → ∃ m',m' < m ∧ W (i + 1) m' ys' H') ∧ ∀ x H',J.yld i H x H' → g x σ0 H' fun σ2 H2 => ts σ2 H2 fun b H3 =>
   if b = true then te σ2 H3 fun y H4 => ys.length < sizeLine ∧ N (ys ++ [y]) H4 else N ys H3)
def zli (ix : List (Option Nat)) (wi : TI) (g : TG) (ts : TT) (te : TE) : TE:=fun σ H Q => wi σ H fun J H1 => cGo g ts te (zcF ix σ) J Q H1
theorem z8 {J : It} {n : Nat} {g : TG} {ts : TT} {te : TE} {σ0 : St} {Q : VK} {H : Hp} (Pv : Nat → List V → Hp → Prop) (h0 : Pv 0 [] H) (hgo : ∀ i ys H,i < n → Pv i ys H → J.go i H) (hst : ∀ ys H,Pv n ys H → J.stop n H)
  (hs : ∀ i x ys H H',i < n → Pv i ys H → J.yld i H x H' → g x σ0 H' fun σ2 H2 => ts σ2 H2 fun b H3 => if b = true then te σ2 H3 fun y H4 => ys.length < sizeLine ∧ Pv (i + 1) (ys ++ [y]) H4 else Pv (i + 1) ys H3)
  (hd : ∀ ys H D,Pv n ys H → H D = none → Q (.ref D) (upd H D (.lst ys))) : cGo g ts te σ0 J Q H:=by
 refine ⟨fun i m ys H => m = n - i ∧ i ≤ n ∧ Pv i ys H,⟨n,by simp,Nat.zero_le _,h0⟩,?_⟩
 rintro i m ys H ⟨rfl,hi,p⟩
 by_cases hlt : i < n
 ·exact .inr ⟨hgo i ys H hlt p,Pv (i + 1),fun ys' H' p' => ⟨n - (i + 1),by omega,rfl,hlt,p'⟩,fun x H' y => hs i x ys H H' hlt p y⟩
 ·have e : i = n:=by omega
  subst e
  exact .inl ⟨hst ys H p,fun D hD => hd ys H D p hD⟩
theorem zgD {J : It} {n : Nat} {g : TG} {tb : TS} {D : Ends} {σ : St} {H : Hp} (Pv : Nat → St → Hp → Prop) (h0 : Pv 0 σ H) (hgo : ∀ i σ H,i < n → Pv i σ H → J.go i H) (hst : ∀ σ H,Pv n σ H → J.stop n H)
  (hs : ∀ i x σ H H',i < n → Pv i σ H → J.yld i H x H' → g x σ H' fun σ2 H2 => tb { D with nx:=Pv (i + 1),ct:=Pv (i + 1),bk:=D.nx } σ2 H2) (hd : ∀ σ H,Pv n σ H → D.nx σ H) :
  ∃ W : Nat → Nat → St → Hp → Prop,(∃ m,W 0 m σ H) ∧ ∀ i m σ H,W i m σ H →
   (J.stop i H ∧ D.nx σ H) ∨ (J.go i H ∧ ∃ N : St → Hp → Prop,(∀ σ' H',N σ' H' → ∃ m',m' < m ∧ W (i + 1) m' σ' H') ∧ ∀ x H',J.yld i H x H' → g x σ H' fun σ2 H2 => tb { D with nx:=N,ct:=N,bk:=D.nx } σ2 H2):=by
 refine ⟨fun i m σ H => m = n - i ∧ i ≤ n ∧ Pv i σ H,⟨n,by simp,Nat.zero_le _,h0⟩,?_⟩
 rintro i m σ H ⟨rfl,hi,p⟩
 by_cases hlt : i < n
 ·exact .inr ⟨hgo i σ H hlt p,Pv (i + 1),fun σ' H' p' => ⟨n - (i + 1),by omega,rfl,hlt,p'⟩,fun x H' y => hs i x σ H H' hlt p y⟩
 ·have e : i = n:=by omega
  subst e
  exact .inl ⟨hst σ H p,hd σ H p⟩
end L2
end
section
set_option maxHeartbeats 3999000
namespace L2
open PySem PySem.Spec PyProof.Rows
section
variable {X : Cx} {pins : List (Addr × Obj)} {σ : St} {H : Hp} {s : Shared} {h' : Heap}
theorem Inv.turnedL {t' : Nat} {ch : List Addr} (I : Inv X pins σ H s) (k : ∀ b o,b ∉ ch → s.heap.get? b = some o → h'.get? b = some o) (hf : ∀ b ∈ ch,zbW X pins H b)
  (th : ∀ b ∈ ch,∃ o,h'.get? b = some o) : Inv X pins σ H { s with heap:=h',toks:=t' }:=by
 have nit : ∀ b u,H b = some u → b ∉ ch:=fun b u e z => by rw [(hf b z).1] at e; cases e
 refine I.step (g':=s.gens) (d':=s.drawn) (ch:=ch) (fun b hb => ?_) (fun b o _ _ hc e _ => k b o hc e) (fun b o _ _ hc e _ => ⟨o.slots,k b o hc e⟩) (fun _ _ _ _ n => n)
  (fun b o hc e => ⟨o,k b o hc e⟩) (fun _ _ e => e) (fun _ _ _ e => e) (fun b ps e => ⟨#[],by rw [e]; simp⟩) (fun m hm => ?_) (fun b u e => ?_) I.bare
 ·obtain ⟨_,a1,_,a3,a4,a5⟩:=hf b hb
  exact ⟨a3,a1,a4,a5⟩
 ·obtain ⟨o,es,ep,ho,r⟩:=hm
  exact ⟨o,es,ep,k _ o (fun z => (hf _ z).2.1 rfl) ho,r⟩
 ·refine (I.hok b u e).stay (fun c v hc q => k c v ?_ q) (fun _ q => q) fun _ _ q => q
  rcases hc with z | z
  ·rw [z]; exact nit b u e
  ·exact nit c _ z
theorem Inv.turnedNew {t' : Nat} {ch : List Addr} {T : Addr} {o : HO} (I : Inv X pins σ H s) (k : ∀ b o,b ∉ ch → s.heap.get? b = some o → h'.get? b = some o) (hf : ∀ b ∈ ch,zbW X pins H b)
  (th : ∀ b ∈ ch,∃ o,h'.get? b = some o) (hT : s.heap.objs.size ≤ T) (ok : zab X.prog X.w (upd H T o) h' T o) : Inv X pins σ (upd H T o) { s with heap:=h',toks:=t' }:=by
 have I1 : Inv X pins σ H { s with heap:=h',toks:=t' }:=I.turnedL k hf th
 have hn : H T = none:=I.hok.fresh hT
 obtain ⟨_,a1,a2,a3,a4,a5⟩:=I.fpOk (H':=H) hT hn
 exact I1.track hn (Nat.le_trans I.sz hT) (Ne.symm a1) a4 a5 ok
end
def zlN (Sq : Hp → Addr → List V → Prop) (a : Addr) : It :=
 ⟨fun i H => ∃ xs x,Sq H a xs ∧ xs[i]? = some x,fun i H x H' => ∃ T v,H T = none ∧ x = .ref T ∧ H' = upd H T (.tup [.int i,v]) ∧ ∀ xs,Sq H a xs → xs[i]? = some v,fun i H => ∃ xs,Sq H a xs ∧ xs.length ≤ i⟩
theorem zbi {h : Heap} {T : Addr} {a b : Value} (e : h.get? T = some { cls:=.type "tuple",data:=.seq #[a,b] }) : IsTup h T ([a,b] : List Value).toArray:=⟨_,e,rfl,_,rfl⟩
theorem zaz : 2 ≤ sizeLine:=by rw [sizeLine_eq]; decide
theorem zgE {P : Program} {w : World} {K : PySem.W.Frag} {es : List Expr} {k : Nat} {pos : Pos} (a it e : Addr) (hei : e ≠ it) : Turn P w K (.Tuple es k pos) (zlN (SqL K) a) [e,it] e (fun i h => (∃ old,IsEnum h e it i old) ∧ h.IsListIter it a i) where
 mem:=by simp
 obj:=fun i h st b hb => by
  obtain ⟨⟨old,he⟩,o,ho,hc,hd⟩:=st
  rcases List.mem_cons.mp hb with z | z
  ·subst z
   exact ⟨_,he,fun v z => by cases z⟩
  ·have z : b = it:=by simpa using z
   subst z
   exact ⟨o,ho,fun v z => by rw [hd] at z; cases z⟩
 keep:=fun i h h' st kk => ⟨st.1.imp fun old he => kk e (by simp) _ he,st.2.at fun o eo => kk it (by simp) o eo⟩
 item:=by
  intro X hP hw hK hc i pins s σ H E I hf st hg
  subst hP hw hK
  obtain ⟨xs,x,hq,hx⟩:=hg
  obtain ⟨⟨old,he⟩,hit⟩:=st
  obtain ⟨its,rv,p,hz⟩:=I.list hq
  obtain ⟨u,hu,ru⟩:=rv.get hx
  have hes : e < s.heap.objs.size:=Heap.lt_size he
  have hits : it < s.heap.objs.size:=by obtain ⟨o,ho,_⟩:=hit; exact Heap.lt_size ho
  refine wpAny_pyNext_enum_item he hit p.isList (x:=u) (by simpa using hu) hei fun h' ho' hit' hT hsz kk => ?_
  have k1 : ∀ b o,b ∉ [e,it] → s.heap.get? b = some o → h'.get? b = some o:=fun b o hb eo => kk b o (fun z => hb (by simp [z])) (fun z => hb (by simp [z])) eo
  have th1 : ∀ b ∈ [e,it],∃ o,h'.get? b = some o:=fun b hb => by
   rcases List.mem_cons.mp hb with z | z
   ·subst z; exact ⟨_,ho'⟩
   ·have z : b = it:=by simpa using z
    subst z
    obtain ⟨o,eo,_⟩:=hit'
    exact ⟨o,eo⟩
  have I1 : Inv X pins σ (upd H s.heap.objs.size (.tup [.int i,x])) { s with heap:=h',toks:=s.toks + 1 } :=
   I.turnedNew k1 hf th1 (Nat.le_refl _) ⟨zaz,_,.cons ⟨s.toks,rfl⟩ (.cons ru .nil),zbi hT⟩
  refine ⟨_,rfl,wpAny_letOwnedTupleGo_enum ho' fun h'' he'' hs'' => ?_⟩
  have fr : ∀ b ∈ [e,it],upd H s.heap.objs.size (.tup [.int i,x]) b = none:=fun b hb => by
   have hlt : b < s.heap.objs.size:=by
    rcases List.mem_cons.mp hb with z | z
    ·subst z; exact hes
    ·have z : b = it:=by simpa using z
     subst z; exact hits
   rw [zr (Nat.ne_of_lt hlt)]
   exact (hf b hb).1
  have I2 : Inv X pins σ (upd H s.heap.objs.size (.tup [.int i,x])) { s with heap:=h'',toks:=s.toks + 1 } :=
   Inv.turnedL (s:={ s with heap:=h',toks:=s.toks + 1 }) (ch:=[e]) (t':=s.toks + 1) I1 (fun b o hb eo => hs''.extBut b o (by simpa using hb) eo) (fun b hb => by
    have z : b = e:=by simpa using hb
    subst z
    exact ⟨fr b (by simp),(hf b (by simp)).2⟩) (fun b hb => by
    have z : b = e:=by simpa using hb
    subst z
    exact ⟨_,he''⟩)
  refine ⟨.ref s.heap.objs.size,_,I2,rfl,⟨_,x,I.fresh,rfl,rfl,fun ys hy => by rw [I.list_inj hy hq]; exact hx⟩,⟨⟨_,by simpa using he''⟩,hit'.extBut hs''.extBut (Ne.symm hei)⟩,fr⟩
 done:=by
  intro X hP hw hK hc i pins s σ H E I hf st hg
  subst hP hw hK
  obtain ⟨xs,hq,hx⟩:=hg
  obtain ⟨⟨old,he⟩,hit⟩:=st
  obtain ⟨its,rv,p,hz⟩:=I.list hq
  have hl:=rv.length
  obtain ⟨f0,f1,f2,f3,f4,f5⟩:=hf it (by simp)
  exact wpAny_pyNext_enum_end (I.ok.hd hc) he hit p.isList (by simp; omega) fun h' eb => ⟨rfl,I.turned (t':=s.toks) (fun b o hb e => eb b o hb e) f0 f1 f3 f4 f5⟩
 self:=fun _ _ _ _ _ st h => by
  obtain ⟨⟨old,he⟩,_⟩:=st
  exact wpAny_pyIter_enum he h
def iEn (Sq : Hp → Addr → List V → Prop) (ta : TA) : TI:=fun σ H R => ta σ H fun vs H1 => ∃ a xs,vs = [.ref a] ∧ Sq H1 a xs ∧ R (zlN Sq a) H1
theorem zi4 {X : Cx} {es : List Expr} {k : Nat} {tpos p pos : Pos} {a : Expr} {ta : TA} (hg : Gl X "enumerate") (hm : X.mg "enumerate" = none) (ha : PA X [a] ta) (hs : starEach [a] X.env = [(false,eval a X.env)]:=by rfl) :
  PI X (.Tuple es k tpos) (.Call (.Name "enumerate" p) [a] [] pos) (iEn (SqL X.K) ta):=by
 intro pins s σ H R I h
 refine Call_ (zbh I hg hm boot_enumerate (PyProof.Rows.callWith_type1 (thn (ha pos pins s σ H _ I h) fun us s1 ⟨vs,H1,I1,r1,q1⟩ => ?_) hs rfl))
 obtain ⟨l,xs,e,hq,q⟩:=q1
 subst e
 cases r1 with
 | cons r rr =>
  cases rr
  cases r
  obtain ⟨its,rv,pl,hz⟩:=I1.list hq
  refine call_enumerate_list pl.isList fun h' he hi hsz kk => ?_
  have I2 : Inv X pins σ H1 { s1 with heap:=h' }:=I1.kept (t':=s1.toks) kk
  refine wpAny_pyIter_enum he ?_; refine ⟨_,[s1.heap.objs.size + 1,s1.heap.objs.size],_,zlN (SqL X.K) l,H1,rfl,I2,zgE l s1.heap.objs.size (s1.heap.objs.size + 1) (Nat.succ_ne_self _),⟨⟨_,he⟩,hi⟩,fun b hb => ?_,q⟩
  have hle : s1.heap.objs.size ≤ b:=by
   rcases List.mem_cons.mp hb with z | z
   ·rw [z]; exact Nat.le_succ _
   ·have z : b = s1.heap.objs.size:=by simpa using z
    rw [z]; exact Nat.le_refl _
  exact I1.fpOk hle (I1.hok.fresh hle)
def zh8 (Sq1 Sq2 : Hp → Addr → List V → Prop) (a b : Addr) : It :=
 ⟨fun i H => ∃ xs ys x y,Sq1 H a xs ∧ Sq2 H b ys ∧ xs[i]? = some x ∧ ys[i]? = some y,
  fun i H x H' => ∃ T u v,H T = none ∧ x = .ref T ∧ H' = upd H T (.tup [u,v]) ∧ (∀ xs,Sq1 H a xs → xs[i]? = some u) ∧ ∀ ys,Sq2 H b ys → ys[i]? = some v,
  fun i H => ∃ xs ys,Sq1 H a xs ∧ Sq2 H b ys ∧ (xs.length ≤ i ∨ ys.length ≤ i)⟩
theorem zh9 {P : Program} {w : World} {K : PySem.W.Frag} {es : List Expr} {k : Nat} {pos : Pos} (a b : Addr) (n : Nat) (ha : a < n) (hb : b < n) : Turn P w K (.Tuple es k pos) (zh8 (SqL K) (SqL K) a b) [n + 4,n + 2,n + 3,n,n + 1] (n + 4)
  (fun i h => IsZip h (n + 4) (n + 2) (n + 3) .none ∧ IsPair h (n + 2) (.ref n) (.ref (n + 1)) ∧ (∃ u v,IsPair h (n + 3) u v) ∧ h.IsListIter n a i ∧ h.IsListIter (n + 1) b i) where
 mem:=by simp
 obj:=fun i h st c hc => by
  obtain ⟨h1,h2,⟨u,v,h3⟩,⟨o4,e4,_,d4⟩,⟨o5,e5,_,d5⟩⟩:=st
  simp only [List.mem_cons,List.not_mem_nil,or_false] at hc
  rcases hc with z | z | z | z | z <;> subst z
  ·exact ⟨_,h1,fun v z => by cases z⟩
  ·exact ⟨_,h2,fun v z => by cases z⟩
  ·exact ⟨_,h3,fun v z => by cases z⟩
  ·exact ⟨_,e4,fun v z => by rw [d4] at z; cases z⟩
  ·exact ⟨_,e5,fun v z => by rw [d5] at z; cases z⟩
 keep:=fun i h h' st kk => by
  obtain ⟨h1,h2,⟨u,v,h3⟩,h4,h5⟩:=st
  exact ⟨kk _ (by simp) _ h1,kk _ (by simp) _ h2,⟨u,v,kk _ (by simp) _ h3⟩,h4.at fun o eo => kk _ (by simp) o eo,h5.at fun o eo => kk _ (by simp) o eo⟩
 item:=by
  intro X hP hw hK hc i pins s σ H E I hf st hg
  subst hP hw hK
  obtain ⟨xs,ys,x,y,hq1,hq2,hx,hy⟩:=hg
  obtain ⟨h1,h2,⟨u0,v0,h3⟩,h4,h5⟩:=st
  obtain ⟨its1,rv1,p1,hz1⟩:=I.list hq1
  obtain ⟨its2,rv2,p2,hz2⟩:=I.list hq2
  obtain ⟨u,hu,ru⟩:=rv1.get hx
  obtain ⟨v,hv,rv⟩:=rv2.get hy
  have hzs : n + 4 < s.heap.objs.size:=Heap.lt_size h1
  refine wpAny_pyNext_zip_item (zipApart_new ha hb) h1 h2 h3 h4 h5 p1.isList p2.isList (x:=u) (y:=v) (by simpa using hu) (by simpa using hv) fun h' a1 a2 a3 a4 a5 a6 kk => ?_
  have k1 : ∀ c o,c ∉ [n + 4,n + 3,n,n + 1] → s.heap.get? c = some o → h'.get? c = some o:=fun c o hc' eo =>
   kk c o (fun z => hc' (by simp [z])) (fun z => hc' (by simp [z])) (fun z => hc' (by simp [z])) (fun z => hc' (by simp [z])) eo
  have sub : ∀ c ∈ [n + 4,n + 3,n,n + 1],c ∈ [n + 4,n + 2,n + 3,n,n + 1]:=fun c hc' => by
   simp only [List.mem_cons,List.not_mem_nil,or_false] at hc' ⊢
   rcases hc' with z | z | z | z <;> subst z <;> simp
  have th1 : ∀ c ∈ [n + 4,n + 3,n,n + 1],∃ o,h'.get? c = some o:=fun c hc' => by
   simp only [List.mem_cons,List.not_mem_nil,or_false] at hc'
   rcases hc' with z | z | z | z <;> subst z
   ·exact ⟨_,a1⟩
   ·exact ⟨_,a2⟩
   ·obtain ⟨o,e,_⟩:=a3; exact ⟨o,e⟩
   ·obtain ⟨o,e,_⟩:=a4; exact ⟨o,e⟩
  have I1 : Inv X pins σ (upd H s.heap.objs.size (.tup [x,y])) { s with heap:=h' } :=
   I.turnedNew (t':=s.toks) k1 (fun c hc' => hf c (sub c hc')) th1 (Nat.le_refl _) ⟨zaz,_,.cons ru (.cons rv .nil),zbi a5⟩
  refine ⟨_,rfl,wpAny_letOwnedTupleGo_zip a1 fun h'' hz'' hs'' => ?_⟩
  have fr : ∀ c ∈ [n + 4,n + 2,n + 3,n,n + 1],upd H s.heap.objs.size (.tup [x,y]) c = none:=fun c hc' => by
   have hlt : c < s.heap.objs.size:=by
    simp only [List.mem_cons,List.not_mem_nil,or_false] at hc'
    rcases hc' with z | z | z | z | z <;> subst z <;> omega
   rw [zr (Nat.ne_of_lt hlt)]
   exact (hf c hc').1
  have I2 : Inv X pins σ (upd H s.heap.objs.size (.tup [x,y])) { s with heap:=h'' } :=
   Inv.turnedL (s:={ s with heap:=h' }) (ch:=[n + 4]) (t':=s.toks) I1 (fun c o hc' eo => hs''.extBut c o (by simpa using hc') eo) (fun c hc' => by
    have z : c = n + 4:=by simpa using hc'
    subst z
    exact ⟨fr _ (by simp),(hf _ (by simp)).2⟩) (fun c hc' => by
    have z : c = n + 4:=by simpa using hc'
    subst z
    exact ⟨_,hz''⟩)
  refine ⟨.ref s.heap.objs.size,_,I2,rfl,⟨_,x,y,I.fresh,rfl,rfl,fun zs hz => by rw [I.list_inj hz hq1]; exact hx,fun zs hz => by rw [I.list_inj hz hq2]; exact hy⟩,
   ⟨hz'',hs''.extBut _ _ (zipApart_new ha hb).TIz (kk _ _ (zipApart_new ha hb).TIz (zipApart_new ha hb).TITO (zipApart_new ha hb).TIi1 (zipApart_new ha hb).TIi2 h2),⟨_,_,hs''.extBut _ _ (zipApart_new ha hb).TOz a2⟩,a3.extBut hs''.extBut (zipApart_new ha hb).i1z,a4.extBut hs''.extBut (zipApart_new ha hb).i2z⟩,fr⟩
 done:=by
  intro X hP hw hK hc i pins s σ H E I hf st hg
  subst hP hw hK
  obtain ⟨xs,ys,hq1,hq2,hx⟩:=hg
  obtain ⟨h1,h2,⟨u0,v0,h3⟩,h4,h5⟩:=st
  obtain ⟨its1,rv1,p1,hz1⟩:=I.list hq1
  obtain ⟨its2,rv2,p2,hz2⟩:=I.list hq2
  have hl1:=rv1.length
  have hl2:=rv2.length
  refine wpAny_pyNext_zip_end (I.ok.hd hc) (zipApart_new ha hb) h1 h2 h3 h4 h5 p1.isList p2.isList ?_ fun h' kk => ⟨rfl,?_⟩
  ·rcases hx with z | z
   ·exact .inl (by simp; omega)
   ·exact .inr (by simp; omega)
  ·have hth : ∀ c ∈ [n + 4,n + 3,n,n + 1],c ∈ [n + 4,n + 2,n + 3,n,n + 1]:=fun c hc' => by
    simp only [List.mem_cons,List.not_mem_nil,or_false] at hc' ⊢
    rcases hc' with z | z | z | z <;> subst z <;> simp
   refine I.step (g':=s.gens) (d':=s.drawn) (t':=s.toks) (ch:=[n + 4,n + 3,n,n + 1]) (fun c hc' => ?_) (fun c o _ _ hcc e _ => kk c o (fun z => hcc (by simp [z])) (fun z => hcc (by simp [z])) (fun z => hcc (by simp [z])) (fun z => hcc (by simp [z])) e)
    (fun c o _ _ hcc e _ => ⟨o.slots,kk c o (fun z => hcc (by simp [z])) (fun z => hcc (by simp [z])) (fun z => hcc (by simp [z])) (fun z => hcc (by simp [z])) e⟩) (fun _ _ _ _ n => n)
    (fun c o hcc e => ⟨o,kk c o (fun z => hcc (by simp [z])) (fun z => hcc (by simp [z])) (fun z => hcc (by simp [z])) (fun z => hcc (by simp [z])) e⟩) (fun _ _ e => e) (fun _ _ _ e => e) (fun c ps e => ⟨#[],by rw [e]; simp⟩) (fun m hm => ?_) (fun c u e => ?_) I.bare
   ·obtain ⟨_,a1,_,a3,a4,a5⟩:=hf c (hth c hc')
    exact ⟨a3,a1,a4,a5⟩
   ·obtain ⟨o,es',ep,ho,r⟩:=hm
    have ne : ∀ c ∈ [n + 4,n + 2,n + 3,n,n + 1],X.env.locals ≠ c:=fun c hc' => Ne.symm (hf c hc').2.1
    exact ⟨o,es',ep,kk _ o (ne _ (by simp)) (ne _ (by simp)) (ne _ (by simp)) (ne _ (by simp)) ho,r⟩
   ·have nit : ∀ d u',H d = some u' → ∀ c ∈ [n + 4,n + 2,n + 3,n,n + 1],d ≠ c:=fun d u' e' c hc' z => by rw [z,(hf c hc').1] at e'; cases e'
    refine (I.hok c u e).stay (fun d v' hd q => kk d v' ?_ ?_ ?_ ?_ q) (fun _ q => q) fun _ _ q => q
    all_goals
     rcases hd with z | z
     ·rw [z]; exact nit c u e _ (by simp)
     ·exact nit d _ z _ (by simp)
 self:=fun _ _ _ _ _ st h => wpAny_pyIter_zip st.1 h
def iZp (Sq1 Sq2 : Hp → Addr → List V → Prop) (ta : TA) : TI:=fun σ H R => ta σ H fun vs H1 => ∃ a b xs ys,vs = [.ref a,.ref b] ∧ Sq1 H1 a xs ∧ Sq2 H1 b ys ∧ R (zh8 Sq1 Sq2 a b) H1
theorem ze6 {X : Cx} {es : List Expr} {k : Nat} {tpos p pos : Pos} {a b : Expr} {ta : TA} (hg : Gl X "zip") (hm : X.mg "zip" = none) (ha : PA X [a,b] ta) (hs : starEach [a,b] X.env = [(false,eval a X.env),(false,eval b X.env)]:=by rfl) (hs2 : starEach [b] X.env = [(false,eval b X.env)]:=by rfl) :
  PI X (.Tuple es k tpos) (.Call (.Name "zip" p) [a,b] [] pos) (iZp (SqL X.K) (SqL X.K) ta):=by
 intro pins s σ H R I h
 refine Call_ (zbh I hg hm boot_zip (PyProof.Rows.callWith_type1 (thn (ha pos pins s σ H _ I h) fun us s1 ⟨vs,H1,I1,r1,q1⟩ => ?_) (by rw [hs,hs2]) (by rw [hs2]; rfl)))
 obtain ⟨l1,l2,xs,ys,e,hq1,hq2,q⟩:=q1
 subst e
 cases r1 with
 | cons r rr =>
  cases rr with
  | cons r' rr =>
   cases rr
   cases r
   cases r'
   obtain ⟨its1,rv1,pl1,hz1⟩:=I1.list hq1
   obtain ⟨its2,rv2,pl2,hz2⟩:=I1.list hq2
   have hlt1 : l1 < s1.heap.objs.size:=by obtain ⟨_,_,e,_⟩:=pl1; exact Heap.lt_size e
   have hlt2 : l2 < s1.heap.objs.size:=by obtain ⟨_,_,e,_⟩:=pl2; exact Heap.lt_size e
   refine call_zip_2 pl1.isList pl2.isList fun h' b1 b2 b3 b4 b5 b6 kk => ?_
   have I2 : Inv X pins σ H1 { s1 with heap:=h' }:=I1.kept (t':=s1.toks) kk
   refine wpAny_pyIter_zip b1 ?_
   refine ⟨_,_,_,zh8 (SqL X.K) (SqL X.K) l1 l2,H1,rfl,I2,zh9 l1 l2 s1.heap.objs.size hlt1 hlt2,⟨b1,b2,⟨_,_,b3⟩,b4,b5⟩,fun c hc => ?_,q⟩
   have hle : s1.heap.objs.size ≤ c:=by
    simp only [List.mem_cons,List.not_mem_nil,or_false] at hc
    rcases hc with z | z | z | z | z <;> subst z <;> omega
   exact I1.fpOk hle (I1.hok.fresh hle)
def zfL (Sq : Hp → Addr → List V → Prop) (a : Addr) (n : Nat) : It :=
 ⟨fun i H => i < n ∧ ∃ xs,Sq H a xs ∧ xs.length = n,fun i H x H' => H' = H ∧ ∀ xs,Sq H a xs → xs[n - 1 - i]? = some x,fun i H => n ≤ i⟩
theorem zia {P : Program} {w : World} {K : PySem.W.Frag} {tg : Expr} (a it : Addr) (n : Nat) : Turn P w K tg (zfL (SqL K) a n) [it] it (fun i h => i ≤ n ∧ h.IsRevIter it a ((n : Int) - 1 - (i : Int))) where
 mem:=by simp
 obj:=fun i h st b hb => by
  have z : b = it:=by simpa using hb
  subst z
  obtain ⟨_,o,e,c,d⟩:=st
  exact ⟨o,e,fun v z => by rw [d] at z; cases z⟩
 keep:=fun i h h' st k => ⟨st.1,st.2.at fun o e => k it (by simp) o e⟩
 item:=by
  intro X hP hw hK hc i pins s σ H E I hf st hg
  subst hP hw hK
  obtain ⟨hin,xs,hq,hl⟩:=hg
  obtain ⟨its,rv,p,hz⟩:=I.list hq
  have hlen:=rv.length
  obtain ⟨x,hx⟩ : ∃ x,xs[n - 1 - i]? = some x:=⟨xs[n - 1 - i]'(by omega),by simp⟩
  obtain ⟨u,hu,ru⟩:=rv.get hx
  obtain ⟨f0,f1,f2,f3,f4,f5⟩:=hf it (by simp)
  have e : (n : Int) - 1 - (i : Int) = ((n - 1 - i : Nat) : Int):=by omega
  have hit:=st.2
  rw [e] at hit
  refine wpAny_pyNext_rev_item hit p.isList (x:=u) (by simpa using hu) fun h' st' sb => ?_
  have I1 : Inv X pins σ H { s with heap:=h' }:=I.turned (t':=s.toks) (fun b o hb e => (sb.2 b hb).trans e) f0 f1 f3 f4 f5
  have e2 : ((n - 1 - i : Nat) : Int) - 1 = (n : Int) - 1 - ((i + 1 : Nat) : Int):=by omega
  rw [e2] at st'
  obtain ⟨o,eo,c,d⟩:=id st'
  exact ⟨u,rfl,zfH (s:={ s with heap:=h' }) eo c d (by decide) ⟨x,H,I1,ru,⟨rfl,fun ys hy => by rw [I.list_inj hy hq]; exact hx⟩,⟨hin,st'⟩,fun b hb => (hf b hb).1⟩⟩
 done:=by
  intro X hP hw hK hc i pins s σ H E I hf st hg
  subst hP hw hK
  obtain ⟨f0,f1,f2,f3,f4,f5⟩:=hf it (by simp)
  have hin : n ≤ i:=hg
  have e : (n : Int) - 1 - (i : Int) = -1:=by have:=st.1; omega
  have hit:=st.2
  rw [e] at hit
  exact wpAny_pyNext_rev_end (I.ok.hd hc) hit fun h' eb => ⟨rfl,I.turned (t':=s.toks) (fun b o hb e => eb b o hb e) f0 f1 f3 f4 f5⟩
 self:=fun _ _ _ _ _ st h => wpAny_pyIter_revIter st.2 h
end L2
end
section
set_option maxHeartbeats 3999000
namespace PySem
namespace F
theorem zeH : Manifest.owners.lookup (String.ofList ['d','e','s','r','e','v','e','r'].reverse) = some Manifest.sig_reversed:=by kernel_rfl
theorem slot_rvd_next : Slot "reversed" "__next__" "reversed.__next__" :=
 .of (owner:="reversed") (n:="__next__") (by rw [typeLookup_type,builtinLookup_eq_fast]; kernel_rfl) (by decide +kernel) (by decide +kernel) (by decide +kernel) (by first | exact .inl (by decide +kernel) | exact .inr (by decide +kernel)) (by rw [isSubtype_type]; kernel_rfl)
theorem entry_rvd_next : entryFor table "reversed.__next__" = some Builtin.«reversed.__next__»:=entryFor_of_tree (by kernel_rfl)
theorem args_rvd_next_1 (a : Value) : argsOk "reversed.__next__" ⟨[a],[]⟩:=by
 unfold argsOk; rw [signature?_of (id:="reversed.__next__") (n:=['_','_','t','x','e','n','_','_']) (o:=['d','e','s','r','e','v','e','r']) (by kernel_rfl) zeH]; kernel_rfl
theorem slot_rvd_iter : Slot "reversed" "__iter__" "reversed.__iter__" :=
 .of (owner:="reversed") (n:="__iter__") (by rw [typeLookup_type,builtinLookup_eq_fast]; kernel_rfl) (by decide +kernel) (by decide +kernel) (by decide +kernel) (by first | exact .inl (by decide +kernel) | exact .inr (by decide +kernel)) (by rw [isSubtype_type]; kernel_rfl)
theorem args_rvd_iter_1 (a : Value) : argsOk "reversed.__iter__" ⟨[a],[]⟩:=by
 unfold argsOk; rw [signature?_of (id:="reversed.__iter__") (n:=['_','_','r','e','t','i','_','_']) (o:=['d','e','s','r','e','v','e','r']) (by kernel_rfl) zeH]; kernel_rfl
theorem entry_rvd_iter : entryFor table "reversed.__iter__" = some Builtin.«dict_keyiterator.__iter__»:=entryFor_alias (id':="dict_keyiterator.__iter__") (by kernel_rfl) (by first | rfl | decide +kernel | (unfold String.splitOn; simp +decide [String.splitOnAux])) (by decide +kernel) (by kernel_rfl)
theorem zel : Slot "reversed" "__init__" "object.__init__":=.of (owner:="object") (n:="__init__") (by rw [typeLookup_type,builtinLookup_eq_fast]; kernel_rfl) (by decide +kernel) (by decide +kernel) (by decide +kernel) (by first | exact .inl (by decide +kernel) | exact .inr (by decide +kernel)) (by rw [isSubtype_type]; kernel_rfl)
theorem called_rvd : TypeCalled "reversed" "reversed.__new__" "object.__init__" :=
 ⟨by decide +kernel,by decide +kernel,⟨_,_,mro_reversed⟩,made_reversed,by decide +kernel,by rw [isSubtype_type]; kernel_rfl,zel⟩
theorem noRev_tuple : typeLookup (.type "tuple") "__reversed__" = pure none:=by rw [typeLookup_type,builtinLookup_eq_fast]; kernel_rfl
end F
def ze7 (l : Addr) (i : Int) : Obj:={ cls:=.type "reversed",data:=.fields #[.ref l,rawInt i] }
def Heap.IsRvd (h : Heap) (a l : Addr) (i : Int) : Prop:=∃ o,h.get? a = some o ∧ o.cls = .type "reversed" ∧ o.data = .fields #[.ref l,rawInt i]
theorem Heap.IsRvd.typeIs {s : Shared} {a l : Addr} {i : Int} (x : s.heap.IsRvd a l i) : s.TypeIs (.ref a) "reversed":=let ⟨o,ho,hc,_⟩:=x; ⟨o,ho,hc⟩
theorem Heap.IsRvd.at {h h' : Heap} {a l : Addr} {i : Int} (x : h.IsRvd a l i) (e : ∀ o,h.get? a = some o → h'.get? a = some o) : h'.IsRvd a l i:=let ⟨o,ho,r⟩:=x; ⟨o,e _ ho,r⟩
open PyProof.Rows in
theorem zem (l : Addr) (items : Array Value) :
  Meets (Builtin.«reversed.__new__» ⟨[.type "reversed",.ref l],[]⟩) (fun _ R s => IsTup s.heap l items ∧ (items.size : Int) < 2 ^ 63 ∧
   R (.ok (.ret (.ref s.heap.objs.size))) { s with heap:=s.heap.push (ze7 l ((items.size : Int) - 1)),toks:=s.toks + 1 + 1 }) :=
 .of_wp fun prog w A R s h => by
  obtain ⟨hl,hsz,h⟩:=h
  unfold Builtin.«reversed.__new__»; refine wpAny_bind (wpAny_of_eq (newClass_reversed _) ?_)
  try dsimp only
  iterate 2 refine wpAny_bind (wpAny_of_eq (a:=()) (by first | rfl | kernel_rfl) ?_)
  try dsimp only
  refine wpAny_bind (wpAny_specialOf hl.typeIs F.noRev_tuple ?_)
  try dsimp only
  refine wpAny_bind (wpAny_bind (m:=isInstance (.ref l) (.type "dict")) (wpAny_isInstance hl.typeIs F.sub_tuple_dict ?_))
  simp only [Bool.false_eq_true,if_false]; refine wpAny_bind (m:=specialOf (.ref l) "__getitem__") (wpAny_specialOf hl.typeIs slot_tuple_getitem.lookup ?_)
  refine wpAny_pure ?_
  try dsimp only
  try simp only [Bool.not_true,Bool.false_eq_true,if_false]
  refine wpAny_bind (len_tuple hl hsz ?_)
  refine wpAny_bind (m:=asInt? _) (wpAny_of_eq (a:=some (items.size : Int)) rfl ?_)
  try dsimp only
  refine wpAny_bind (m:=Builtin.SmallTypes.newRecord _ _) ?_
  show wpAny _ _ (newObj (.type "reversed") (.fields #[.ref l,rawInt ((items.size : Int) - 1)]) none) _ _ _
  refine wpAny_newObj_type ?_
  exact wpAny_pure ⟨_,rfl,h⟩
section
variable {prog : Program} {w : World} {A : Around} {E : Value → Shared → Prop} {s : Shared}
open PyProof.Rows
theorem zdO {l : Addr} {items : Array Value} {Q : Value → Shared → Prop} (hl : IsTup s.heap l items) (hsz : (items.size : Int) < 2 ^ 63)
  (h : Q (.ref s.heap.objs.size) { s with heap:=s.heap.push (ze7 l ((items.size : Int) - 1)),toks:=s.toks + 1 + 1 }) : wpAny (model prog w) A (call (.type "reversed") [.ref l]) Q E s:=by
 refine callType_new F.called_rvd (by decide) (F.typeCall_reversed_1 _) (F.newCall_reversed_1 _) (fun obj => F.args_object_init_2 obj _) F.entry_reversed_new (zem l items) ⟨hl,hsz,?_⟩; exact ⟨⟨_,Heap.get?_push_size _ rfl,rfl⟩,h⟩
theorem zbV {it l : Addr} {i : Nat} {items : Array Value} {x : Value} {Q : Option Value → Shared → Prop} (hit : s.heap.IsRvd it l (i : Int)) (hl : IsTup s.heap l items) (hx : items[i]? = some x) (hi : (i : Int) < 2 ^ 62)
  (hQ : ∀ h',h'.IsRvd it l ((i : Int) - 1) → Heap.SameBut it s.heap h' → Q (some x) { s with heap:=h',toks:=s.toks + 1 }) : wpAny (model prog w) A (pyNext (.ref it)) Q E s:=by
 obtain ⟨o,ho,hc,hd⟩:=id hit; unfold pyNext
 refine wpAny_bind (wpAny_attempt (wpAny_callSpecial?_slot (name:=Str.ofString "__next__") hit.typeIs F.slot_rvd_next
  (wpAny_call_entry F.slot_rvd_next hit.typeIs F.entry_rvd_next ?_ (F.args_rvd_next_1 _))))
 unfold Builtin.«reversed.__next__»
 refine wpAny_bind (wpAny_of_eq (a:=(Value.ref it,[])) rfl ?_); try dsimp only
 refine wpAny_bind (wpAny_field ho hd (x:=.ref l) rfl ?_); refine wpAny_bind (wpAny_field ho hd (x:=rawInt (i : Int)) rfl ?_)
 show wpAny _ _ (if (i : Int) < 0 then _ else _) _ _ s; rw [if_neg (by omega)]
 refine wpAny_bind (wpAny_specialOf hl.typeIs slot_tuple_getitem.lookup ?_)
 try simp only [Option.isNone_some,Bool.false_eq_true,if_false]
 refine wpAny_bind (wpAny_mkInt ?_); have hlt : i < items.size:=by
  obtain ⟨h1,_⟩:=Array.getElem?_eq_some_iff.mp hx
  exact h1
 refine wpAny_bind (wpAny_attempt (getItem_tuple (j:=i) hl (by omega) (by omega) (by rw [seqIndex_of (by omega) (by omega)]; simp) hx ?_))
 try dsimp only
 refine wpAny_bind (wpAny_field (s:={ s with toks:=s.toks + 1 }) ho hd (x:=rawInt (i : Int)) rfl ?_)
 show wpAny _ _ (setField (.ref it) 1 (rawInt ((i : Int) - 1)) >>= _) _ _ _
 refine wpAny_bind (wpAny_setField (s:={ s with toks:=s.toks + 1 }) ho hd (by simp) (wpAny_pure ⟨x,rfl,wpAny_pure (hQ _ ?_ (Heap.SameBut.update ..))⟩))
 exact ⟨_,Heap.get?_update_self _ ho (Obj.isFreed_of_fields (Obj.data_mapFields hd _)),(Obj.cls_mapFields ..).trans hc,by rw [Obj.data_mapFields hd]; simp⟩
theorem zbY {it l : Addr} {Q : Option Value → Shared → Prop} (hh : A.handled = none) (hit : s.heap.IsRvd it l (-1)) (hQ : ∀ h',Heap.ExtBut it s.heap h' → Q none { s with heap:=h' }) : wpAny (model prog w) A (pyNext (.ref it)) Q E s:=by
 obtain ⟨o,ho,hc,hd⟩:=id hit; unfold pyNext
 refine wpAny_bind (wpAny_attempt (wpAny_callSpecial?_slot (name:=Str.ofString "__next__") hit.typeIs F.slot_rvd_next
  (wpAny_call_entry F.slot_rvd_next hit.typeIs F.entry_rvd_next ?_ (F.args_rvd_next_1 _))))
 unfold Builtin.«reversed.__next__»
 refine wpAny_bind (wpAny_of_eq (a:=(Value.ref it,[])) rfl ?_); try dsimp only
 refine wpAny_bind (wpAny_field ho hd (x:=.ref l) rfl ?_); refine wpAny_bind (wpAny_field ho hd (x:=rawInt (-1)) rfl ?_)
 show wpAny _ _ (if (-1 : Int) < 0 then _ else _) _ _ s; rw [if_pos (by decide)]
 refine wpAny_bind (wpAny_rule ?_)
 refine wpAny_bind (wpAny_bind (m:=setField (.ref it) 1 (rawInt (-1))) (wpAny_setField ho hd (by simp) ?_))
 have hd2:=Obj.data_mapFields hd (·.setIfInBounds 1 (rawInt (-1)))
 have ho2:=Heap.get?_update_self (Obj.mapFields (·.setIfInBounds 1 (rawInt (-1)))) ho (Obj.isFreed_of_fields hd2)
 refine wpAny_setField ho2 hd2 (by simp) ?_
 try dsimp only
 refine wpAny_bind ?_; show wpAny _ _ (newExc (.type "StopIteration") [] >>= _) _ _ _
 refine wpAny_bind ?_
 simp only [newExc,newTuple]
 refine wpAny_bind (wpAny_newObj_type ?_ (by size_fits)); refine wpAny_bind (m:=firstArgMember _ _) (wpAny_of_eq (a:=Value.none) (by first | rfl | (simp only [firstArgMember]; rfl)) ?_)
 refine wpAny_newObj_type ?_ (by size_fits); simp only [raiseNew]
 refine wpAny_bind (wpAny_handled ?_); first | rw [show A.in1.handled = none from hh] | rw [hh]
 refine wpAny_bind (wpAny_pure (wpAny_throw ?_)); refine wpAny_bind (wpAny_isInstance (T:="StopIteration") (b:=true) ⟨_,Heap.get?_push_size _ rfl,rfl⟩ isSubtype_stop ?_)
 exact wpAny_pure (hQ _ ((((Heap.SameBut.update ..).extBut.trans (Heap.SameBut.update ..).extBut).push _).push _))
theorem zbu {it l : Addr} {i : Int} {Q : Value → Shared → Prop} (hit : s.heap.IsRvd it l i) (h : Q (.ref it) s) : wpAny (model prog w) A (pyIter (.ref it)) Q E s:=by
 refine wpAny_pyIter_slot hit.typeIs F.slot_rvd_iter (wpAny_call_entry F.slot_rvd_iter hit.typeIs F.entry_rvd_iter ?_ (F.args_rvd_iter_1 _))
 show wpAny _ _ (ret (.ref it)) _ _ s; exact wpAny_pure ⟨_,rfl,"reversed",_,hit.typeIs,F.slot_rvd_next.lookup,h⟩
end
end PySem
namespace PySem
section
variable {prog : Program} {w : World} {A : Around} {E : Value → Shared → Prop} {s : Shared}
theorem zfM {it t : Addr} {i : Nat} {items : Array Value} {x : Value} {Q : Value → Shared → Prop} (hit : s.heap.IsTupleIter it t i) (ht : s.heap.IsTuple t items) (hx : items[i]? = some x)
  (hQ : ∀ h',h'.IsTupleIter it t (i + 1) → Heap.SameBut it s.heap h' → Q x { s with heap:=h' }) : wpAny (model prog w) A (Builtin.SmallTypes.nextOf (.ref it)) Q E s:=by
 obtain ⟨o,ho,hc,hd⟩:=id hit; obtain ⟨ot,hot,_,nt,hdt⟩:=ht
 unfold Builtin.SmallTypes.nextOf; refine wpAny_bind (wpAny_callSpecial?_slot (name:=Str.ofString "__next__") hit.typeIs F.slot_tuple_iterator_next (wpAny_call_entry F.slot_tuple_iterator_next hit.typeIs F.entry_tuple_iterator_next ?_ (F.args_tuple_iterator_next_1 _)))
 show wpAny _ _ (field (.ref it) 0 >>= _) _ _ s; refine wpAny_bind (wpAny_field ho hd (x:=.ref t) rfl ?_); show wpAny _ _ (if (Value.ref t == Value.none) = true then _ else _) _ _ _; rw [if_neg (by exact Bool.false_ne_true)]
 refine wpAny_bind (wpAny_field ho hd (x:=.int _ 0) rfl ?_); refine wpAny_bind (m:=seqItems? _) (wpAny_seqItems hot hdt ?_); simp only [Int.toNat_natCast,hx]
 have hn:=Heap.get?_update_self (Obj.mapFields (·.setIfInBounds 1 (rawInt ((i + 1 : Nat) : Int)))) ho (Obj.isFreed_of_fields (Obj.data_mapFields hd _))
 refine wpAny_bind (wpAny_setField ho hd (by simp) (wpAny_pure ⟨x,rfl,wpAny_pure (hQ _ ⟨_,hn,(Obj.cls_mapFields ..).trans hc,?_⟩ (Heap.SameBut.update ..))⟩)); rw [Obj.data_mapFields hd]; simp [rawInt]
theorem zfN {it t : Addr} {i : Nat} {items : Array Value} {Q : Value → Shared → Prop} (hh : A.handled = none) (hit : s.heap.IsTupleIter it t i) (ht : s.heap.IsTuple t items) (hx : items[i]? = none)
  (hE : ∀ h' e,Heap.ExtBut it s.heap h' → (∃ o,h'.get? e = some o ∧ o.cls = .type "StopIteration") → E (.ref e) { s with heap:=h' }) : wpAny (model prog w) A (Builtin.SmallTypes.nextOf (.ref it)) Q E s:=by
 obtain ⟨o,ho,hc,hd⟩:=id hit; obtain ⟨ot,hot,_,nt,hdt⟩:=ht
 unfold Builtin.SmallTypes.nextOf; refine wpAny_bind (wpAny_callSpecial?_slot (name:=Str.ofString "__next__") hit.typeIs F.slot_tuple_iterator_next (wpAny_call_entry F.slot_tuple_iterator_next hit.typeIs F.entry_tuple_iterator_next ?_ (F.args_tuple_iterator_next_1 _)))
 show wpAny _ _ (field (.ref it) 0 >>= _) _ _ s; refine wpAny_bind (wpAny_field ho hd (x:=.ref t) rfl ?_); show wpAny _ _ (if (Value.ref t == Value.none) = true then _ else _) _ _ _; rw [if_neg (by exact Bool.false_ne_true)]
 refine wpAny_bind (wpAny_field ho hd (x:=.int _ 0) rfl ?_); refine wpAny_bind (m:=seqItems? _) (wpAny_seqItems hot hdt ?_); simp only [Int.toNat_natCast,hx]
 refine wpAny_bind (wpAny_rule (wpAny_bind (wpAny_setField ho hd (by simp) ?_))); show wpAny _ _ (newExc (.type "StopIteration") [] >>= _) _ _ _; refine wpAny_bind ?_
 simp only [newExc,newTuple]; refine wpAny_bind (wpAny_newObj_type ?_ (by size_fits)); refine wpAny_bind (m:=firstArgMember _ _) (wpAny_of_eq (a:=Value.none) (by first | rfl | (simp only [firstArgMember]; rfl)) ?_)
 refine wpAny_newObj_type ?_ (by size_fits); simp only [raiseNew]; refine wpAny_bind (wpAny_handled ?_); first | rw [show A.in1.handled = none from hh] | rw [hh]
 refine wpAny_bind (wpAny_pure (wpAny_throw ?_)); exact hE _ _ (((Heap.SameBut.update ..).extBut.push _).push _) ⟨_,Heap.get?_push_size _ rfl,rfl⟩
end
theorem Draws.tuple {prog : Program} {w : World} {A : Around} (hh : A.handled = none) (it t : Addr) (hne : t ≠ it) (items : Array Value) : Draws prog w A it [it,t] items.size (fun i v => items[i]? = some v) (fun i h => h.IsTupleIter it t i ∧ h.IsTuple t items) where
 live:=fun i h st => st.1.imp fun o r => r.1
 frame:=fun i h h' st kk => ⟨st.1.at fun o => kk it (by simp) o,st.2.at fun o => kk t (by simp) o⟩
 item:=fun i s Q E hi st hQ => zfM st.1 st.2 (x:=items[i]) (by simp [hi]) fun h' a b => hQ _ h' s.toks (by simp [hi]) ⟨a,st.2.extBut b.extBut hne⟩ b
 done:=fun s Q E st hE => zfN hh st.1 st.2 (by simp) hE
def zbS (t : Addr) : Obj:={ cls:=.type "tuple_iterator",data:=.fields #[.ref t,.int 0 0] }
def zi5 (it : Addr) : Obj:={ cls:=.type "enumerate",data:=.fields #[.none,.bool false,.ref it,rawInt 0,.none,.none] }
end PySem
namespace L2
open PySem PySem.Spec PyProof.Rows
theorem zib {P : Program} {w : World} {K : PySem.W.Frag} {tg : Expr} (a it : Addr) (n : Nat) : Turn P w K tg (zfL (SqT K) a n) [it] it (fun i h => i ≤ n ∧ h.IsRvd it a ((n : Int) - 1 - (i : Int))) where
 mem:=by simp
 obj:=fun i h st b hb => by
  have z : b = it:=by simpa using hb
  subst z
  obtain ⟨_,o,e,c,d⟩:=st
  exact ⟨o,e,fun v z => by rw [d] at z; cases z⟩
 keep:=fun i h h' st k => ⟨st.1,st.2.at fun o e => k it (by simp) o e⟩
 item:=by
  intro X hP hw hK hc i pins s σ H E I hf st hg
  subst hP hw hK
  obtain ⟨hin,xs,hq,hl⟩:=hg
  obtain ⟨its,rv,p,hz⟩:=I.tuple hq
  have hlen:=rv.length
  have hsl:=sizeLine_eq
  obtain ⟨x,hx⟩ : ∃ x,xs[n - 1 - i]? = some x:=⟨xs[n - 1 - i]'(by omega),by simp⟩
  obtain ⟨u,hu,ru⟩:=rv.get hx
  obtain ⟨f0,f1,f2,f3,f4,f5⟩:=hf it (by simp)
  have e : (n : Int) - 1 - (i : Int) = ((n - 1 - i : Nat) : Int):=by omega
  have hit:=st.2
  rw [e] at hit
  refine zbV hit p (x:=u) (by simpa using hu) (by omega) fun h' st' sb => ?_
  have I1 : Inv X pins σ H { s with heap:=h',toks:=s.toks + 1 }:=I.turned (t':=s.toks + 1) (fun b o hb e => (sb.2 b hb).trans e) f0 f1 f3 f4 f5
  have e2 : ((n - 1 - i : Nat) : Int) - 1 = (n : Int) - 1 - ((i + 1 : Nat) : Int):=by omega
  rw [e2] at st'
  obtain ⟨o,eo,c,d⟩:=id st'
  exact ⟨u,rfl,zfH (s:={ s with heap:=h',toks:=s.toks + 1 }) eo c d (by decide) ⟨x,H,I1,ru,⟨rfl,fun ys hy => by rw [I.tuple_inj hy hq]; exact hx⟩,⟨hin,st'⟩,fun b hb => (hf b hb).1⟩⟩
 done:=by
  intro X hP hw hK hc i pins s σ H E I hf st hg
  subst hP hw hK
  obtain ⟨f0,f1,f2,f3,f4,f5⟩:=hf it (by simp)
  have hin : n ≤ i:=hg
  have e : (n : Int) - 1 - (i : Int) = -1:=by have:=st.1; omega
  have hit:=st.2
  rw [e] at hit
  exact zbY (I.ok.hd hc) hit fun h' eb => ⟨rfl,I.turned (t':=s.toks) (fun b o hb e => eb b o hb e) f0 f1 f3 f4 f5⟩
 self:=fun _ _ _ _ _ st h => zbu st.2 h
theorem ze8 {X : Cx} {tg : Expr} {pins : List (Addr × Obj)} {σ : St} {H1 : Hp} {s1 : Shared} {R : It → Hp → Prop} {l : Addr} {xs : List V} (I1 : Inv X pins σ H1 s1) (hq : SqT X.K H1 l xs) (q : R (zfL (SqT X.K) l xs.length) H1) :
  wpAny (model X.prog X.w) X.A (call (.type "reversed") [.ref l]) (fun v s2 => wpAny (model X.prog X.w) X.A (pyIter v) (PIE X pins σ tg R) X.xe s2) X.xe s1:=by
 obtain ⟨its,rv,pl,hz⟩:=I1.tuple hq
 have hlen:=rv.length
 have hsl:=sizeLine_eq
 refine zdO pl (by rw [List.size_toArray]; omega) ?_
 have I2 : Inv X pins σ H1 { s1 with heap:=s1.heap.push (ze7 l ((its.toArray.size : Int) - 1)),toks:=s1.toks + 1 + 1 }:=I1.kept fun b o e => Heap.get?_push_of_some _ e
 have hr : (s1.heap.push (ze7 l ((its.toArray.size : Int) - 1))).IsRvd s1.heap.objs.size l ((xs.length : Int) - 1 - ((0 : Nat) : Int)):=by
  refine ⟨_,Heap.get?_push_size _ rfl,rfl,?_⟩
  have e1 : (its.toArray.size : Int) - 1 = (xs.length : Int) - 1 - ((0 : Nat) : Int):=by rw [List.size_toArray,hlen]; omega
  show Data.fields #[.ref l,rawInt ((its.toArray.size : Int) - 1)] = _
  rw [e1]
 refine zbu hr ?_
 refine ⟨_,[s1.heap.objs.size],_,zfL (SqT X.K) l xs.length,H1,rfl,I2,zib l s1.heap.objs.size xs.length,⟨Nat.zero_le _,hr⟩,fun b hb => ?_,q⟩
 have z : b = s1.heap.objs.size:=by simpa using hb
 subst z
 exact I1.fpOk (Nat.le_refl _) (I1.hok.fresh (Nat.le_refl _))
theorem zfO {X : Cx} {tg : Expr} {pins : List (Addr × Obj)} {σ : St} {H1 : Hp} {s1 : Shared} {R : It → Hp → Prop} {l : Addr} {xs : List V} (I1 : Inv X pins σ H1 s1) (hq : SqL X.K H1 l xs) (q : R (zfL (SqL X.K) l xs.length) H1) :
  wpAny (model X.prog X.w) X.A (call (.type "reversed") [.ref l]) (fun v s2 => wpAny (model X.prog X.w) X.A (pyIter v) (PIE X pins σ tg R) X.xe s2) X.xe s1:=by
 obtain ⟨its,rv,pl,hz⟩:=I1.list hq
 have hlen:=rv.length
 refine call_reversed_list pl.isList ?_
 have I2 : Inv X pins σ H1 { s1 with heap:=s1.heap.push (revObj l ((its.toArray.size : Int) - 1)) }:=I1.kept (t':=s1.toks) fun b o e => Heap.get?_push_of_some _ e
 have hr : (s1.heap.push (revObj l ((its.toArray.size : Int) - 1))).IsRevIter s1.heap.objs.size l ((xs.length : Int) - 1 - ((0 : Nat) : Int)):=by
  refine ⟨_,Heap.get?_push_size _ rfl,rfl,?_⟩
  have e1 : (its.toArray.size : Int) - 1 = (xs.length : Int) - 1 - ((0 : Nat) : Int):=by rw [List.size_toArray,hlen]; omega
  show Data.fields #[.ref l,rawInt ((its.toArray.size : Int) - 1)] = _
  rw [e1]
 refine wpAny_pyIter_revIter hr ?_
 refine ⟨_,[s1.heap.objs.size],_,zfL (SqL X.K) l xs.length,H1,rfl,I2,zia l s1.heap.objs.size xs.length,⟨Nat.zero_le _,hr⟩,fun b hb => ?_,q⟩
 have z : b = s1.heap.objs.size:=by simpa using hb
 subst z
 exact I1.fpOk (Nat.le_refl _) (I1.hok.fresh (Nat.le_refl _))
def znh (K : PySem.W.Frag) (ta : TA) : TI:=fun σ H R => ta σ H fun vs H1 => ∃ a xs,vs = [.ref a] ∧ ((SqL K H1 a xs ∧ R (zfL (SqL K) a xs.length) H1) ∨ (SqT K H1 a xs ∧ R (zfL (SqT K) a xs.length) H1))
theorem zlO {X : Cx} {tg : Expr} {p pos : Pos} {a : Expr} {ta : TA} (hg : Gl X "reversed") (hm : X.mg "reversed" = none) (ha : PA X [a] ta) (hs : starEach [a] X.env = [(false,eval a X.env)]:=by rfl) :
  PI X tg (.Call (.Name "reversed" p) [a] [] pos) (znh X.K ta):=by
 intro pins s σ H R I h
 refine Call_ (zbh I hg hm boot_reversed (PyProof.Rows.callWith_type1 (thn (ha pos pins s σ H _ I h) fun us s1 ⟨vs,H1,I1,r1,q1⟩ => ?_) hs rfl))
 obtain ⟨l,xs,e,hq⟩:=q1
 subst e
 cases r1 with
 | cons r rr =>
  cases rr
  cases r
  rcases hq with ⟨hq,q⟩ | ⟨hq,q⟩
  ·exact zfO I1 hq q
  ·exact ze8 I1 hq q
end L2
end
section
set_option maxHeartbeats 3999000
namespace L2
open PySem PySem.Spec PyProof.Rows
inductive EqD (K : PySem.W.Frag) (H : Hp) : Nat → V → V → Bool → Prop where
 | flat {d : Nat} {x y : V} (hx : zeE x = true) (hy : zeE y = true) : EqD K H d x y (eqV x y)
 | same {d : Nat} {a : Addr} : EqD K H d (.ref a) (.ref a) true
 | lists {d : Nat} {a b : Addr} {xs ys : List V} {e : Nat → Bool} (hne : a ≠ b) (ha : SqL K H a xs) (hb : SqL K H b ys) (hl : xs.length = ys.length)
   (he : ∀ (j : Nat) x y,xs[j]? = some x → ys[j]? = some y → EqD K H d x y (e j)) : EqD K H (d + 1) (.ref a) (.ref b) ((List.range xs.length).all e)
 | lens {d : Nat} {a b : Addr} {xs ys : List V} (hne : a ≠ b) (ha : SqL K H a xs) (hb : SqL K H b ys) (hl : xs.length ≠ ys.length) : EqD K H (d + 1) (.ref a) (.ref b) false
 | tups {d : Nat} {a b : Addr} {xs ys : List V} {e : Nat → Bool} (hne : a ≠ b) (ha : SqT K H a xs) (hb : SqT K H b ys)
   (he : ∀ (j : Nat) x y,xs[j]? = some x → ys[j]? = some y → EqD K H d x y (e j)) : EqD K H (d + 1) (.ref a) (.ref b) ((List.range (min xs.length ys.length)).all e && xs.length == ys.length)
theorem zJ.getE {xs : List V} {us : List Value} (r : zJ xs us) {j : Nat} (h : j < us.toArray.size) : ∃ x,xs[j]? = some x ∧ RelV x us.toArray[j]:=by
 have hl:=r.length
 have hj : j < xs.length:=by rw [hl]; simpa using h
 obtain ⟨u,hu,ru⟩:=r.get (i:=j) (x:=xs[j]) (by simp)
 refine ⟨xs[j],by simp,?_⟩
 have : us.toArray[j] = u:=by
  have h2 : j < us.length:=by simpa using h
  rw [List.getElem?_eq_getElem h2] at hu
  simpa using Option.some.inj hu
 rw [this]
 exact ru
theorem EqD.at {X : Cx} {pins : List (Addr × Obj)} {σ : St} {H : Hp} {s : Shared} (I : Inv X pins σ H s) {d : Nat} {x y : V} {b : Bool} (h : EqD X.K H d x y b) :
  ∀ (A : Around) (u v : Value),RelV x u → RelV y v → A.units + d < cLine → SeqAt.EqAt A s u v b:=by
 induction h with
 | flat hx hy => exact fun A u v rx ry _ => zlI rx ry hx hy
 | same => intro A u v rx ry _; cases rx; cases ry; exact SeqAt.EqAt.same _
 | lists hne ha hb hl he ih =>
  intro A u v rx ry hu
  cases rx; cases ry
  obtain ⟨is1,r1,p1,_⟩:=I.list ha
  obtain ⟨is2,r2,p2,_⟩:=I.list hb
  have l1:=r1.length
  have l2:=r2.length
  refine SeqAt.EqAt.of_refs hne ?_
  have q:=SeqAt.RcAt.lists (A:=A) p1.isList p2.isList (by simp only [List.size_toArray]; omega) (by omega) fun j h1 h2 => by
   obtain ⟨x,hx,rx⟩:=r1.getE h1
   obtain ⟨y,hy,ry⟩:=r2.getE h2
   exact ih j x y hx hy A.in1 _ _ rx ry (by simp only [Around.in1_units]; omega)
  rw [List.size_toArray,← l1] at q
  exact q
 | lens hne ha hb hl =>
  intro A u v rx ry hu
  cases rx; cases ry
  obtain ⟨is1,r1,p1,_⟩:=I.list ha
  obtain ⟨is2,r2,p2,_⟩:=I.list hb
  have l1:=r1.length
  have l2:=r2.length
  exact SeqAt.EqAt.of_refs hne (SeqAt.RcAt.lists_lengths p1.isList p2.isList (by simp only [List.size_toArray,bne_iff_ne]; omega) (by omega))
 | tups hne ha hb he ih =>
  intro A u v rx ry hu
  cases rx; cases ry
  obtain ⟨is1,r1,p1,_⟩:=I.tuple ha
  obtain ⟨is2,r2,p2,_⟩:=I.tuple hb
  have l1:=r1.length
  have l2:=r2.length
  refine SeqAt.EqAt.of_refs hne ?_
  have q:=SeqAt.RcAt.tuples (A:=A) (s:=s) p1 p2 (by omega) fun j h1 h2 => by
   obtain ⟨x,hx,rx⟩:=r1.getE h1
   obtain ⟨y,hy,ry⟩:=r2.getE h2
   exact ih j x y hx hy A.in1 _ _ rx ry (by simp only [Around.in1_units]; omega)
  rw [List.size_toArray,List.size_toArray,← l1,← l2] at q
  exact q
def zlP (K : PySem.W.Frag) (neg : Bool) : R2:=fun x y H Q => ∃ a b xs ys,x = .ref a ∧ y = .ref b ∧ ((SqL K H a xs ∧ SqL K H b ys) ∨ (SqT K H a xs ∧ SqT K H b ys)) ∧
 ((xs.length ≠ ys.length ∧ (∀ (j : Nat) x y,xs[j]? = some x → ys[j]? = some y → ∃ c,EqD K H 8 x y c) ∧ Q (.bl neg) H) ∨
  (xs.length = ys.length ∧ ∃ e : Nat → Bool,(∀ (j : Nat) x y,xs[j]? = some x → ys[j]? = some y → EqD K H 8 x y (e j)) ∧ Q (.bl (if neg then !(List.range xs.length).all e else (List.range xs.length).all e)) H))
theorem ze9 {X : Cx} (hu : X.A.units + 20 < cLine) : OpR X (compareOp .NotEq) (zlP X.K true):=by
 intro pins s σ H x y v u Q I rx ry h
 obtain ⟨a,b,xs,ys,rfl,rfl,hk,h⟩:=h
 cases rx; cases ry
 rcases hk with ⟨ha,hb⟩ | ⟨ha,hb⟩
 ·obtain ⟨is1,r1,p1,_⟩:=I.list ha
  obtain ⟨is2,r2,p2,_⟩:=I.list hb
  have l1:=r1.length
  have l2:=r2.length
  rcases h with ⟨hl,_,q⟩ | ⟨hl,e,he,q⟩
  ·exact SeqAt.RcNeAt.lists_lengths p1.isList p2.isList (by simp only [List.size_toArray,bne_iff_ne]; omega) (by omega) _ _ _ _ ⟨.bl true,H,I,rfl,q⟩
  ·refine SeqAt.RcNeAt.lists p1.isList p2.isList (e:=e) (by simp only [List.size_toArray]; omega) (by omega) (fun j h1 h2 => ?_) _ _ _ _ ⟨.bl _,H,I,rfl,?_⟩
   ·obtain ⟨x,hx,rx⟩:=r1.getE h1
    obtain ⟨y,hy,ry⟩:=r2.getE h2
    exact (he j x y hx hy).at I _ _ _ rx ry (by simp only [Around.in1_units]; omega)
   ·rw [List.size_toArray,← l1]
    exact q
 ·obtain ⟨is1,r1,p1,_⟩:=I.tuple ha
  obtain ⟨is2,r2,p2,_⟩:=I.tuple hb
  have l1:=r1.length
  have l2:=r2.length
  rcases h with ⟨hl,he,q⟩ | ⟨hl,e,he,q⟩
  ·have he' : ∀ j : Nat,∃ c : Bool,∀ x y,xs[j]? = some x → ys[j]? = some y → EqD X.K H 8 x y c:=fun j => by
    cases hx : xs[j]? with
    | none => exact ⟨true,fun x y z => by cases z⟩
    | some x =>
     cases hy : ys[j]? with
     | none => exact ⟨true,fun x y _ z => by cases z⟩
     | some y =>
      obtain ⟨c,hc⟩:=he j x y hx hy
      exact ⟨c,fun x' y' z1 z2 => by cases z1; cases z2; exact hc⟩
   obtain ⟨e,he''⟩:=Classical.axiomOfChoice he'
   refine SeqAt.RcNeAt.tuples (s:=s) p1 p2 (e:=e) (by omega) (fun j h1 h2 => ?_) _ _ _ _ ⟨.bl _,H,I,rfl,?_⟩
   ·obtain ⟨x,hx,rx⟩:=r1.getE h1
    obtain ⟨y,hy,ry⟩:=r2.getE h2
    exact (he'' j x y hx hy).at I _ _ _ rx ry (by simp only [Around.in1_units]; omega)
   ·have hb' : (is1.toArray.size == is2.toArray.size) = false:=by
     rw [List.size_toArray,List.size_toArray]; exact beq_eq_false_iff_ne.mpr (by omega)
    rw [hb',Bool.and_false]
    exact q
  ·refine SeqAt.RcNeAt.tuples (s:=s) p1 p2 (e:=e) (by omega) (fun j h1 h2 => ?_) _ _ _ _ ⟨.bl _,H,I,rfl,?_⟩
   ·obtain ⟨x,hx,rx⟩:=r1.getE h1
    obtain ⟨y,hy,ry⟩:=r2.getE h2
    exact (he j x y hx hy).at I _ _ _ rx ry (by simp only [Around.in1_units]; omega)
   ·have hb' : (is1.toArray.size == is2.toArray.size) = true:=by
     rw [List.size_toArray,List.size_toArray]; exact beq_iff_eq.mpr (by omega)
    have hmin : min is1.toArray.size is2.toArray.size = xs.length:=by rw [List.size_toArray,List.size_toArray]; omega
    rw [hb',Bool.and_true,hmin]
    exact q
theorem zfP {X : Cx} : zbR X (.builtin "isinstance") (fun xs H Q => ∃ x t n b,xs = [x,.ty n] ∧ TyOf X.K H x t ∧ PySem.W.kitOne X.K t (.type n) = some b ∧ Q (.bl b) H):=by
 intro pins s σ H xs us Q I r h
 obtain ⟨x,t,n,b,rfl,ty,hk,q⟩:=h
 obtain ⟨u,u',rfl,rx,r2⟩:=vals2 r
 cases r2
 exact zh3 I rx ty hk fun tk => ⟨.bl b,H,I.tok tk,rfl,q⟩
theorem zdf {X : Cx} : zbR X (.type "range") (fun xs H Q => ∃ j : Int,xs = [.int j] ∧ ∀ l,H l = none → Q (.ref l) (upd H l (.rng 0 j))):=by
 intro pins s σ H xs us Q I r h
 obtain ⟨j,rfl,q⟩:=h
 obtain ⟨u,rfl,t,rfl⟩:=vals1 r
 refine call_range_1 ?_
 exact ⟨.ref s.heap.objs.size,_,I.laid (o:=.rng 0 j) (fun b o e => Heap.get?_push_of_some _ e) (Nat.le_refl _) ⟨_,_,_,Heap.get?_push_size _ rfl⟩,rfl,q _ I.fresh⟩
def zaI (lo : Int) (n : Nat) : List Int:=(List.range n).map fun (i : Nat) => lo + (i : Int)
theorem zbq (lo : Int) (n : Nat) : (zaI lo n).length = n:=by simp [zaI]
theorem zen {acc : Array Value} {lo : Int} {n : Nat} (h : ItemsOf (fun i v => ∃ t,v = .int (lo + (i : Nat) * 1) t) acc n) : zJ ((zaI lo n).map V.int) acc.toList:=by
 obtain ⟨hsz,hv⟩:=h
 have go : ∀ (us : List Value) (k : Nat),(∀ (j : Nat) v,us[j]? = some v → ∃ t,v = .int (lo + ((k + j : Nat) : Int)) t) → zJ (((List.range us.length).map fun (i : Nat) => V.int (lo + ((k + i : Nat) : Int)))) us:=by
  intro us
  induction us with
  | nil => intro k _; exact .nil
  | cons u us ih =>
   intro k hu
   rw [List.length_cons,List.range_succ_eq_map,List.map_cons,List.map_map]
   refine .cons ?_ ?_
   ·obtain ⟨t,e⟩:=hu 0 u rfl
    exact ⟨t,e⟩
   ·have:=ih (k + 1) fun j v e => by
     obtain ⟨t,z⟩:=hu (j + 1) v (by simpa using e)
     exact ⟨t,by rw [z]; congr 1; omega⟩
    have e2 : (fun (i : Nat) => V.int (lo + ((k + 1 + i : Nat) : Int))) = ((fun (i : Nat) => V.int (lo + ((k + i : Nat) : Int))) ∘ Nat.succ):=by
     funext i
     show V.int _ = V.int _
     congr 2
     show ((k + 1 + i : Nat) : Int) = ((k + (i + 1) : Nat) : Int)
     omega
    rw [← e2]
    exact this
 have h1:=go acc.toList 0 fun j v e => by
  obtain ⟨t,z⟩:=hv j v (by simpa using e)
  exact ⟨t,by rw [z]; simp⟩
 have e1 : acc.toList.length = n:=by simpa using hsz
 rw [e1] at h1
 unfold zaI
 rw [List.map_map]
 have e2 : (V.int ∘ fun (i : Nat) => lo + (i : Int)) = fun (i : Nat) => V.int (lo + ((0 + i : Nat) : Int)):=by
  funext i
  show V.int (lo + (i : Int)) = V.int (lo + ((0 + i : Nat) : Int))
  rw [Nat.zero_add]
 rw [e2]
 exact h1
theorem zcp {X : Cx} (hc : X.calm = true) : zbR X (.type "list") (fun xs H Q => ∃ p hi,xs = [.ref p] ∧ H p = some (.rng 0 hi) ∧ 0 ≤ hi ∧ hi ≤ 1000 ∧ ∀ l,H l = none → Q (.ref l) (upd H l (.lst ((zaI 0 hi.toNat).map V.int)))):=by
 intro pins s σ H xs us Q I r h
 obtain ⟨p,hi,rfl,hp,h0,h1,q⟩:=h
 obtain ⟨u,rfl,rx⟩:=vals1 r
 cases rx
 obtain ⟨t,u',v,e⟩:=(show zab X.prog X.w H s.heap p (.rng 0 hi) from I.hok p _ hp)
 have hsl:=sizeLine_eq
 refine call_list_range (n:=hi.toNat) (I.ok.hd hc) (show IsRange s.heap p 0 hi 1 t u' v from e) (small_one (by omega) (by omega) (by omega) (by omega)) (by rw [rangeSize_one]; split <;> omega) (by omega) fun h' tk acc' c' kk ho hacc => ?_
 have hv:=zen (lo:=0) (n:=hi.toNat) hacc
 refine ⟨.ref s.heap.objs.size,_,I.laid kk (Nat.le_refl _) ?_,rfl,q _ I.fresh⟩
 exact ⟨by rw [List.length_map,zbq]; omega,acc'.toList,c',hv,by simpa using ho⟩
end L2
namespace L2
open PySem PySem.Spec PyProof.Rows
def zni (K : PySem.W.Frag) (tl : TE) : TI:=fun σ H R => tl σ H fun x H1 => ∃ a,x = .ref a ∧ (((∃ xs,SqL K H1 a xs) ∧ R (Itl K a) H1) ∨ ((∃ xs,SqT K H1 a xs) ∧ R (Itt K a) H1))
theorem zlQ {X : Cx} {tg l : Expr} {tl : TE} (hl : PE X l tl) : PI X tg l (zni X.K tl):=by
 intro pins s σ H R I h
 refine thn (hl pins s σ H _ I h) fun v s1 ⟨x,H1,I1,r1,q1⟩ => ?_
 obtain ⟨a,e,q⟩:=q1
 subst e
 cases r1
 rcases q with ⟨⟨xs,hq⟩,q⟩ | ⟨⟨xs,hq⟩,q⟩
 ·obtain ⟨its,rv,p,hz⟩:=I1.list hq
  refine wpAny_pyIter_list p.isList ?_
  refine ⟨s1.heap.objs.size,[s1.heap.objs.size],_,_,H1,rfl,I1.kept (t':=s1.toks) fun b o e => Heap.get?_push_of_some _ e,zew a _,⟨_,Heap.get?_push_size _ rfl,rfl,rfl⟩,fun b hb => ?_,q⟩
  have e : b = s1.heap.objs.size:=by simpa using hb
  subst e
  exact I1.fpOk (Nat.le_refl _) (I1.hok.fresh (Nat.le_refl _))
 ·obtain ⟨its,rv,p,hz⟩:=I1.tuple hq
  refine wpAny_pyIter_tuple (show s1.heap.IsTuple a its.toArray from p) ?_
  refine ⟨s1.heap.objs.size,[s1.heap.objs.size],_,_,H1,rfl,I1.kept (t':=s1.toks) fun b o e => Heap.get?_push_of_some _ e,zdH a _,⟨_,Heap.get?_push_size _ rfl,rfl,rfl⟩,fun b hb => ?_,q⟩
  have e : b = s1.heap.objs.size:=by simpa using hb
  subst e
  exact I1.fpOk (Nat.le_refl _) (I1.hok.fresh (Nat.le_refl _))
end L2
namespace L2
open PySem PySem.Spec PyProof.Rows
def intsOf : List Expr → Option (List Int)
 | [] => some []
 | .Constant (.int i) _ _ :: r => (intsOf r).map (i :: ·)
 | _ => none
def zeI (ns : List Int) : TA:=fun _ H Q => Q (ns.map V.int) H
theorem zi6 {X : Cx} : ∀ (es : List Expr) (ns : List Int),intsOf es = some ns → PA X es (zeI ns):=by
 intro es
 induction es with
 | nil =>
  intro ns h
  have e : ns = []:=(Option.some.inj h).symm
  subst e
  exact ze
 | cons e r ih =>
  intro ns h
  unfold intsOf at h
  split at h
  ·rename_i heq
   cases heq
  ·rename_i i j p r' heq
   injection heq with e1 e2
   subst e1 e2
   cases hr : intsOf r with
   | none => rw [hr] at h; cases h
   | some ms =>
    rw [hr] at h
    have e : i :: ms = ns:=Option.some.inj h
    subst e
    exact za zf (ih ms hr)
  ·cases h
theorem zkp {X : Cx} {es : List Expr} {ns : List Int} (h : intsOf es = some ns) : PA X es (zeI ns):=zi6 es ns h
end L2
namespace L2
open PySem PySem.Spec PyProof.Rows
theorem zbZ {X : Cx} {i : Int} {j : Nat} {p : Pos} {es : List Expr} {t : TA} (hr : PA X es t) : PA X (.Constant (.int i) j p :: es) (zlh (tC (.int i)) t):=za zf hr
end L2
namespace L2
open PySem PySem.Spec PyProof.Rows
theorem zi7 {X : Cx} {i : Nat} {x : Str} {pos' pos2 spos : Pos} {rest : List Stmt} {u : TS} {es : List Expr} {ns : List Int} (h : intsOf es = some ns) (hN : X.N.Nodup) (hi : X.N[i]? = some x) (hx : Loc X.env.scope x)
  (hf : X.fn x = true ∨ X.env.scope.names.lookup x = some .local) (hr : PSs X rest u) : PSs X (.Assign [.Name x pos'] (.List es pos2) spos :: rest) (zmo (zgv (zkj (zeI ns)) (zaC i)) u):=by
 have h1 : PE X (.List es pos2) (zkj (zeI ns)):=@z0 X es (zeI ns) pos2 (@zkp X es ns h)
 have h2 : PS X (.Assign [.Name x pos'] (.List es pos2) spos) (zgv (zkj (zeI ns)) (zaC i)):=zp hN hi hx h1 (by rfl) hf
 exact zd h2 hr
end L2
namespace L2
open PySem PySem.Spec PyProof.Rows
section
variable {X : Cx} {K : PySem.W.Frag}
theorem zb0 (hK : X.K = K) : IxR X (zmD K):=by subst hK; exact zw
theorem zg9 (hK : X.K = K) : IxR X (zmE K):=by subst hK; exact zbE
theorem zi8 (hK : X.K = K) : SlR X (zmG K):=by subst hK; exact zb8
def zmH (K : PySem.W.Frag) : List V → Hp → VK → Prop:=fun xs H Q => ∃ p ys,xs = [.ref p] ∧ (SqL K H p ys ∨ SqT K H p ys) ∧ Q (.int ys.length) H
theorem zbr (hK : X.K = K) : zbR X (.builtin "len") (zmH K):=by subst hK; exact zq
theorem zaY {es : List Expr} {k : Nat} {t : TGs} {n : Nat} {pos : Pos} (hK : X.K = K) (hc : X.calm = true) (h : PGs X es t)
  (hn : (assignEach es X.env).length = n:=by rfl) (hst : (assignEach es X.env).findIdx? (·.1) = none:=by rfl) : PG X (.Tuple es k pos) (zgu K n t):=by subst hK; exact zaw hc h hn hst
theorem zlR {o e : Expr} {es : List Expr} {to : TE} {t : TA} {name : Str} {apos cpos : Pos} {T id : String} {r : V → List V → Hp → VK → Prop} (hK : X.K = K) (pa : PlainAttrs T) (slot : Slot T name id) (hty : typeOf (.builtin id) = pure (.type "method_descriptor")) (hm : MtR X id r) (ho : PE X o to) (ha : PA X (e :: es) t)
  (hbase : attributeBase o name X.env (eval o X.env) = eval o X.env:=by rfl)
  (hfew : ((backTo cpos (starEach (e :: es) X.env)).all (fun x => !x.1) && (backToKw cpos (keywordEach [] X.env)).all (fun x => x.1.isSome)
   && decide ((e :: es).length + ([] : List Keyword).length + (if ([] : List Keyword).isEmpty then 0 else 1) < 30)) = true:=by rfl)
  (hline : (apos.endLine == cpos.line) = true:=by rfl) (hs : starEach (e :: es) X.env = (false,eval e X.env) :: starEach es X.env:=by rfl) (hplain : (backTo cpos (starEach es X.env)).any (·.1) = false:=by rfl) :
  PE X (.Call (.Attribute o name apos) (e :: es) [] cpos) (tBM K T r to t):=by subst hK; exact zdL pa slot hty hm ho ha hbase hfew hline hs hplain
end
end L2
namespace L2
end L2
end
section
namespace My
def Cg (p a b : Int) : Prop:=∃ k,a = b + p * k
theorem Cg.refl (p a : Int) : Cg p a a:=⟨0,by grind⟩
theorem Cg.symm {p a b : Int} (h : Cg p a b) : Cg p b a:=by obtain ⟨k,e⟩:=h; exact ⟨-k,by grind⟩
theorem Cg.trans {p a b c : Int} (h : Cg p a b) (h' : Cg p b c) : Cg p a c:=by
 obtain ⟨k,e⟩:=h; obtain ⟨l,e'⟩:=h'; exact ⟨k + l,by grind⟩
theorem Cg.add {p a b c d : Int} (h : Cg p a b) (h' : Cg p c d) : Cg p (a + c) (b + d):=by
 obtain ⟨k,e⟩:=h; obtain ⟨l,e'⟩:=h'; exact ⟨k + l,by grind⟩
theorem Cg.sub {p a b c d : Int} (h : Cg p a b) (h' : Cg p c d) : Cg p (a - c) (b - d):=by
 obtain ⟨k,e⟩:=h; obtain ⟨l,e'⟩:=h'; exact ⟨k - l,by grind⟩
theorem Cg.mul {p a b c d : Int} (h : Cg p a b) (h' : Cg p c d) : Cg p (a * c) (b * d):=by
 obtain ⟨k,e⟩:=h; obtain ⟨l,e'⟩:=h'
 exact ⟨k * d + b * l + p * k * l,by subst e e'; grind⟩
theorem Cg.of_eq {p a b : Int} (h : a = b) : Cg p a b:=h ▸ Cg.refl p a
theorem Cg.emod (p a : Int) : Cg p (a % p) a:=⟨-(a / p),by have:=Int.emod_add_mul_ediv a p; grind⟩
theorem Cg.mod_eq {p a b : Int} (h : Cg p a b) : a % p = b % p:=by
 obtain ⟨k,e⟩:=h; rw [e,Int.add_mul_emod_self_left]
theorem Cg.of_mod {p a b : Int} (h : a % p = b % p) : Cg p a b:=(Cg.emod p a).symm.trans (h ▸ Cg.emod p b)
theorem Cg.eq {p a b : Int} (h : Cg p a b) (ha : 0 ≤ a) (ha' : a < p) (hb : 0 ≤ b) (hb' : b < p) : a = b:=by
 have:=h.mod_eq
 rwa [Int.emod_eq_of_lt ha ha',Int.emod_eq_of_lt hb hb'] at this
def zi (p x : Int) : List Int → Int
 | [] => 0
 | c :: r => (c + x * zi p x r) % p
theorem z9 {p x : Int} (hp : 0 < p) : ∀ l,0 ≤ zi p x l
 | [] => Int.le_refl 0
 | _ :: _ => Int.emod_nonneg _ (by omega)
theorem zaa {p x : Int} (hp : 0 < p) : ∀ l,zi p x l < p
 | [] => hp
 | _ :: _ => Int.emod_lt_of_pos _ hp
theorem zL (p x c : Int) (r : List Int) : Cg p (zi p x (c :: r)) (c + x * zi p x r):=Cg.emod _ _
theorem zdP {p x : Int} (m : Nat) : zi p x (List.replicate m 0) = 0:=by
 induction m with
 | zero => rfl
 | succ m ih => rw [List.replicate_succ]; show (0 + x * zi p x (List.replicate m 0)) % p = 0; rw [ih]; simp
theorem zfQ {p x : Int} (m : Nat) : ∀ l,zi p x (l ++ List.replicate m 0) = zi p x l
 | [] => zdP m
 | c :: r => by show (c + x * zi p x (r ++ List.replicate m 0)) % p = (c + x * zi p x r) % p; rw [zfQ m r]
def lv (p x : Int) : Int → Int → List Int → Int
 | total,_,[] => total
 | total,power,c :: r => lv p x ((total + c * power) % p) (power * x % p) r
theorem zlj {p x : Int} : ∀ (l : List Int) (total power : Int),Cg p (lv p x total power l) (total + power * zi p x l)
 | [],total,power => Cg.of_eq (by show total = total + power * 0; grind)
 | c :: r,total,power => by
  have h1:=zlj (p:=p) (x:=x) r ((total + c * power) % p) (power * x % p)
  refine h1.trans ?_
  have h2 : Cg p ((total + c * power) % p + power * x % p * zi p x r) (total + c * power + power * x * zi p x r):=(Cg.emod p _).add ((Cg.emod p (power * x)).mul (Cg.refl p _))
  refine h2.trans ?_
  have h3 : Cg p (total + power * (c + x * zi p x r)) (total + power * zi p x (c :: r)):=(Cg.refl p _).add ((Cg.refl p _).mul (zL p x c r).symm)
  refine (Cg.of_eq ?_).trans h3
  grind
theorem zi9 {p x : Int} (hp : 0 < p) : ∀ (l : List Int) (total power : Int),0 ≤ total → total < p → 0 ≤ lv p x total power l ∧ lv p x total power l < p
 | [],total,power,h1,h2 => ⟨h1,h2⟩
 | c :: r,total,power,h1,h2 => zi9 hp r _ _ (Int.emod_nonneg _ (by omega)) (Int.emod_lt_of_pos _ hp)
theorem zha {p x : Int} (hp : 0 < p) (l : List Int) : lv p x 0 1 l = zi p x l:=by
 obtain ⟨a,b⟩:=zi9 (x:=x) hp l 0 1 (Int.le_refl _) hp
 exact ((zlj l 0 1).trans (Cg.of_eq (by grind))).eq a b (z9 hp l) (zaa hp l)
def zm : List Int:=[5,7,11,13,17,19,23,29,31,37,41,43,47,53,59,61,67,71,73,79,83,89,97]
def zca (p : Int) : Nat → Int → Int → Int → Int
 | 0,prod,_,_ => prod
 | n + 1,prod,sq,left => if 0 < left then zca p n (if left % 2 = 1 then prod * sq % p else prod) (sq * sq % p) (left / 2) else prod
def inv (p h : Int) : Int:=zca p 7 1 (h % p) (p - 2)
def znj : Bool:=zm.all fun p => (List.range p.toNat).all fun h => h == 0 || (inv p h * h) % p == 1
theorem zic : znj = true:=by decide +kernel
theorem zo {p : Int} (hp : p ∈ zm) : 5 ≤ p ∧ p ≤ 97:=by
 have : zm.all (fun p => decide (5 ≤ p ∧ p ≤ 97)) = true:=by decide +kernel
 have:=List.all_eq_true.mp this p hp
 simpa using this
theorem zfa {p h : Int} (hp : p ∈ zm) (h0 : 0 < h) (h1 : h < p) : Cg p (inv p h * h) 1:=by
 have e:=List.all_eq_true.mp (List.all_eq_true.mp zic p hp) h.toNat (List.mem_range.mpr (by omega))
 have hh : ((h.toNat : Nat) : Int) = h:=by omega
 have : h.toNat ≠ 0:=by omega
 simp only [Bool.or_eq_true,beq_iff_eq,hh,this,false_or] at e
 have hr:=zo hp
 exact Cg.of_mod (by rw [e,Int.emod_eq_of_lt (by omega) (by omega)])
theorem zdg {p a b : Int} (hp : p ∈ zm) (h : Cg p (a * b) 0) : Cg p a 0 ∨ Cg p b 0:=by
 have hr:=zo hp
 by_cases ha : a % p = 0
 ·exact .inl (Cg.of_mod (by rw [ha]; simp))
 ·right
  have h0 : 0 < a % p:=by have:=Int.emod_nonneg a (show p ≠ 0 by omega); omega
  have hi:=zfa hp h0 (Int.emod_lt_of_pos a (by omega))
  have h1 : Cg p (inv p (a % p) * (a * b)) 0:=((Cg.refl p _).mul h).trans (Cg.of_eq (by grind))
  have h2 : Cg p (inv p (a % p) * (a % p) * b) (1 * b):=hi.mul (Cg.refl p b)
  have h3 : Cg p (inv p (a % p) * (a * b)) (inv p (a % p) * (a % p) * b):=by
   have:=((Cg.refl p (inv p (a % p))).mul (Cg.emod p a).symm).mul (Cg.refl p b)
   exact (Cg.of_eq (by grind)).trans this
  exact ((Cg.of_eq (by grind)).trans (h2.symm.trans (h3.symm.trans h1)))
def trF (p r : Int) (high low : Int) : Int:=(high - r * low) % p
def zb1 (p r : Int) (v : List Int) : List Int:=List.zipWith (trF p r) (0 :: v) (v ++ [0])
theorem zlk {p r z : Int} : ∀ (v : List Int) (h : Int),Cg p (zi p z (List.zipWith (trF p r) (h :: v) (v ++ [0]))) (h + (z - r) * zi p z v)
 | [],h => by
  show Cg p ((trF p r h 0 + z * 0) % p) (h + (z - r) * 0)
  refine (Cg.emod p _).trans ?_
  have : Cg p (trF p r h 0) (h - r * 0):=Cg.emod p _
  exact (this.add (Cg.refl p (z * 0))).trans (Cg.of_eq (by grind))
 | c :: w,h => by
  show Cg p ((trF p r h c + z * zi p z (List.zipWith (trF p r) (c :: w) (w ++ [0]))) % p) (h + (z - r) * zi p z (c :: w))
  have ih:=zlk (p:=p) (r:=r) (z:=z) w c
  have h1 : Cg p (trF p r h c) (h - r * c):=Cg.emod p _
  refine (Cg.emod p _).trans ((h1.add ((Cg.refl p z).mul ih)).trans ?_)
  have h2 : Cg p (h + (z - r) * (c + z * zi p z w)) (h + (z - r) * zi p z (c :: w)):=(Cg.refl p h).add ((Cg.refl p _).mul (zL p z c w).symm)
  exact (Cg.of_eq (by grind)).trans h2
theorem zhb {p r z : Int} (v : List Int) : Cg p (zi p z (zb1 p r v)) ((z - r) * zi p z v):=(zlk v 0).trans (Cg.of_eq (by grind))
theorem zcY (p r : Int) (v : List Int) : (zb1 p r v).length = v.length + 1:=by simp [zb1]
theorem zdQ {α β γ : Type} {f : α → β → γ} : ∀ {as : List α} {bs : List β} {c : γ},c ∈ List.zipWith f as bs → ∃ a b,c = f a b
 | [],_,c,h => by simp at h
 | _ :: _,[],c,h => by simp at h
 | a :: as,b :: bs,c,h => by
  rcases List.mem_cons.mp h with e | e
  ·exact ⟨a,b,e⟩
  ·exact zdQ e
theorem zja {p r : Int} (hp : 0 < p) (v : List Int) : ∀ c ∈ zb1 p r v,0 ≤ c ∧ c < p:=by
 intro c hc
 obtain ⟨a,b,e⟩:=zdQ hc
 rw [e]; exact ⟨Int.emod_nonneg _ (by omega),Int.emod_lt_of_pos _ hp⟩
def ad (p f : Int) : List Int → List Int → List Int
 | c :: cs,v :: vs => (c + f * v) % p :: ad p f cs vs
 | cs,[] => cs
 | [],_ :: _ => []
theorem zeJ (p f : Int) : ∀ (cs vs : List Int),(ad p f cs vs).length = cs.length
 | _ :: cs,_ :: vs => by show (ad p f cs vs).length + 1 = _; rw [zeJ p f cs vs]; rfl
 | [],[] => rfl
 | _ :: _,[] => rfl
 | [],_ :: _ => rfl
theorem zjb {p f : Int} (hp : 0 < p) : ∀ (cs vs : List Int),(∀ c ∈ cs,0 ≤ c ∧ c < p) → ∀ c ∈ ad p f cs vs,0 ≤ c ∧ c < p
 | c :: cs,v :: vs,h,d,hd => by
  rcases List.mem_cons.mp hd with e | e
  ·rw [e]; exact ⟨Int.emod_nonneg _ (by omega),Int.emod_lt_of_pos _ hp⟩
  ·exact zjb hp cs vs (fun c hc => h c (List.mem_cons_of_mem _ hc)) d e
 | [],[],h,d,hd => h d hd
 | _ :: _,[],h,d,hd => h d hd
 | [],_ :: _,h,d,hd => by cases hd
theorem zhc {p f z : Int} : ∀ (cs vs : List Int),vs.length ≤ cs.length → Cg p (zi p z (ad p f cs vs)) (zi p z cs + f * zi p z vs)
 | c :: cs,v :: vs,h => by
  have ih:=zhc (p:=p) (f:=f) (z:=z) cs vs (by simpa using h)
  show Cg p (((c + f * v) % p + z * zi p z (ad p f cs vs)) % p) (zi p z (c :: cs) + f * zi p z (v :: vs))
  refine (Cg.emod p _).trans (((Cg.emod p (c + f * v)).add ((Cg.refl p z).mul ih)).trans ?_)
  have h2 : Cg p ((c + z * zi p z cs) + f * (v + z * zi p z vs)) (zi p z (c :: cs) + f * zi p z (v :: vs)):=(zL p z c cs).symm.add ((Cg.refl p f).mul (zL p z v vs).symm)
  exact (Cg.of_eq (by grind)).trans h2
 | [],[],_ => Cg.of_eq (by show (0 : Int) = 0 + f * 0; grind)
 | c :: cs,[],_ => Cg.of_eq (by show zi p z (c :: cs) = zi p z (c :: cs) + f * 0; grind)
 | [],_ :: _,h => by simp at h
def zb2 (p : Int) (s : List Int × List Int) (q : Int × Int) : List Int × List Int :=
 (ad p ((q.2 - zi p q.1 s.1) * inv p (zi p q.1 s.2) % p) s.1 s.2,zb1 p q.1 s.2)
def zmI (p : Int) (n : Nat) (pts : List (Int × Int)) : List Int × List Int:=pts.foldl (zb2 p) (List.replicate n 0,[1])
def thr (p : Int) (pts : List (Int × Int)) : List Int:=(zmI p pts.length pts).1
def zb3 (z : Int) : List (Int × Int) → Int
 | [] => 1
 | q :: r => (z - q.1) * zb3 z r
theorem zdR (z : Int) (q : Int × Int) : ∀ l,zb3 z (l ++ [q]) = zb3 z l * (z - q.1)
 | [] => by show (z - q.1) * 1 = 1 * (z - q.1); grind
 | a :: l => by show (z - a.1) * zb3 z (l ++ [q]) = (z - a.1) * zb3 z l * (z - q.1); rw [zdR z q l]; grind
theorem zdS {z : Int} : ∀ {l : List (Int × Int)},(∃ q ∈ l,q.1 = z) → zb3 z l = 0
 | [],h => by obtain ⟨q,hq,_⟩:=h; cases hq
 | a :: l,h => by
  show (z - a.1) * zb3 z l = 0
  obtain ⟨q,hq,e⟩:=h
  rcases List.mem_cons.mp hq with hq | hq
  ·subst hq; rw [e]; simp
  ·rw [zdS ⟨q,hq,e⟩]; simp
theorem zfR {p z : Int} (hp : p ∈ zm) (hz : 0 ≤ z) (hz' : z < p) : ∀ {l : List (Int × Int)},(∀ q ∈ l,0 ≤ q.1 ∧ q.1 < p ∧ q.1 ≠ z) → ¬ Cg p (zb3 z l) 0
 | [],_,h => by
  have hr:=zo hp
  have:=h.mod_eq
  have e1 : (zb3 z [] : Int) = 1:=rfl
  rw [e1,Int.emod_eq_of_lt (by omega) (by omega)] at this
  simp at this
 | a :: l,hl,h => by
  rcases zdg hp (show Cg p ((z - a.1) * zb3 z l) 0 from h) with h | h
  ·obtain ⟨h1,h2,h3⟩:=hl a List.mem_cons_self
   have : Cg p z a.1:=by
    have:=h.add (Cg.refl p a.1)
    exact (Cg.of_eq (by grind)).trans (this.trans (Cg.of_eq (by grind)))
   exact h3 (this.eq hz hz' h1 h2).symm
  ·exact zfR hp hz hz' (fun q hq => hl q (List.mem_cons_of_mem _ hq)) h
structure Nw (p : Int) (n : Nat) (done : List (Int × Int)) (s : List Int × List Int) : Prop where
 lc : s.1.length = n
 lv : s.2.length = done.length + 1
 rc : ∀ c ∈ s.1,0 ≤ c ∧ c < p
 rv : ∀ c ∈ s.2,0 ≤ c ∧ c < p
 van : ∀ z,Cg p (zi p z s.2) (zb3 z done)
 hit : ∀ q ∈ done,zi p q.1 s.1 = q.2
theorem zfS {p : Int} (hp : p ∈ zm) (n : Nat) : Nw p n [] (List.replicate n 0,[1]):=by
 have hr:=zo hp
 refine ⟨by simp,rfl,fun c hc => ?_,fun c hc => ?_,fun z => ?_,fun q hq => by cases hq⟩
 ·obtain ⟨_,e⟩:=List.mem_replicate.mp hc
  omega
 ·have : c = 1:=by simpa using hc
  omega
 ·show Cg p ((1 + z * 0) % p) 1
  exact (Cg.emod p _).trans (Cg.of_eq (by grind))
theorem zhd {p : Int} {n : Nat} {done : List (Int × Int)} {s : List Int × List Int} (hp : p ∈ zm) (h : Nw p n done s) {q : Int × Int} (q0 : 0 ≤ q.1) (q1 : q.1 < p) (hd : ∀ a ∈ done,0 ≤ a.1 ∧ a.1 < p ∧ a.1 ≠ q.1) :
  0 < zi p q.1 s.2 ∧ zi p q.1 s.2 < p:=by
 have hr:=zo hp
 refine ⟨?_,zaa (by omega) _⟩
 have h0:=z9 (x:=q.1) (show 0 < p by omega) s.2
 by_cases e : zi p q.1 s.2 = 0
 ·exact absurd ((h.van q.1).symm.trans (Cg.of_eq e)) (zfR hp q0 q1 hd)
 ·omega
theorem zid {p : Int} {n : Nat} {done : List (Int × Int)} {s : List Int × List Int} (hp : p ∈ zm) (h : Nw p n done s) {q : Int × Int} (q0 : 0 ≤ q.1) (q1 : q.1 < p) (hd : ∀ a ∈ done,0 ≤ a.1 ∧ a.1 < p ∧ a.1 ≠ q.1) :
  Cg p ((q.2 - zi p q.1 s.1) * inv p (zi p q.1 s.2) % p * zi p q.1 s.2) (q.2 - zi p q.1 s.1):=by
 obtain ⟨h0,h1⟩:=zhd hp h q0 q1 hd
 have hi:=zfa hp h0 h1
 refine ((Cg.emod p _).mul (Cg.refl p _)).trans ?_
 have:=(Cg.refl p (q.2 - zi p q.1 s.1)).mul hi
 exact (Cg.of_eq (by grind)).trans (this.trans (Cg.of_eq (by grind)))
theorem zhe {p : Int} {n : Nat} {done : List (Int × Int)} {s : List Int × List Int} (hp : p ∈ zm) (h : Nw p n done s) {q : Int × Int} (hn : done.length < n) (q0 : 0 ≤ q.1) (q1 : q.1 < p) (q2 : 0 ≤ q.2) (q3 : q.2 < p)
  (hd : ∀ a ∈ done,0 ≤ a.1 ∧ a.1 < p ∧ a.1 ≠ q.1 ∧ 0 ≤ a.2 ∧ a.2 < p) : Nw p n (done ++ [q]) (zb2 p s q):=by
 have hr:=zo hp
 have hd' : ∀ a ∈ done,0 ≤ a.1 ∧ a.1 < p ∧ a.1 ≠ q.1:=fun a ha => ⟨(hd a ha).1,(hd a ha).2.1,(hd a ha).2.2.1⟩
 have hlv:=h.lv
 have hlc:=h.lc
 have hle : s.2.length ≤ s.1.length:=by omega
 refine ⟨by show (ad _ _ _ _).length = n; rw [zeJ,h.lc],by show (zb1 _ _ _).length = _; rw [zcY,h.lv,List.length_append,List.length_singleton],zjb (by omega) _ _ h.rc,zja (by omega) _,fun z => ?_,fun a ha => ?_⟩
 ·rw [zdR]
  exact (zhb s.2).trans (((Cg.refl p _).mul (h.van z)).trans (Cg.of_eq (by grind)))
 ·have hv:=zhc (p:=p) (f:=(q.2 - zi p q.1 s.1) * inv p (zi p q.1 s.2) % p) (z:=a.1) s.1 s.2 hle; rcases List.mem_append.mp ha with ha | ha
  ·obtain ⟨b0,b1,b2,b3,b4⟩:=hd a ha
   have hz : Cg p (zi p a.1 s.2) 0:=(h.van a.1).trans (Cg.of_eq (zdS ⟨a,ha,rfl⟩))
   have h2 : Cg p (zi p a.1 (ad p ((q.2 - zi p q.1 s.1) * inv p (zi p q.1 s.2) % p) s.1 s.2)) (zi p a.1 s.1):=hv.trans (((Cg.refl p (zi p a.1 s.1)).add ((Cg.refl p _).mul hz)).trans (Cg.of_eq (by rw [Int.mul_zero,Int.add_zero])))
   rw [h.hit a ha] at h2
   exact h2.eq (z9 (by omega) _) (zaa (by omega) _) b3 b4
  ·have e : a = q:=by simpa using ha
   subst e
   have h2 : Cg p (zi p a.1 (ad p ((a.2 - zi p a.1 s.1) * inv p (zi p a.1 s.2) % p) s.1 s.2)) a.2:=hv.trans (((Cg.refl p (zi p a.1 s.1)).add (zid hp h q0 q1 hd')).trans (Cg.of_eq (by omega)))
   exact h2.eq (z9 (by omega) _) (zaa (by omega) _) q2 q3
structure Pts (p : Int) (pts : List (Int × Int)) : Prop where
 nd : (pts.map (·.1)).Nodup
 rg : ∀ q ∈ pts,0 ≤ q.1 ∧ q.1 < p ∧ 0 ≤ q.2 ∧ q.2 < p
theorem Pts.apart {p : Int} {done rest : List (Int × Int)} {q : Int × Int} (h : Pts p (done ++ q :: rest)) : ∀ a ∈ done,0 ≤ a.1 ∧ a.1 < p ∧ a.1 ≠ q.1 ∧ 0 ≤ a.2 ∧ a.2 < p:=fun a ha => by
 obtain ⟨r1,r2,r3,r4⟩:=h.rg a (List.mem_append_left _ ha)
 refine ⟨r1,r2,fun e => ?_,r3,r4⟩
 have nd:=h.nd
 rw [List.map_append,List.nodup_append] at nd
 exact nd.2.2 a.1 (List.mem_map.mpr ⟨a,ha,rfl⟩) q.1 (by simp) e
theorem zjc {p : Int} (hp : p ∈ zm) {n : Nat} : ∀ (rest done : List (Int × Int)) (s : List Int × List Int),Pts p (done ++ rest) → (done ++ rest).length = n → Nw p n done s → Nw p n (done ++ rest) (rest.foldl (zb2 p) s)
 | [],done,s,_,_,h => by rw [List.append_nil]; exact h
 | q :: rest,done,s,hP,hn,h => by
  have hn' : done.length < n:=by rw [← hn]; simp
  obtain ⟨a,b,c,d⟩:=hP.rg q (by simp)
  have hs:=zhe hp h (q:=q) hn' a b c d hP.apart
  have e : done ++ q :: rest = (done ++ [q]) ++ rest:=by simp
  rw [e] at hP hn ⊢
  exact zjc hp rest (done ++ [q]) _ hP hn hs
theorem zcZ {p : Int} (hp : p ∈ zm) {pts : List (Int × Int)} (hP : Pts p pts) : (thr p pts).length = pts.length ∧ (∀ c ∈ thr p pts,0 ≤ c ∧ c < p) ∧ ∀ q ∈ pts,zi p q.1 (thr p pts) = q.2:=by
 have h:=zjc hp (n:=pts.length) pts [] _ (by simpa using hP) (by simp) (zfS hp pts.length)
 exact ⟨h.lc,h.rc,h.hit⟩
end My
end
section
set_option maxHeartbeats 3999000
namespace My
open PySem L2 PyProof.Rows
section
variable {K : PySem.W.Frag}
theorem zjd {ns : List Int} {k : Int} (h0 : 0 ≤ k) (h1 : k < ns.length) : ∃ c : Int,ns[k.toNat]? = some c ∧ atI (ns.map V.int) k = some (.int c):=by
 have hlt : k.toNat < ns.length:=by omega
 have e : atI (ns.map V.int) ((k.toNat : Nat) : Int) = some (.int ns[k.toNat]):=zam (by simp [List.getElem?_map,List.getElem?_eq_getElem hlt])
 have hk : ((k.toNat : Nat) : Int) = k:=by omega
 rw [hk] at e
 exact ⟨ns[k.toNat],by simp,e⟩
theorem zcG {ns : List Int} {k : Int} (h0 : 0 ≤ k) (h1 : k < ns.length) : ∃ c : Int,atI (ns.map V.int) k = some (.int c):=let ⟨c,_,e⟩:=zjd h0 h1; ⟨c,e⟩
theorem zb {H : Hp} {a : Addr} {o : HO} (h : H a = none) : zy H (upd H a o):=fun b u e => by rw [zr (zF e h)]; exact e
theorem zW {H H' : Hp} {a : Addr} {o : HO} (s : zy H H') (h : H a = none) : zy H (upd H' a o):=fun b u e => by rw [zr (zF e h)]; exact s b u e
theorem zX {n : Nat} (h : n ≤ 10000) : n < sizeLine:=by rw [sizeLine_eq]; omega
def zie (K : PySem.W.Frag) : Sp:=fun vs H Q _ => ∃ (a : Addr) (ns : List Int) (k : Int),vs = [.ref a,.int k] ∧ SqL K H a (ns.map V.int) ∧ ns.length ≤ 63 ∧ 0 ≤ k ∧ k ≤ 1000 ∧ ∀ c : Int,Q (.int c) H
def zhf (many : Nat) (base : Int) (ds : List Int) : Prop:=ds.length = many ∧ ∀ d ∈ ds,0 ≤ d ∧ d < base
def zgF (K : PySem.W.Frag) : Sp:=fun vs H Q _ => ∃ (a : Addr) (ns : List Int) (k many base : Int),vs = [.ref a,.int k,.int many,.int base] ∧ SqL K H a (ns.map V.int) ∧ ns.length ≤ 63 ∧ 0 ≤ k ∧ k ≤ 1000 ∧ 0 ≤ many ∧ many ≤ 1000 ∧ 0 < base ∧ base < 1073741824 ∧
 ∀ (l : Addr) (ds : List Int) (H' : Hp),H l = none → zy H H' → zhf many.toNat base ds → H' l = some (.lst (ds.map V.int)) → Q (.ref l) H'
abbrev zkq : List V:=[.int 2147483647,.int 2147483629,.int 2147483587,.int 2147483579,.int 2147483563,.int 2147483549,.int 2147483543,.int 2147483497]
theorem zkr {m : Int} (h0 : 0 ≤ m) (h1 : m < 8) : ∃ q : Int,atI zkq m = some (.int q) ∧ 0 < q ∧ q < 2147483648:=by
 have : m = 0 ∨ m = 1 ∨ m = 2 ∨ m = 3 ∨ m = 4 ∨ m = 5 ∨ m = 6 ∨ m = 7:=by omega
 rcases this with e | e | e | e | e | e | e | e <;> subst e <;> exact ⟨_,rfl,by decide,by decide⟩
theorem zdT (j : Int) : ∃ q : Int,atI zkq (j % 8) = some (.int q) ∧ 0 < q ∧ q < 2147483648:=zkr (Int.emod_nonneg _ (by decide)) (Int.emod_lt_of_pos _ (by decide))
theorem gY {i : Nat} {x : V} {σ : L2.St} {H : Hp} {A B : L2.St → Hp → Prop} (h : A (σ.set i (some x)) H) : zaC i x σ H (fun σ2 H2 => zlM σ2 H2 fun b H3 => if b = true then A σ2 H3 else B σ2 H3):=by
 show (if true = true then A (σ.set i (some x)) H else B (σ.set i (some x)) H)
 rw [if_pos rfl]
 exact h
structure CodeOk (mk mn p k : Int) (pl : List Int) : Prop where
 pr : p ∈ zm
 k1 : 1 ≤ k
 kk : k ≤ mk
 kl : k ≤ pl.length
 ln : (pl.length : Int) ≤ mn
 nd : pl.Nodup
 rg : ∀ x ∈ pl,0 ≤ x ∧ x < p
def zif (K : PySem.W.Frag) : Sp:=fun vs H Q _ => ∃ (a : Addr) (ns : List Int) (at' mk mn : Int),vs = [.ref a,.int at',.int mk,.int mn] ∧ SqL K H a (ns.map V.int) ∧ ns.length ≤ 63 ∧ 0 ≤ at' ∧ at' ≤ 1000 ∧ 1 ≤ mk ∧ mk ≤ 5 ∧ mk ≤ mn ∧ mn ≤ 16 ∧
 ∀ (c tt : Addr) (p k : Int) (pl : List Int) (H' : Hp),H c = none → zy H H' → CodeOk mk mn p k pl → H' c = some (.tup [.int p,.int k,.ref tt]) → H' tt = some (.tup (pl.map V.int)) → Q (.ref c) H'
theorem zlS {x y m : Int} (h0 : 0 ≤ m) (h1 : m < 2) : ∃ z : Int,atI [V.int x,V.int y] m = some (.int z) ∧ (z = x ∨ z = y):=by
 have : m = 0 ∨ m = 1:=by omega
 rcases this with e | e <;> subst e
 ·exact ⟨x,rfl,.inl rfl⟩
 ·exact ⟨y,rfl,.inr rfl⟩
theorem zje {ns : List Int} {k : Int} (h0 : 0 ≤ k) (h1 : k < ns.length) : ∃ c : Int,c ∈ ns ∧ atI (ns.map V.int) k = some (.int c):=by
 obtain ⟨c,e,h⟩:=zjd h0 h1
 exact ⟨c,List.mem_of_getElem? e,h⟩
theorem zcb {α β : Type} (f : α → β) : ∀ (l : List α) (k : Nat),(l.map f).eraseIdx k = (l.eraseIdx k).map f
 | [],_ => rfl
 | _ :: _,0 => rfl
 | a :: l,k + 1 => by show f a :: (l.map f).eraseIdx k = f a :: (l.eraseIdx k).map f; rw [zcb f l k]
theorem zdU {α : Type} : ∀ {l : List α} {k : Nat} {x : α},l[k]? = some x → (x :: l.eraseIdx k).Perm l
 | [],_,_,h => by simp at h
 | a :: l,0,x,h => by
  have e : a = x:=by simpa using h
  subst e
  exact List.Perm.refl _
 | a :: l,k + 1,x,h => by
  have ih:=zdU (l:=l) (k:=k) (x:=x) (by simpa using h)
  exact (List.Perm.swap a x _).trans (ih.cons a)
theorem zkt {p : Int} {xs ls : List Int} {k : Nat} {x : Int} (h : ls[k]? = some x) (nd : (xs ++ ls).Nodup) (rg : ∀ y ∈ xs ++ ls,0 ≤ y ∧ y < p) : ((xs ++ [x]) ++ ls.eraseIdx k).Nodup ∧ ∀ y ∈ (xs ++ [x]) ++ ls.eraseIdx k,0 ≤ y ∧ y < p:=by
 have hp : ((xs ++ [x]) ++ ls.eraseIdx k).Perm (xs ++ ls):=by
  rw [List.append_assoc]
  exact (zdU h).append_left xs
 exact ⟨hp.nodup_iff.mpr nd,fun y hy => rg y (hp.mem_iff.mp hy)⟩
theorem zeK (p : Int) : (zaI 0 p.toNat).Nodup ∧ ∀ y ∈ zaI 0 p.toNat,0 ≤ y ∧ y < p:=by
 unfold zaI
 constructor
 ·rw [List.nodup_iff_pairwise_ne,List.pairwise_map]
  exact (List.nodup_iff_pairwise_ne.mp (List.nodup_range (n:=p.toNat))).imp fun {a b} hab => by omega
 ·intro y hy
  obtain ⟨i,hi,e⟩:=List.mem_map.mp hy
  have:=List.mem_range.mp hi
  omega
def zdh (K : PySem.W.Frag) : Sp:=fun vs H Q _ => ∃ (p x : Int) (a : Addr) (cs : List Int),vs = [.int p,.ref a,.int x] ∧ (SqL K H a (cs.map V.int) ∨ SqT K H a (cs.map V.int)) ∧ 0 < p ∧ p ≤ 97 ∧ 0 ≤ x ∧ x < p ∧ Q (.int (zi p x cs)) H
def zgG (K : PySem.W.Frag) : Sp:=zdh K
theorem zeL {cs : List Int} {i : Nat} {c : Int} (hi : i < cs.length) (h : cs[cs.length - 1 - i]? = some c) : cs.drop (cs.length - (i + 1)) = c :: cs.drop (cs.length - i):=by
 have e : cs.length - (i + 1) = cs.length - 1 - i:=by omega
 have hlt : cs.length - 1 - i < cs.length:=by omega
 rw [e,List.drop_eq_getElem_cons hlt]
 have : cs[cs.length - 1 - i] = c:=by
  rw [List.getElem?_eq_getElem hlt] at h
  exact Option.some.inj h
 rw [this]
 congr 2
 omega
theorem zae {cs : List Int} {j : Nat} {x : V} (h : (cs.map V.int)[j]? = some x) : ∃ c,x = .int c ∧ cs[j]? = some c:=by
 rw [List.getElem?_map] at h
 cases e : cs[j]? with
 | none => rw [e] at h; cases h
 | some c => rw [e] at h; exact ⟨c,(Option.some.inj h).symm,rfl⟩
theorem zhg {p x total power c : Int} {cs : List Int} {i : Nat} (h : cs[i]? = some c) : lv p x total power (cs.drop i) = lv p x ((total + c * power) % p) (power * x % p) (cs.drop (i + 1)):=by
 obtain ⟨hlt,e⟩:=List.getElem?_eq_some_iff.mp h
 rw [List.drop_eq_getElem_cons hlt,e]
 rfl
def zgH (K : PySem.W.Frag) : Sp:=fun vs H Q _ => ∃ (p h : Int),vs = [.int p,.int h] ∧ p ∈ zm ∧ 0 ≤ h ∧ h < p ∧ Q (.int (inv p h)) H
def zlT (σ : L2.St) : Nat:=match (σ[4]? : Option (Option V)) with
 | some (some (V.int l)) => l.toNat
 | _ => 0
theorem zfb {p prod sq left : Int} {n : Nat} (h0 : 0 < left) (h1 : left < 2 ^ (n + 1)) : zca p (n + 1) prod sq left = zca p n (if left % 2 = 1 then prod * sq % p else prod) (sq * sq % p) (left / 2):=by
 show (if 0 < left then _ else _) = _
 rw [if_pos h0]
theorem zfT {p prod sq : Int} : ∀ n,zca p n prod sq 0 = prod
 | 0 => rfl
 | n + 1 => by show (if (0 : Int) < 0 then _ else prod) = prod; rw [if_neg (by decide)]
theorem gY2 {K : PySem.W.Frag} {i j : Nat} {T : Addr} {x y : V} {σ : L2.St} {H : Hp} {A B : L2.St → Hp → Prop} (hT : SqT K H T [x,y]) (h : A ((σ.set i (some x)).set j (some y)) H) :
  zgu K 2 (zcn (zaC i) (zcn (zaC j) zh0)) (.ref T) σ H (fun σ2 H2 => zlM σ2 H2 fun b H3 => if b = true then A σ2 H3 else B σ2 H3):=by
 refine ⟨T,_,rfl,hT,rfl,x,_,rfl,y,_,rfl,rfl,?_⟩
 show (if true = true then A ((σ.set i (some x)).set j (some y)) H else B ((σ.set i (some x)).set j (some y)) H)
 rw [if_pos rfl]
 exact h
theorem zfU {f : Int → Int → Int} {as bs : List Int} {i : Nat} {x y : Int} (hx : as[i]? = some x) (hy : bs[i]? = some y) : (List.zipWith f as bs).take (i + 1) = (List.zipWith f as bs).take i ++ [f x y]:=by
 have e : (List.zipWith f as bs)[i]? = some (f x y):=by rw [List.getElem?_zipWith,hx,hy]
 rw [List.take_add_one,e,Option.toList]
def zeo (K : PySem.W.Frag) : Sp:=fun vs H Q _ => ∃ (p r : Int) (a : Addr) (cs : List Int),vs = [.int p,.ref a,.int r] ∧ H a = some (.lst (cs.map V.int)) ∧ cs.length ≤ 1000 ∧ 0 < p ∧ 0 ≤ r ∧ r ≤ 97 ∧
 ∀ (l : Addr) (H' : Hp),H l = none → zy H H' → H' l = some (.lst ((zb1 p r cs).map V.int)) → Q (.ref l) H'
def zjf (K : PySem.W.Frag) (H : Hp) (a : Addr) (pts : List (Int × Int)) : Prop:=∃ bs : List Addr,SqL K H a (bs.map V.ref) ∧ bs.length = pts.length ∧ ∀ (i : Nat) (b : Addr) (q : Int × Int),bs[i]? = some b → pts[i]? = some q → H b = some (.tup [.int q.1,.int q.2])
theorem zb4 (n : Nat) : (List.replicate n [V.int 0]).flatten = (List.replicate n (0 : Int)).map V.int:=by
 induction n with
 | zero => rfl
 | succ n ih => rw [List.replicate_succ,List.flatten_cons,ih,List.replicate_succ]; rfl
theorem zdq {n j : Nat} (h : j < n) : ixN n (j : Int) = some j:=by
 unfold ixN
 rw [if_pos (by omega),if_pos (by omega)]
 rfl
theorem zan {bs : List Addr} {i : Nat} {x : V} (h : (bs.map V.ref)[i]? = some x) : ∃ b,x = .ref b ∧ bs[i]? = some b:=by
 rw [List.getElem?_map] at h
 cases e : bs[i]? with
 | none => rw [e] at h; cases h
 | some b => rw [e] at h; exact ⟨b,(Option.some.inj h).symm,rfl⟩
theorem take_snoc {α : Type} {l : List α} {i : Nat} {x : α} (h : l[i]? = some x) : l.take (i + 1) = l.take i ++ [x]:=by
 rw [List.take_add_one,h,Option.toList]
theorem zct {α : Type} {l : List α} {i : Nat} {x : α} (h : l[i]? = some x) : l = l.take i ++ x :: l.drop (i + 1):=by
 obtain ⟨hi,e⟩:=List.getElem?_eq_some_iff.mp h; have:=List.take_append_drop i l
 rw [List.drop_eq_getElem_cons hi,e] at this
 exact this.symm
theorem zjg {f : Int → Int → Int} {as bs : List Int} {n : Nat} (h1 : n ≤ as.length) (h2 : n ≤ bs.length) (h3 : as.length ≤ n ∨ bs.length ≤ n) : (List.zipWith f as bs).length = n:=by
 rw [List.length_zipWith]
 omega
theorem zeM {a b : Addr} {as bs : List Int} {n : Nat} {f : Int → Int → Int} {g : TG} {ts : TT} {te : TE} {σ0 : L2.St} {Q : VK} {H : Hp} (ha : H a = some (.lst (as.map V.int))) (hb : H b = some (.lst (bs.map V.int))) (h1 : n ≤ as.length) (h2 : n ≤ bs.length) (h3 : as.length ≤ n ∨ bs.length ≤ n) (hn : n ≤ 10000)
  (hs : ∀ (i : Nat) (x y : Int) (H1 : Hp) (T : Addr) (R : VK) (B : L2.St → Hp → Prop),as[i]? = some x → bs[i]? = some y → zy H H1 → H1 T = none → R (.int (f x y)) (upd H1 T (.tup [.int x,.int y])) → g (.ref T) σ0 (upd H1 T (.tup [.int x,.int y])) fun σ2 H2 => ts σ2 H2 fun b H3 => if b = true then te σ2 H3 R else B σ2 H3)
  (hd : ∀ D H1,zy H H1 → H1 D = none → Q (.ref D) (upd H1 D (.lst ((List.zipWith f as bs).map V.int)))) : cGo g ts te σ0 (zh8 (SqL K) (SqL K) a b) Q H:=by
 have hl:=zjg (f:=f) h1 h2 h3
 refine z8 (n:=n) (fun i ys H' => ys = ((List.zipWith f as bs).take i).map V.int ∧ zy H H') ⟨by simp,fun _ _ e => e⟩ ?_ ?_ ?_ ?_
 ·rintro i ys H3 hi ⟨_,s3⟩
  obtain ⟨x,hx⟩ : ∃ x,as[i]? = some x:=⟨as[i]'(by omega),by simp⟩
  obtain ⟨y,hy⟩ : ∃ y,bs[i]? = some y:=⟨bs[i]'(by omega),by simp⟩
  exact ⟨_,_,.int x,.int y,SqL.of (s3 _ _ ha),SqL.of (s3 _ _ hb),by rw [List.getElem?_map,hx]; rfl,by rw [List.getElem?_map,hy]; rfl⟩
 ·rintro ys H3 ⟨_,s3⟩
  exact ⟨_,_,SqL.of (s3 _ _ ha),SqL.of (s3 _ _ hb),by rw [List.length_map,List.length_map]; exact h3⟩
 ·rintro i x ys H3 H4 hi ⟨rfl,s3⟩ ⟨T,u,v,hT,rfl,rfl,hu,hv⟩
  obtain ⟨x,rfl,hx⟩:=zae (hu _ (SqL.of (s3 _ _ ha)))
  obtain ⟨y,rfl,hy⟩:=zae (hv _ (SqL.of (s3 _ _ hb)))
  refine hs i x y H3 T _ _ hx hy s3 hT ⟨zX ?_,?_,s3.trans (zb hT)⟩
  ·rw [List.length_map]
   exact Nat.le_trans (List.length_take_le _ _) (by omega)
  ·rw [zfU hx hy,List.map_append]
   rfl
 ·rintro ys H3 D ⟨rfl,s3⟩ hD
  rw [List.take_of_length_le (by omega)]
  exact hd D H3 s3 hD
theorem zeN {a : Addr} {xs fs : List V} {g : TG} {ts : TT} {te : TE} {σ0 : L2.St} {Q : VK} {H : Hp} (ha : SqL K H a xs) (hl : fs.length = xs.length) (hn : xs.length ≤ 10000)
  (hs : ∀ (i : Nat) (x y : V) (R : VK) (B : L2.St → Hp → Prop),xs[i]? = some x → fs[i]? = some y → R y H → g x σ0 H fun σ2 H2 => ts σ2 H2 fun b H3 => if b = true then te σ2 H3 R else B σ2 H3)
  (hd : ∀ D,H D = none → Q (.ref D) (upd H D (.lst fs))) : cGo g ts te σ0 (Itl K a) Q H:=by
 refine z8 (n:=xs.length) (fun i ys H' => ys = fs.take i ∧ H' = H) ⟨by simp,rfl⟩ ?_ ?_ ?_ ?_
 ·rintro i ys H3 hi ⟨_,rfl⟩
  exact ⟨_,xs[i],ha,by simp⟩
 ·rintro ys H3 ⟨_,rfl⟩
  exact ⟨_,ha,Nat.le_refl _⟩
 ·rintro i x ys H3 H4 hi ⟨rfl,rfl⟩ ⟨rfl,hx⟩
  have hy : fs[i]? = some fs[i]:=by simp
  refine hs i x fs[i] _ _ (hx _ ha) hy ⟨zX (Nat.le_trans (List.length_take_le _ _) (by omega)),?_,rfl⟩
  rw [take_snoc hy]
 ·rintro ys H3 D ⟨rfl,rfl⟩ hD
  rw [List.take_of_length_le (by omega)]
  exact hd D hD
theorem zfV (ds : List Int) (lo hi : Option Int) : ∃ ms : List Int,za2 (ds.map V.int) lo hi = ms.map V.int ∧ ms.length ≤ ds.length:=by
 refine ⟨(ds.drop (HT.sIx (ds.map V.int).length 0 lo)).take (HT.sIx (ds.map V.int).length (ds.map V.int).length hi - HT.sIx (ds.map V.int).length 0 lo),?_,?_⟩
 ·unfold za2; rw [List.map_take,List.map_drop]
 ·rw [List.length_take,List.length_drop]
  omega
theorem zfW {ms : List Int} {f : Int → V} {i : Nat} {x y : V} (hx : (ms.map V.int)[i]? = some x) (hy : (ms.map f)[i]? = some y) : ∃ c,ms[i]? = some c ∧ x = .int c ∧ y = f c:=by
 obtain ⟨c,rfl,hc⟩:=zae hx
 rw [List.getElem?_map,hc] at hy
 exact ⟨c,hc,rfl,(Option.some.inj hy).symm⟩
def zfc (K : PySem.W.Frag) : Sp:=fun vs H Q _ => ∃ (a : Addr) (ns : List Int),vs = [.ref a] ∧ SqL K H a (ns.map V.int) ∧ ns.length ≤ 63 ∧ ∀ H',Q (.bl true) H'
end
end My
end
section
set_option maxHeartbeats 3999000
namespace PySem
abbrev IsZ (h : Heap) (z TI TO : Addr) (f0 f1 : Value) : Prop:=h.get? z = some { cls:=.type "zip",dict:=none,data:=.fields #[f0,f1,.bool false,.ref TI,.ref TO],slots:=#[] }
def ZF (f0 f1 : Value) : Prop:=(f0 = .none ∨ ∃ a t,f0 = .int a t) ∧ ∃ b,f1 = .bool b
structure Zap (z TI TO i1 i2 : Addr) (fp1 fp2 : List Addr) : Prop where
 zTI : TI ≠ z
 zTO : TO ≠ z
 z1 : i1 ≠ z
 z2 : i2 ≠ z
 TT : TI ≠ TO
 T1 : TI ≠ i1
 T2 : TI ≠ i2
 O1 : TO ≠ i1
 O2 : TO ≠ i2
 ii : i1 ≠ i2
 a1 : z ∉ fp1
 a2 : TO ∉ fp1
 a3 : i2 ∉ fp1
 b1 : z ∉ fp2
 b2 : TO ∉ fp2
 b3 : i1 ∉ fp2
section
variable {prog : Program} {w : World} {A : Around} {E : Value → Shared → Prop} {s : Shared}
theorem zig {a : Addr} {Q : Option Obj → Shared → Prop} (h : Q (s.heap.get? a) s) : wpAny (model prog w) A (loadIfAlive a) Q E s:=fun _ _ _ => h
theorem zjh {z TI TO : Addr} {f0 f1 : Value} {Q : Bool → Shared → Prop} (hz : IsZ s.heap z TI TO f0 f1) (hf : ZF f0 f1) (h1 : Q true s)
  (h2 : ∀ h',IsZ h' z TI TO f0 (.bool true) → Heap.SameBut z s.heap h' → Q false { s with heap:=h' }) : wpAny (model prog w) A (Builtin.SmallTypes.ownedTupleIsFree (.ref z)) Q E s:=by
 obtain ⟨hf,b,rfl⟩:=hf
 unfold Builtin.SmallTypes.ownedTupleIsFree; rcases hf with rfl | ⟨a,t,rfl⟩
 ·exact wpAny_bind (wpAny_field hz rfl (x:=.none) rfl (wpAny_pure h1))
 ·refine wpAny_bind (wpAny_field hz rfl (x:=.int a t) rfl ?_)
  refine wpAny_bind (zig ?_)
  cases s.heap.get? a.toNat with
  | none => exact wpAny_pure h1
  | some o =>
   refine wpAny_bind (wpAny_field hz rfl (x:=.bool b) rfl ?_)
   cases b with
   | true => exact wpAny_pure (h2 s.heap hz ⟨rfl,fun _ _ => rfl⟩)
   | false => exact wpAny_bind (wpAny_setField_rec hz (by simp) fun h' a' b' => wpAny_pure (h2 h' a' b'))
theorem zhh {z TI TO i1 i2 : Addr} {fp1 fp2 : List Addr} {n1 n2 k1 k2 : Nat} {P1 P2 : Nat → Value → Prop} {S1 S2 : Nat → Heap → Prop} {f0 f1 a b : Value} {Q : Value → Shared → Prop} (D1 : Draws prog w A i1 fp1 n1 P1 S1) (D2 : Draws prog w A i2 fp2 n2 P2 S2) (Z : Zap z TI TO i1 i2 fp1 fp2)
  (hz : IsZ s.heap z TI TO f0 f1) (hf : ZF f0 f1) (hTI : IsPair s.heap TI (.ref i1) (.ref i2)) (hTO : IsPair s.heap TO a b) (st1 : S1 k1 s.heap) (st2 : S2 k2 s.heap) (l1 : k1 < n1) (l2 : k2 < n2)
  (hQ : ∀ x y h' tk g0 g1 a' b',P1 k1 x → P2 k2 y → IsZ h' z TI TO g0 g1 → ZF g0 g1 → IsPair h' TI (.ref i1) (.ref i2) → IsPair h' TO a' b' → S1 (k1 + 1) h' → S2 (k2 + 1) h' → IsPair h' s.heap.objs.size x y → h'.objs.size = s.heap.objs.size + 1 →
   (∀ c o,c ≠ z → c ≠ TO → c ≠ i1 → c ≠ i2 → s.heap.get? c = some o → h'.get? c = some o) → Q (.ref s.heap.objs.size) { s with heap:=h',toks:=tk }) : wpAny (model prog w) A (Builtin.«zip.__next__» ⟨[.ref z],[]⟩) (fun fin s' => ∃ v,fin = .done (.ret v) ∧ Q v s') E s:=by
 obtain ⟨hp,g,d,tk0,os⟩:=s
 show wpAny _ _ (field (.ref z) 2 >>= _) _ _ _; refine wpAny_bind (wpAny_field hz rfl (x:=.bool false) rfl ?_); show wpAny _ _ (field (.ref z) 3 >>= _) _ _ _
 refine wpAny_bind (wpAny_field hz rfl (x:=.ref TI) rfl ?_); refine wpAny_bind (wpAny_seqItems hTI rfl ?_)
 show wpAny _ _ (Builtin.SmallTypes.ownedTupleIsFree (.ref z) >>= _) _ _ _; refine wpAny_bind (zjh hz hf ?_ fun h0 hz0 hs0 => ?_)
 ·simp only [if_true]
  refine wpAny_bind (wpAny_rule (wpAny_bind (wpAny_field hz rfl (x:=.ref TO) rfl ?_)))
  refine wpAny_bind (wpAny_setField_rec hz (by simp) fun ha hza hsa => ?_)
  replace hza : IsZ ha z TI TO .ellipsis f1:=hza
  replace hsa : Heap.SameBut z hp ha:=hsa
  refine wpAny_bind ?_
  simp only [List.zipIdx_cons,List.zipIdx_nil,List.forIn_cons,List.forIn_nil]; refine wpAny_bind (wpAny_bind (wpAny_onRaise ?_)); show wpAny _ _ (Builtin.SmallTypes.nextOf (.ref i1) >>= _) _ _ _
  refine wpAny_bind (D1.item k1 _ _ _ l1 (D1.frame _ _ _ st1 fun c hc o e => hsa.extBut c o (fun q => Z.a1 (q ▸ hc)) e) fun x hb tkb px stb hsb => wpAny_pure ?_)
  replace hsb : Heap.SameBut i1 ha hb:=hsb
  have hTOb : IsPair hb TO a b:=hsb.extBut _ _ Z.O1 (hsa.extBut _ _ Z.zTO hTO)
  refine wpAny_bind (wpAny_seqItems hTOb rfl (wpAny_bind (wpAny_updateSeq_pair hTOb fun hc hTOc hsc => ?_)))
  replace hTOc : IsPair hc TO x b:=hTOc
  replace hsc : Heap.SameBut TO hb hc:=hsc
  refine wpAny_bind (wpAny_letGo (wpAny_pure (wpAny_bind (wpAny_bind (wpAny_onRaise ?_))))); show wpAny _ _ (Builtin.SmallTypes.nextOf (.ref i2) >>= _) _ _ _
  refine wpAny_bind (D2.item k2 _ _ _ l2 (D2.frame _ _ _ st2 fun c hcf o e => hsc.extBut c o (fun q => Z.b2 (q ▸ hcf)) (hsb.extBut c o (fun q => Z.b3 (q ▸ hcf)) (hsa.extBut c o (fun q => Z.b1 (q ▸ hcf)) e))) fun y hd tkd py std hsd => wpAny_pure ?_)
  replace hsd : Heap.SameBut i2 hc hd:=hsd
  have hTOd : IsPair hd TO x b:=hsd.extBut _ _ Z.O2 hTOc
  refine wpAny_bind (wpAny_seqItems hTOd rfl (wpAny_bind (wpAny_updateSeq_pair hTOd fun he hTOe hse => ?_)))
  replace hTOe : IsPair he TO x y:=hTOe
  replace hse : Heap.SameBut TO hd he:=hse
  refine wpAny_bind (wpAny_letGo (wpAny_pure (wpAny_pure ?_))); refine wpAny_bind (wpAny_seqItems hTOe rfl (wpAny_bind (wpAny_newTuple ?_)))
  have hsz : he.objs.size = hp.objs.size:=by rw [hse.1,hsd.1,hsc.1,hsb.1,hsa.1]
  have hze : IsZ he z TI TO .ellipsis f1:=hse.extBut _ _ Z.zTO.symm (hsd.extBut _ _ Z.z2.symm (hsc.extBut _ _ Z.zTO.symm (hsb.extBut _ _ Z.z1.symm hza)))
  have kk : ∀ c o,c ≠ z → c ≠ TO → c ≠ i1 → c ≠ i2 → hp.get? c = some o → he.get? c = some o:=fun c o c1 c2 c3 c4 e => hse.extBut _ _ c2 (hsd.extBut _ _ c4 (hsc.extBut _ _ c2 (hsb.extBut _ _ c3 (hsa.extBut _ _ c1 e))))
  have st1e : S1 (k1 + 1) he:=D1.frame _ _ _ stb fun c hcf o e => hse.extBut c o (fun q => Z.a2 (q ▸ hcf)) (hsd.extBut c o (fun q => Z.a3 (q ▸ hcf)) (hsc.extBut c o (fun q => Z.a2 (q ▸ hcf)) e))
  have st2e : S2 (k2 + 1) he:=D2.frame _ _ _ std fun c hcf o e => hse.extBut c o (fun q => Z.b2 (q ▸ hcf)) e
  have zlt : z < he.objs.size:=Heap.lt_size hze
  show wpAny _ _ (Builtin.SmallTypes.ownedTupleHandOut (.ref z) (.ref he.objs.size) >>= _) _ _ _
  refine wpAny_bind ?_
  unfold Builtin.SmallTypes.ownedTupleHandOut; have hzf : IsZ (he.push { cls:=.type "tuple",data:=.seq #[x,y] }) z TI TO .ellipsis f1:=Heap.get?_push_of_some _ hze
  refine wpAny_bind (wpAny_setField_rec hzf (by simp) fun h7 hz7 hs7 => ?_)
  replace hz7 : IsZ h7 z TI TO (rawInt he.objs.size) f1:=hz7
  refine wpAny_setField_rec hz7 (by simp) fun h8 hz8 hs8 => wpAny_pure ⟨_,rfl,?_⟩
  replace hz8 : IsZ h8 z TI TO (rawInt he.objs.size) (.bool false):=hz8
  have up : ∀ c o,c ≠ z → he.get? c = some o → h8.get? c = some o:=fun c o c1 e => hs8.extBut _ _ c1 (hs7.extBut _ _ c1 (Heap.get?_push_of_some _ e))
  have hT8 : IsPair h8 he.objs.size x y:=hs8.extBut _ _ (Nat.ne_of_gt zlt) (hs7.extBut _ _ (Nat.ne_of_gt zlt) (Heap.get?_push_size _ rfl))
  have hs8' : h8.objs.size = he.objs.size + 1:=by rw [hs8.1,hs7.1,Heap.size_push]
  show Q (.ref he.objs.size) _
  rw [hsz] at hz8 hT8 hs8' ⊢
  exact hQ x y h8 tkd _ _ _ _ px py hz8 ⟨.inr ⟨_,_,rfl⟩,_,rfl⟩ (up _ _ Z.zTI (kk _ _ Z.zTI Z.TT Z.T1 Z.T2 hTI)) (up _ _ Z.zTO hTOe) (D1.frame _ _ _ st1e fun c hcf o e => up c o (fun q => Z.a1 (q ▸ hcf)) e) (D2.frame _ _ _ st2e fun c hcf o e => up c o (fun q => Z.b1 (q ▸ hcf)) e) hT8 hs8' fun c o c1 c2 c3 c4 e => up c o c1 (kk c o c1 c2 c3 c4 e)
 ·simp only [Bool.false_eq_true,if_false]; replace hs0 : Heap.SameBut z hp h0:=hs0
  rw [show (#[Value.ref i1,Value.ref i2] : Array Value) = [Value.ref i1,Value.ref i2].toArray from rfl]
  simp only [List.forIn_toArray,List.forIn_cons,List.forIn_nil]
  refine wpAny_bind (wpAny_bind (wpAny_bind (wpAny_holding ?_))); show wpAny _ _ (Builtin.SmallTypes.nextOf (.ref i1) >>= _) _ _ _
  refine wpAny_bind (D1.item k1 _ _ _ l1 (D1.frame _ _ _ st1 fun c hc o e => hs0.extBut c o (fun q => Z.a1 (q ▸ hc)) e) fun x hb tkb px stb hsb => wpAny_pure (wpAny_pure ?_))
  replace hsb : Heap.SameBut i1 h0 hb:=hsb
  refine wpAny_bind (wpAny_bind (wpAny_holding ?_)); show wpAny _ _ (Builtin.SmallTypes.nextOf (.ref i2) >>= _) _ _ _
  refine wpAny_bind (D2.item k2 _ _ _ l2 (D2.frame _ _ _ st2 fun c hcf o e => hsb.extBut c o (fun q => Z.b3 (q ▸ hcf)) (hs0.extBut c o (fun q => Z.b1 (q ▸ hcf)) e)) fun y hd tkd py std hsd => wpAny_pure (wpAny_pure (wpAny_pure ?_)))
  replace hsd : Heap.SameBut i2 hb hd:=hsd
  show wpAny _ _ (newTuple [x,y] >>= _) _ _ _
  refine wpAny_bind (wpAny_newTuple (wpAny_pure ⟨_,rfl,?_⟩))
  have hsz : hd.objs.size = hp.objs.size:=by rw [hsd.1,hsb.1,hs0.1]
  have kk : ∀ c o,c ≠ z → c ≠ TO → c ≠ i1 → c ≠ i2 → hp.get? c = some o → hd.get? c = some o:=fun c o c1 c2 c3 c4 e => hsd.extBut _ _ c4 (hsb.extBut _ _ c3 (hs0.extBut _ _ c1 e))
  have hzd : IsZ hd z TI TO f0 (.bool true):=hsd.extBut _ _ Z.z2.symm (hsb.extBut _ _ Z.z1.symm hz0)
  have hTOd : IsPair hd TO a b:=hsd.extBut _ _ Z.O2 (hsb.extBut _ _ Z.O1 (hs0.extBut _ _ Z.zTO hTO))
  have st1d : S1 (k1 + 1) hd:=D1.frame _ _ _ stb fun c hcf o e => hsd.extBut c o (fun q => Z.a3 (q ▸ hcf)) e
  have up : ∀ c o,hd.get? c = some o → (hd.push { cls:=.type "tuple",data:=.seq #[x,y] }).get? c = some o:=fun c o e => Heap.get?_push_of_some _ e
  have hT8 : IsPair (hd.push { cls:=.type "tuple",data:=.seq #[x,y] }) hd.objs.size x y:=Heap.get?_push_size _ rfl
  have hs8' : (hd.push { cls:=.type "tuple",data:=.seq #[x,y] }).objs.size = hd.objs.size + 1:=Heap.size_push ..
  show Q (.ref hd.objs.size) _
  rw [hsz] at hT8 hs8' ⊢
  exact hQ x y _ tkd _ _ _ _ px py (up _ _ hzd) ⟨hf.1,_,rfl⟩ (up _ _ (kk _ _ Z.zTI Z.TT Z.T1 Z.T2 hTI)) (up _ _ hTOd) (D1.frame _ _ _ st1d fun c _ o e => up c o e) (D2.frame _ _ _ std fun c _ o e => up c o e) hT8 hs8' fun c o c1 c2 c3 c4 e => up c o (kk c o c1 c2 c3 c4 e)
theorem zji {z TI TO i1 i2 : Addr} {fp1 fp2 : List Addr} {n1 n2 k1 k2 : Nat} {P1 P2 : Nat → Value → Prop} {S1 S2 : Nat → Heap → Prop} {f0 f1 a b : Value} {Q : Fin → Shared → Prop} (D1 : Draws prog w A i1 fp1 n1 P1 S1) (D2 : Draws prog w A i2 fp2 n2 P2 S2) (Z : Zap z TI TO i1 i2 fp1 fp2)
  (hz : IsZ s.heap z TI TO f0 f1) (hf : ZF f0 f1) (hTI : IsPair s.heap TI (.ref i1) (.ref i2)) (hTO : IsPair s.heap TO a b) (st1 : S1 k1 s.heap) (st2 : S2 k2 s.heap) (l1 : k1 = n1 ∨ (k1 < n1 ∧ k2 = n2))
  (hE : ∀ h' tk e,(∀ c o,c ≠ z → c ≠ TO → c ≠ i1 → c ≠ i2 → s.heap.get? c = some o → h'.get? c = some o) → (∃ o,h'.get? e = some o ∧ o.cls = .type "StopIteration") → E (.ref e) { s with heap:=h',toks:=tk }) : wpAny (model prog w) A (Builtin.«zip.__next__» ⟨[.ref z],[]⟩) Q E s:=by
 obtain ⟨hp,g,d,tk0,os⟩:=s
 have nz : ∀ {h : Heap} {e : Addr} {o : Obj} {x y : Value},IsZ h z TI TO x y → h.get? e = some o → o.cls = .type "StopIteration" → e ≠ z:=fun h1 h2 h3 q => by subst q; rw [h1] at h2; cases h2; simp at h3
 show wpAny _ _ (field (.ref z) 2 >>= _) _ _ _; refine wpAny_bind (wpAny_field hz rfl (x:=.bool false) rfl ?_); show wpAny _ _ (field (.ref z) 3 >>= _) _ _ _
 refine wpAny_bind (wpAny_field hz rfl (x:=.ref TI) rfl ?_); refine wpAny_bind (wpAny_seqItems hTI rfl ?_)
 show wpAny _ _ (Builtin.SmallTypes.ownedTupleIsFree (.ref z) >>= _) _ _ _; refine wpAny_bind (zjh hz hf ?_ fun h0 hz0 hs0 => ?_)
 ·simp only [if_true]
  refine wpAny_bind (wpAny_rule (wpAny_bind (wpAny_field hz rfl (x:=.ref TO) rfl ?_)))
  refine wpAny_bind (wpAny_setField_rec hz (by simp) fun ha hza hsa => ?_)
  replace hza : IsZ ha z TI TO .ellipsis f1:=hza
  replace hsa : Heap.SameBut z hp ha:=hsa
  refine wpAny_bind ?_
  simp only [List.zipIdx_cons,List.zipIdx_nil,List.forIn_cons,List.forIn_nil]; refine wpAny_bind (wpAny_bind (wpAny_onRaise ?_)); show wpAny _ _ (Builtin.SmallTypes.nextOf (.ref i1) >>= _) _ _ _
  have st1a : S1 k1 ha:=D1.frame _ _ _ st1 fun c hc o e => hsa.extBut c o (fun q => Z.a1 (q ▸ hc)) e
  rcases l1 with rfl | ⟨l1,rfl⟩
  ·refine wpAny_bind (D1.done _ _ _ st1a fun hb e hsb ⟨oe,hoe,hce⟩ => ?_)
   have hzb : IsZ hb z TI TO .ellipsis f1:=hsb _ _ Z.z1.symm hza
   exact wpAny_setField_rec hzb (by simp) fun h3 _ hs3 => hE h3 tk0 e (fun c o c1 _ c3 _ x => hs3.extBut _ _ c1 (hsb _ _ c3 (hsa.extBut _ _ c1 x))) ⟨oe,hs3.extBut _ _ (nz hzb hoe hce) hoe,hce⟩
  ·refine wpAny_bind (D1.item k1 _ _ _ l1 st1a fun x hb tkb px stb hsb => wpAny_pure ?_)
   replace hsb : Heap.SameBut i1 ha hb:=hsb
   have hTOb : IsPair hb TO a b:=hsb.extBut _ _ Z.O1 (hsa.extBut _ _ Z.zTO hTO)
   refine wpAny_bind (wpAny_seqItems hTOb rfl (wpAny_bind (wpAny_updateSeq_pair hTOb fun hc hTOc hsc => ?_)))
   replace hsc : Heap.SameBut TO hb hc:=hsc
   refine wpAny_bind (wpAny_letGo (wpAny_pure (wpAny_bind (wpAny_bind (wpAny_onRaise ?_))))); show wpAny _ _ (Builtin.SmallTypes.nextOf (.ref i2) >>= _) _ _ _
   refine wpAny_bind (D2.done _ _ _ (D2.frame _ _ _ st2 fun c hcf o e => hsc.extBut c o (fun q => Z.b2 (q ▸ hcf)) (hsb.extBut c o (fun q => Z.b3 (q ▸ hcf)) (hsa.extBut c o (fun q => Z.b1 (q ▸ hcf)) e))) fun hd e hsd ⟨oe,hoe,hce⟩ => ?_)
   have hzd : IsZ hd z TI TO .ellipsis f1:=hsd _ _ Z.z2.symm (hsc.extBut _ _ Z.zTO.symm (hsb.extBut _ _ Z.z1.symm hza))
   exact wpAny_setField_rec hzd (by simp) fun h3 _ hs3 => hE h3 tkb e (fun c o c1 c2 c3 c4 x => hs3.extBut _ _ c1 (hsd _ _ c4 (hsc.extBut _ _ c2 (hsb.extBut _ _ c3 (hsa.extBut _ _ c1 x))))) ⟨oe,hs3.extBut _ _ (nz hzd hoe hce) hoe,hce⟩
 ·simp only [Bool.false_eq_true,if_false]; replace hs0 : Heap.SameBut z hp h0:=hs0
  rw [show (#[Value.ref i1,Value.ref i2] : Array Value) = [Value.ref i1,Value.ref i2].toArray from rfl]
  simp only [List.forIn_toArray,List.forIn_cons,List.forIn_nil]
  refine wpAny_bind (wpAny_bind (wpAny_bind (wpAny_holding ?_))); show wpAny _ _ (Builtin.SmallTypes.nextOf (.ref i1) >>= _) _ _ _
  have st1a : S1 k1 h0:=D1.frame _ _ _ st1 fun c hc o e => hs0.extBut c o (fun q => Z.a1 (q ▸ hc)) e
  rcases l1 with rfl | ⟨l1,rfl⟩
  ·exact wpAny_bind (D1.done _ _ _ st1a fun hb e hsb he => hE hb tk0 e (fun c o c1 _ c3 _ x => hsb _ _ c3 (hs0.extBut _ _ c1 x)) he)
  ·refine wpAny_bind (D1.item k1 _ _ _ l1 st1a fun x hb tkb px stb hsb => wpAny_pure (wpAny_pure ?_))
   replace hsb : Heap.SameBut i1 h0 hb:=hsb
   refine wpAny_bind (wpAny_bind (wpAny_holding ?_)); show wpAny _ _ (Builtin.SmallTypes.nextOf (.ref i2) >>= _) _ _ _
   exact wpAny_bind (D2.done _ _ _ (D2.frame _ _ _ st2 fun c hcf o e => hsb.extBut c o (fun q => Z.b3 (q ▸ hcf)) (hs0.extBut c o (fun q => Z.b1 (q ▸ hcf)) e)) fun hd e hsd he => hE hd tkb e (fun c o c1 _ c3 c4 x => hsd _ _ c4 (hsb.extBut _ _ c3 (hs0.extBut _ _ c1 x))) he)
theorem zku {e z TI TO i1 i2 : Addr} {fp1 fp2 : List Addr} {n1 n2 i : Nat} {P1 P2 : Nat → Value → Prop} {S1 S2 : Nat → Heap → Prop} {f0 f1 a b old : Value} {Q : Option Value → Shared → Prop} (D1 : Draws prog w A.in1.in1 i1 fp1 n1 P1 S1) (D2 : Draws prog w A.in1.in1 i2 fp2 n2 P2 S2) (Z : Zap z TI TO i1 i2 fp1 fp2)
  (he : IsEnum s.heap e z i old) (ez : e ≠ z) (eT : e ≠ TI) (eO : e ≠ TO) (e1 : e ≠ i1) (e2 : e ≠ i2) (ef1 : e ∉ fp1) (ef2 : e ∉ fp2)
  (hz : IsZ s.heap z TI TO f0 f1) (hf : ZF f0 f1) (hTI : IsPair s.heap TI (.ref i1) (.ref i2)) (hTO : IsPair s.heap TO a b) (st1 : S1 i s.heap) (st2 : S2 i s.heap) (l1 : i < n1) (l2 : i < n2)
  (hQ : ∀ x y h' tk g0 g1 a' b',P1 i x → P2 i y → IsEnumOut h' e z ((i : Int) + 1) (.ref s.heap.objs.size) (s.heap.objs.size + 1) → IsZ h' z TI TO g0 g1 → ZF g0 g1 → IsPair h' TI (.ref i1) (.ref i2) → IsPair h' TO a' b' → S1 (i + 1) h' → S2 (i + 1) h' → IsPair h' s.heap.objs.size x y →
   IsPair h' (s.heap.objs.size + 1) (.int i tk) (.ref s.heap.objs.size) → h'.objs.size = s.heap.objs.size + 2 →
   (∀ c o,c ≠ e → c ≠ z → c ≠ TO → c ≠ i1 → c ≠ i2 → s.heap.get? c = some o → h'.get? c = some o) → Q (some (.ref (s.heap.objs.size + 1))) { s with heap:=h',toks:=tk + 1 }) : wpAny (model prog w) A (pyNext (.ref e)) Q E s:=by
 have hT : s.TypeIs (.ref e) "enumerate":=⟨_,he,rfl⟩; have hTz : s.TypeIs (.ref z) "zip":=⟨_,hz,rfl⟩
 unfold pyNext
 refine wpAny_bind (wpAny_attempt (wpAny_callSpecial?_slot (name:=Str.ofString "__next__") hT F.slot_enumerate_next (wpAny_call_entry F.slot_enumerate_next hT F.entry_enumerate_next ?_ (F.args_enumerate_next_1 _))))
 obtain ⟨hp,g,d,tk0,os⟩:=s
 show wpAny _ _ (field (.ref e) 2 >>= _) _ _ _; refine wpAny_bind (wpAny_field he rfl (x:=.ref z) rfl (wpAny_bind ?_))
 unfold Builtin.SmallTypes.nextOf; refine wpAny_bind (wpAny_callSpecial?_slot (name:=Str.ofString "__next__") hTz F.slot_zip_next (wpAny_call_entry F.slot_zip_next hTz F.entry_zip_next ?_ (F.args_zip_next_1 _)))
 refine zhh D1 D2 Z hz hf hTI hTO st1 st2 l1 l2 fun x y h1 tk g0 g1 a' b' px py hz1 hf1 hTI1 hTO1 st1' st2' hp1 hsz1 kk => wpAny_pure ?_
 have he1 : IsEnum h1 e z i old:=kk _ _ ez eO e1 e2 he
 have elt : e < hp.objs.size:=Heap.lt_size he
 show wpAny _ _ (field (.ref e) 3 >>= _) _ _ ⟨h1,g,d,tk,os⟩; refine wpAny_bind (wpAny_field he1 rfl (x:=rawInt i) rfl ?_)
 show wpAny _ _ (field (.ref e) 4 >>= _) _ _ ⟨h1,g,d,tk,os⟩; refine wpAny_bind (wpAny_field he1 rfl (x:=.none) rfl ?_)
 show wpAny _ _ (mkInt i >>= _) _ _ ⟨h1,g,d,tk,os⟩; refine wpAny_bind (wpAny_mkInt ?_)
 show wpAny _ _ (setField (.ref e) 3 (rawInt ((i : Int) + 1)) >>= _) _ _ ⟨h1,g,d,tk + 1,os⟩; refine wpAny_bind (wpAny_setField_rec he1 (by simp) fun h2 he2 hs2 => ?_)
 replace hs2 : Heap.SameBut e h1 h2:=hs2
 replace he2 : IsEnum h2 e z ((i : Int) + 1) old:=he2
 show wpAny _ _ (setField (.ref e) 4 .none >>= _) _ _ ⟨h2,g,d,tk + 1,os⟩; refine wpAny_bind (wpAny_setField_rec he2 (by simp) fun h3 he3 hs3 => ?_)
 replace hs3 : Heap.SameBut e h2 h3:=hs3
 replace he3 : IsEnum h3 e z ((i : Int) + 1) old:=he3
 show wpAny _ _ (newTuple [.int i tk,.ref hp.objs.size] >>= _) _ _ ⟨h3,g,d,tk + 1,os⟩; refine wpAny_bind (wpAny_newTuple ?_)
 have z3 : h3.objs.size = hp.objs.size + 1:=by rw [hs3.1,hs2.1]; exact hsz1
 rw [z3]
 have he4 : IsEnum (h3.push { cls:=.type "tuple",data:=.seq #[.int i tk,.ref hp.objs.size] }) e z ((i : Int) + 1) old:=Heap.get?_push_of_some _ he3
 have ht4:=Heap.get?_push_size h3 (o:={ cls:=.type "tuple",data:=.seq #[.int i tk,.ref hp.objs.size] }) rfl
 rw [z3] at ht4
 have k4 : ∀ c o,c ≠ e → h1.get? c = some o → (h3.push { cls:=.type "tuple",data:=.seq #[.int i tk,.ref hp.objs.size] }).get? c = some o:=fun c o ce x => Heap.get?_push_of_some _ (hs3.extBut c o ce (hs2.extBut c o ce x))
 have z4 : (h3.push { cls:=.type "tuple",data:=.seq #[.int i tk,.ref hp.objs.size] }).objs.size = hp.objs.size + 2:=by rw [Heap.size_push,z3]
 generalize h3.push { cls:=.type "tuple",data:=.seq #[.int i tk,.ref hp.objs.size] } = h4 at he4 ht4 k4 z4 ⊢
 show wpAny _ _ (Builtin.SmallTypes.ownedTupleIsFree (.ref e) >>= _) _ _ ⟨h4,g,d,tk + 1,os⟩
 refine wpAny_bind ?_
 unfold Builtin.SmallTypes.ownedTupleIsFree; refine wpAny_bind (wpAny_field he4 rfl (x:=.none) rfl (wpAny_pure ?_))
 simp only [if_true]; refine wpAny_bind (wpAny_rule (wpAny_bind (wpAny_field he4 rfl (x:=old) rfl ?_)))
 refine wpAny_bind (wpAny_setField_rec he4 (by simp) fun h5 he5 hs5 => ?_)
 replace hs5 : Heap.SameBut e h4 h5:=hs5
 replace he5 : IsEnum h5 e z ((i : Int) + 1) (.ref hp.objs.size):=he5
 show wpAny _ _ (Builtin.SmallTypes.ownedTupleHandOut (.ref e) (.ref (hp.objs.size + 1)) >>= _) _ _ ⟨h5,g,d,tk + 1,os⟩
 refine wpAny_bind ?_
 unfold Builtin.SmallTypes.ownedTupleHandOut; refine wpAny_bind (wpAny_setField_rec he5 (by simp) fun h6 he6 hs6 => ?_)
 replace hs6 : Heap.SameBut e h5 h6:=hs6
 replace he6 : IsEnumOut h6 e z ((i : Int) + 1) (.ref hp.objs.size) (hp.objs.size + 1):=he6
 refine wpAny_setField_rec he6 (by simp) fun h7 he7 hs7 => ?_
 replace hs7 : Heap.SameBut e h6 h7:=hs7
 replace he7 : IsEnumOut h7 e z ((i : Int) + 1) (.ref hp.objs.size) (hp.objs.size + 1):=he7
 have up : ∀ c o,c ≠ e → h4.get? c = some o → h7.get? c = some o:=fun c o ce x => hs7.extBut c o ce (hs6.extBut c o ce (hs5.extBut c o ce x))
 have z7 : h7.objs.size = hp.objs.size + 2:=by rw [hs7.1,hs6.1,hs5.1,z4]
 refine wpAny_bind (wpAny_letGo (wpAny_pure ⟨_,rfl,wpAny_pure ?_⟩))
 exact hQ x y h7 tk g0 g1 a' b' px py he7 (up _ _ ez.symm (k4 _ _ ez.symm hz1)) hf1 (up _ _ eT.symm (k4 _ _ eT.symm hTI1)) (up _ _ eO.symm (k4 _ _ eO.symm hTO1))
  (D1.frame _ _ _ st1' fun c hc o x => up c o (fun q => ef1 (q ▸ hc)) (k4 c o (fun q => ef1 (q ▸ hc)) x)) (D2.frame _ _ _ st2' fun c hc o x => up c o (fun q => ef2 (q ▸ hc)) (k4 c o (fun q => ef2 (q ▸ hc)) x))
  (up _ _ (Nat.ne_of_gt elt) (k4 _ _ (Nat.ne_of_gt elt) hp1)) (up _ _ (Nat.ne_of_gt (Nat.lt_succ_of_lt elt)) ht4) z7 fun c o ce cz cO c1 c2 x => up c o ce (k4 c o ce (kk c o cz cO c1 c2 x))
theorem zlU {e z TI TO i1 i2 : Addr} {fp1 fp2 : List Addr} {n1 n2 k : Nat} {i : Int} {P1 P2 : Nat → Value → Prop} {S1 S2 : Nat → Heap → Prop} {f0 f1 a b old : Value} {Q : Option Value → Shared → Prop} (D1 : Draws prog w A.in1.in1 i1 fp1 n1 P1 S1) (D2 : Draws prog w A.in1.in1 i2 fp2 n2 P2 S2) (Z : Zap z TI TO i1 i2 fp1 fp2)
  (he : IsEnum s.heap e z i old) (hz : IsZ s.heap z TI TO f0 f1) (hf : ZF f0 f1) (hTI : IsPair s.heap TI (.ref i1) (.ref i2)) (hTO : IsPair s.heap TO a b) (st1 : S1 k s.heap) (st2 : S2 k s.heap) (l1 : k = n1 ∨ (k < n1 ∧ k = n2))
  (hQ : ∀ h' tk,(∀ c o,c ≠ z → c ≠ TO → c ≠ i1 → c ≠ i2 → s.heap.get? c = some o → h'.get? c = some o) → Q none { s with heap:=h',toks:=tk }) : wpAny (model prog w) A (pyNext (.ref e)) Q E s:=by
 have hT : s.TypeIs (.ref e) "enumerate":=⟨_,he,rfl⟩; have hTz : s.TypeIs (.ref z) "zip":=⟨_,hz,rfl⟩
 unfold pyNext
 refine wpAny_bind (wpAny_attempt (wpAny_callSpecial?_slot (name:=Str.ofString "__next__") hT F.slot_enumerate_next (wpAny_call_entry F.slot_enumerate_next hT F.entry_enumerate_next ?_ (F.args_enumerate_next_1 _))))
 show wpAny _ _ (field (.ref e) 2 >>= _) _ _ _; refine wpAny_bind (wpAny_field he rfl (x:=.ref z) rfl (wpAny_bind ?_))
 unfold Builtin.SmallTypes.nextOf; refine wpAny_bind (wpAny_callSpecial?_slot (name:=Str.ofString "__next__") hTz F.slot_zip_next (wpAny_call_entry F.slot_zip_next hTz F.entry_zip_next ?_ (F.args_zip_next_1 _)))
 refine zji D1 D2 Z hz hf hTI hTO st1 st2 l1 fun h' tk x kk ⟨o,ho,hc⟩ => ?_
 exact wpAny_bind (wpAny_isInstance (T:="StopIteration") (b:=true) ⟨o,ho,hc⟩ isSubtype_stop (wpAny_pure (hQ h' tk kk)))
end
end PySem
namespace PySem
def zll (l : Addr) : Obj:={ cls:=.type "list_iterator",data:=.fields #[.ref l,.int 0 0] }
def zfd (x y : Value) : Obj:={ cls:=.type "tuple",data:=.seq #[x,y] }
def zmJ (a b : Addr) : Obj:={ cls:=.type "zip",data:=.fields #[.none,.bool false,.bool false,.ref a,.ref b] }
abbrev zt2 (h : Heap) (l1 l2 : Addr) : Heap:=(h.push (zbS l1)).push (zll l2)
abbrev zt4 (h : Heap) (l1 l2 : Addr) : Heap:=((zt2 h l1 l2).push (zfd (.ref h.objs.size) (.ref (h.push (zbS l1)).objs.size))).push (zfd .none .none)
abbrev zt5 (h : Heap) (l1 l2 : Addr) : Heap:=(zt4 h l1 l2).push (zmJ (zt2 h l1 l2).objs.size ((zt2 h l1 l2).push (zfd (.ref h.objs.size) (.ref (h.push (zbS l1)).objs.size))).objs.size)
theorem zfX (l1 l2 : Addr) (xs ys : Array Value) : Meets (Builtin.«zip.__new__» ⟨[.type "zip",.ref l1,.ref l2],[]⟩) (fun _ R s => s.heap.IsTuple l1 xs ∧ s.heap.IsList l2 ys ∧ R (.ok (.ret (.ref (zt4 s.heap l1 l2).objs.size))) { s with heap:=zt5 s.heap l1 l2 }) :=
 .of_wp fun prog w A R s h => by
  obtain ⟨hp,g,d,tk,os⟩:=s; obtain ⟨hl1,hl2,h⟩:=h; have hsub:=sub_zip
  have hL1 : Heap.IsTuple (Shared.heap ⟨hp,g,d,tk,os⟩) l1 xs:=hl1
  have hL2 : Heap.IsList (Shared.heap ⟨hp.push { cls:=.type "tuple_iterator",data:=.fields #[.ref l1,.int 0 0] },g,d,tk,os⟩) l2 ys:=Heap.IsList.push hl2 _
  wp_walk using wpAny_pyIter_tuple hL1,wpAny_pyIter_list hL2
  exact ⟨_,rfl,h⟩
section
variable {prog : Program} {w : World} {A : Around} {E : Value → Shared → Prop} {s : Shared}
theorem zdV {l1 l2 : Addr} {xs ys : Array Value} {Q : Value → Shared → Prop} (hl1 : s.heap.IsTuple l1 xs) (hl2 : s.heap.IsList l2 ys)
  (h : ∀ h' n,n = s.heap.objs.size → IsZ h' (n + 4) (n + 2) (n + 3) .none (.bool false) → IsPair h' (n + 2) (.ref n) (.ref (n + 1)) → IsPair h' (n + 3) .none .none → h'.IsTupleIter n l1 0 → h'.IsListIter (n + 1) l2 0 → h'.objs.size = n + 5 →
   (∀ c o,s.heap.get? c = some o → h'.get? c = some o) → Q (.ref (n + 4)) { s with heap:=h' }) : wpAny (model prog w) A (call (.type "zip") [.ref l1,.ref l2]) Q E s:=by
 refine callType_new F.called_zip (by decide) (F.typeCall_zip_2 _ _) (F.newCall_zip_2 _ _) (fun obj => F.args_object_init_3 obj _ _) F.entry_zip_new (zfX l1 l2 xs ys) ⟨hl1,hl2,?_⟩
 have z1 : (s.heap.push (zbS l1)).objs.size = s.heap.objs.size + 1:=Heap.size_push ..
 have z2 : (zt2 s.heap l1 l2).objs.size = s.heap.objs.size + 2:=by rw [Heap.size_push,z1]
 have z3 : ((zt2 s.heap l1 l2).push (zfd (.ref s.heap.objs.size) (.ref (s.heap.push (zbS l1)).objs.size))).objs.size = s.heap.objs.size + 3:=by rw [Heap.size_push,z2]
 have z4 : (zt4 s.heap l1 l2).objs.size = s.heap.objs.size + 4:=by rw [Heap.size_push,z3]
 have g5:=Heap.get?_push_size (zt4 s.heap l1 l2) (o:=zmJ (zt2 s.heap l1 l2).objs.size ((zt2 s.heap l1 l2).push (zfd (.ref s.heap.objs.size) (.ref (s.heap.push (zbS l1)).objs.size))).objs.size) rfl
 have g4 : (zt5 s.heap l1 l2).get? _ = some _:=Heap.get?_push_of_some _ (Heap.get?_push_size ((zt2 s.heap l1 l2).push (zfd (.ref s.heap.objs.size) (.ref (s.heap.push (zbS l1)).objs.size))) (o:=zfd .none .none) rfl)
 have g3 : (zt5 s.heap l1 l2).get? _ = some _:=Heap.get?_push_of_some _ (Heap.get?_push_of_some _ (Heap.get?_push_size (zt2 s.heap l1 l2) (o:=zfd (.ref s.heap.objs.size) (.ref (s.heap.push (zbS l1)).objs.size)) rfl))
 have g2 : (zt5 s.heap l1 l2).get? _ = some _:=Heap.get?_push_of_some _ (Heap.get?_push_of_some _ (Heap.get?_push_of_some _ (Heap.get?_push_size (s.heap.push (zbS l1)) (o:=zll l2) rfl)))
 have g1 : (zt5 s.heap l1 l2).get? s.heap.objs.size = some (zbS l1):=Heap.get?_push_of_some _ (Heap.get?_push_of_some _ (Heap.get?_push_of_some _ (Heap.get?_push_of_some _ (Heap.get?_push_size _ rfl))))
 have z5 : (zt5 s.heap l1 l2).objs.size = s.heap.objs.size + 5:=by rw [Heap.size_push,z4]
 have k5 : ∀ c o,s.heap.get? c = some o → (zt5 s.heap l1 l2).get? c = some o:=fun c o x => Heap.get?_push_of_some _ (Heap.get?_push_of_some _ (Heap.get?_push_of_some _ (Heap.get?_push_of_some _ (Heap.get?_push_of_some _ x))))
 show _ ∧ _
 rw [z4] at g5 ⊢
 rw [z3] at g4
 rw [z2] at g3
 rw [z1] at g2
 refine ⟨⟨_,g5,rfl⟩,h _ _ rfl ?_ ?_ g4 ⟨_,g1,rfl,rfl⟩ ⟨_,g2,rfl,rfl⟩ z5 k5⟩
 ·have : IsZ (zt5 s.heap l1 l2) (s.heap.objs.size + 4) (zt2 s.heap l1 l2).objs.size ((zt2 s.heap l1 l2).push (zfd (.ref s.heap.objs.size) (.ref (s.heap.push (zbS l1)).objs.size))).objs.size .none (.bool false):=g5
  rw [z2,z3] at this
  exact this
 ·have : IsPair (zt5 s.heap l1 l2) (s.heap.objs.size + 2) (.ref s.heap.objs.size) (.ref (s.heap.push (zbS l1)).objs.size):=g3
  rw [z1] at this
  exact this
end
open AutoSeq1 (wpAny_loadPart') in
theorem zfY (z TI TO : Addr) (f0 : Value) : Meets (Builtin.«enumerate.__new__» ⟨[.type "enumerate",.ref z],[]⟩) (fun _ R s => IsZip s.heap z TI TO f0 ∧ R (.ok (.ret (.ref s.heap.objs.size))) { s with heap:=s.heap.push (zi5 z) }) :=
 .of_wp fun prog w A R s h => by
  obtain ⟨hp,g,d,tk,os⟩:=s; obtain ⟨hz,h⟩:=h
  have hZ : IsZip (Shared.heap ⟨hp,g,d,tk,os⟩) z TI TO f0:=hz
  have hsub:=sub_enumerate; wp_walk using wpAny_loadPart' hz
  refine wpAny_stack_any fun st => wpAny_pure ?_; split
  ·rename_i c _ _ _ _ _; cases (c == Value.type "enumerate") <;> (wp_walk using wpAny_loadPart' hz,wpAny_pyIter_zip hZ; exact ⟨_,rfl,h⟩)
  ·wp_walk using wpAny_loadPart' hz,wpAny_pyIter_zip hZ; exact ⟨_,rfl,h⟩
theorem zgI {prog : Program} {w : World} {A : Around} {E : Value → Shared → Prop} {s : Shared} {z TI TO : Addr} {f0 : Value} {Q : Value → Shared → Prop} (hz : IsZip s.heap z TI TO f0)
  (h : ∀ h',IsEnum h' s.heap.objs.size z 0 .none → h'.objs.size = s.heap.objs.size + 1 → (∀ b o,s.heap.get? b = some o → h'.get? b = some o) → Q (.ref s.heap.objs.size) { s with heap:=h' }) : wpAny (model prog w) A (call (.type "enumerate") [.ref z]) Q E s:=by
 refine callType_new F.called_enumerate (by decide) (F.typeCall_enumerate_1 _) (F.newCall_enumerate_1 _) (fun obj => F.args_object_init_2 obj _) F.entry_enumerate_new (zfY z TI TO f0) ⟨hz,?_⟩
 have he:=Heap.get?_push_size s.heap (o:=zi5 z) rfl
 exact ⟨⟨_,he,rfl⟩,h _ he (Heap.size_push ..) fun b o x => Heap.get?_push_of_some _ x⟩
end PySem
end
section
set_option maxHeartbeats 3999000
namespace L2
open PySem PySem.Spec PyProof.Rows
def zkv (Sq1 Sq2 : Hp → Addr → List V → Prop) (a b : Addr) : It :=
 ⟨fun i H => ∃ xs ys x y,Sq1 H a xs ∧ Sq2 H b ys ∧ xs[i]? = some x ∧ ys[i]? = some y,
  fun i H x H' => ∃ T1 T2 u v,H T1 = none ∧ H T2 = none ∧ T1 ≠ T2 ∧ x = .ref T2 ∧ H' = upd (upd H T1 (.tup [u,v])) T2 (.tup [.int i,.ref T1]) ∧ (∀ xs,Sq1 H a xs → xs[i]? = some u) ∧ ∀ ys,Sq2 H b ys → ys[i]? = some v,
  fun i H => ∃ xs ys,Sq1 H a xs ∧ Sq2 H b ys ∧ xs.length = i⟩
abbrev zdW (n : Nat) : List Addr:=[n + 5,n + 4,n + 2,n + 3,n,n + 1]
abbrev zlV (n a b : Nat) (i : Nat) (h : Heap) : Prop:=(∃ old,IsEnum h (n + 5) (n + 4) i old) ∧ (∃ f0 f1,IsZ h (n + 4) (n + 2) (n + 3) f0 f1 ∧ ZF f0 f1) ∧ IsPair h (n + 2) (.ref n) (.ref (n + 1)) ∧ (∃ u v,IsPair h (n + 3) u v) ∧ h.IsTupleIter n a i ∧ h.IsListIter (n + 1) b i
theorem nq {x y : Nat} (h : x ≠ y) : @Ne Addr x y:=h
theorem nl {x y : Nat} (h : x < y) : @LT.lt Nat _ x y:=h
theorem nm2 {c x y : Nat} (h1 : c ≠ x) (h2 : c ≠ y) : ¬ @Membership.mem Addr (List Addr) _ [x,y] c:=fun h => by
 rcases List.mem_cons.mp h with e | e
 ·exact h1 e
 ·exact h2 (List.mem_singleton.mp e)
theorem zdr {n a b : Nat} (ha : a < n) (hb : b < n) : Zap (n + 4) (n + 2) (n + 3) n (n + 1) [n,a] [n + 1,b] :=
 ⟨nq (by omega),nq (by omega),nq (by omega),nq (by omega),nq (by omega),nq (by omega),nq (by omega),nq (by omega),nq (by omega),nq (by omega),nm2 (by omega) (by omega),nm2 (by omega) (by omega),nm2 (by omega) (by omega),nm2 (by omega) (by omega),nm2 (by omega) (by omega),nm2 (by omega) (by omega)⟩
theorem zkw {P : Program} {w : World} {K : PySem.W.Frag} {es : List Expr} {k : Nat} {pos : Pos} (a b n : Nat) (ha : a < n) (hb : b < n) : Turn P w K (.Tuple es k pos) (zkv (SqT K) (SqL K) a b) (zdW n) (n + 5) (zlV n a b) where
 mem:=by simp
 obj:=fun i h st c hc => by
  obtain ⟨⟨old,h0⟩,⟨f0,f1,h1,_⟩,h2,⟨u,v,h3⟩,⟨o4,e4,_,d4⟩,⟨o5,e5,_,d5⟩⟩:=st
  simp only [zdW,List.mem_cons,List.not_mem_nil,or_false] at hc
  rcases hc with z | z | z | z | z | z <;> subst z
  ·exact ⟨_,h0,fun v z => by cases z⟩
  ·exact ⟨_,h1,fun v z => by cases z⟩
  ·exact ⟨_,h2,fun v z => by cases z⟩
  ·exact ⟨_,h3,fun v z => by cases z⟩
  ·exact ⟨_,e4,fun v z => by rw [d4] at z; cases z⟩
  ·exact ⟨_,e5,fun v z => by rw [d5] at z; cases z⟩
 keep:=fun i h h' st kk => by
  obtain ⟨⟨old,h0⟩,⟨f0,f1,h1,hf⟩,h2,⟨u,v,h3⟩,h4,h5⟩:=st
  exact ⟨⟨old,kk _ (by simp) _ h0⟩,⟨f0,f1,kk _ (by simp) _ h1,hf⟩,kk _ (by simp) _ h2,⟨u,v,kk _ (by simp) _ h3⟩,h4.at fun o eo => kk _ (by simp) o eo,h5.at fun o eo => kk _ (by simp) o eo⟩
 item:=by
  intro X hP hw hK hc i pins s σ H E I hf st hg
  subst hP hw hK
  obtain ⟨xs,ys,x,y,hq1,hq2,hx,hy⟩:=hg
  obtain ⟨⟨old,h0⟩,⟨f0,f1,h1,hzf⟩,h2,⟨u0,v0,h3⟩,h4,h5⟩:=st
  obtain ⟨its1,rv1,p1,hz1⟩:=I.tuple hq1
  obtain ⟨its2,rv2,p2,hz2⟩:=I.list hq2
  obtain ⟨u,hu,ru⟩:=rv1.get hx
  obtain ⟨v,hv,rv⟩:=rv2.get hy
  have hes : n + 5 < s.heap.objs.size:=Heap.lt_size h0
  have hh : X.A.in1.in1.handled = none:=by simp [I.ok.hd hc]
  have hlt1 : i < its1.toArray.size:=by have:=(List.getElem?_eq_some_iff.mp hu).1; simpa using this
  have hlt2 : i < its2.toArray.size:=by have:=(List.getElem?_eq_some_iff.mp hv).1; simpa using this
  refine zku (Draws.tuple hh n a (nq (by omega)) its1.toArray) (Draws.list hh (n + 1) b (nq (by omega)) its2.toArray) (zdr ha hb) h0 (nq (by omega)) (nq (by omega)) (nq (by omega)) (nq (by omega)) (nq (by omega)) (nm2 (by omega) (by omega)) (nm2 (by omega) (by omega)) h1 hzf h2 h3 ⟨h4,(show s.heap.IsTuple a its1.toArray from p1)⟩ ⟨h5,p2.isList⟩ hlt1 hlt2
   fun x' y' h' tk g0 g1 a' b' px py eo ez ezf e2 e3 t4 t5 pp pe hsz kk => ?_
  have eu : x' = u:=by
   have e1 : its1[i]? = some x':=by simpa using px
   rw [hu] at e1; exact (Option.some.inj e1).symm
  have ev : y' = v:=by
   have e1 : its2[i]? = some y':=by simpa using py
   rw [hv] at e1; exact (Option.some.inj e1).symm
  subst eu ev
  have ch : ∀ c ∈ [n + 5,n + 4,n + 3,n,n + 1],c ∈ zdW n:=fun c hc' => by
   simp only [zdW,List.mem_cons,List.not_mem_nil,or_false] at hc' ⊢
   rcases hc' with z | z | z | z | z <;> subst z <;> simp
  have k1 : ∀ c o,c ∉ [n + 5,n + 4,n + 3,n,n + 1] → s.heap.get? c = some o → h'.get? c = some o:=fun c o hc' eo => by
   simp only [List.mem_cons,List.not_mem_nil,or_false,not_or] at hc'
   exact kk c o hc'.1 hc'.2.1 hc'.2.2.1 hc'.2.2.2.1 hc'.2.2.2.2 eo
  have th1 : ∀ c ∈ [n + 5,n + 4,n + 3,n,n + 1],∃ o,h'.get? c = some o:=fun c hc' => by
   simp only [List.mem_cons,List.not_mem_nil,or_false] at hc'
   rcases hc' with z | z | z | z | z <;> subst z
   ·exact ⟨_,eo⟩
   ·exact ⟨_,ez⟩
   ·exact ⟨_,e3⟩
   ·obtain ⟨o,e,_⟩:=t4.1; exact ⟨o,e⟩
   ·obtain ⟨o,e,_⟩:=t5.1; exact ⟨o,e⟩
  have I1 : Inv X pins σ (upd H s.heap.objs.size (.tup [x,y])) { s with heap:=h',toks:=tk + 1 } :=
   I.turnedNew k1 (fun c hc' => hf c (ch c hc')) th1 (Nat.le_refl _) ⟨zaz,_,.cons ru (.cons rv .nil),zbi pp⟩
  have hn2 : H (s.heap.objs.size + 1) = none:=I.hok.fresh (Nat.le_succ _)
  have hn2' : upd H s.heap.objs.size (.tup [x,y]) (s.heap.objs.size + 1) = none:=by rw [zr (Nat.succ_ne_self _)]; exact hn2
  obtain ⟨_,a1,a2,a3,a4,a5⟩:=I.fpOk (H':=H) (Nat.le_succ s.heap.objs.size) hn2
  have I1' : Inv X pins σ (upd (upd H s.heap.objs.size (.tup [x,y])) (s.heap.objs.size + 1) (.tup [.int i,.ref s.heap.objs.size])) { s with heap:=h',toks:=tk + 1 } :=
   I1.track hn2' (Nat.le_trans I.sz (Nat.le_succ _)) (Ne.symm a1) a4 a5 ⟨zaz,_,.cons ⟨tk,rfl⟩ (.cons rfl .nil),zbi pe⟩
  refine ⟨_,rfl,wpAny_letOwnedTupleGo_enum eo fun h'' he'' hs'' => ?_⟩
  have fr : ∀ c ∈ zdW n,upd (upd H s.heap.objs.size (.tup [x,y])) (s.heap.objs.size + 1) (.tup [.int i,.ref s.heap.objs.size]) c = none:=fun c hc' => by
   have hlt : c < s.heap.objs.size:=by
    simp only [zdW,List.mem_cons,List.not_mem_nil,or_false] at hc'
    rcases hc' with z | z | z | z | z | z <;> subst z <;> exact nl (by omega)
   rw [zr (Nat.ne_of_lt (Nat.lt_succ_of_lt hlt)),zr (Nat.ne_of_lt hlt)]
   exact (hf c hc').1
  have I2 : Inv X pins σ (upd (upd H s.heap.objs.size (.tup [x,y])) (s.heap.objs.size + 1) (.tup [.int i,.ref s.heap.objs.size])) { s with heap:=h'',toks:=tk + 1 } :=
   Inv.turnedL (s:={ s with heap:=h',toks:=tk + 1 }) (ch:=[n + 5]) (t':=tk + 1) I1' (fun c o hc' eo => hs''.extBut c o (by simpa using hc') eo) (fun c hc' => by
    have z : c = n + 5:=by simpa using hc'
    subst z
    exact ⟨fr _ (by simp),(hf _ (by simp)).2⟩) (fun c hc' => by
    have z : c = n + 5:=by simpa using hc'
    subst z
    exact ⟨_,he''⟩)
  have up : ∀ c o,c ≠ n + 5 → h'.get? c = some o → h''.get? c = some o:=fun c o hc' e => hs''.extBut c o hc' e
  exact ⟨.ref (s.heap.objs.size + 1),_,I2,rfl,⟨_,_,x,y,I.fresh,hn2,Nat.ne_of_lt (Nat.lt_succ_self _),rfl,rfl,fun zs hz => by rw [I.tuple_inj hz hq1]; exact hx,fun zs hz => by rw [I.list_inj hz hq2]; exact hy⟩,
   ⟨⟨_,by simpa using he''⟩,⟨g0,g1,up _ _ (nq (by omega)) ez,ezf⟩,up _ _ (nq (by omega)) e2,⟨_,_,up _ _ (nq (by omega)) e3⟩,t4.1.at fun o e => up _ o (nq (by omega)) e,t5.1.at fun o e => up _ o (nq (by omega)) e⟩,fr⟩
 done:=by
  intro X hP hw hK hc i pins s σ H E I hf st hg
  subst hP hw hK
  obtain ⟨xs,ys,hq1,hq2,hx⟩:=hg
  obtain ⟨⟨old,h0⟩,⟨f0,f1,h1,hzf⟩,h2,⟨u0,v0,h3⟩,h4,h5⟩:=st
  obtain ⟨its1,rv1,p1,hz1⟩:=I.tuple hq1
  obtain ⟨its2,rv2,p2,hz2⟩:=I.list hq2
  have hh : X.A.in1.in1.handled = none:=by simp [I.ok.hd hc]
  have hl1:=rv1.length
  refine zlU (Draws.tuple hh n a (nq (by omega)) its1.toArray) (Draws.list hh (n + 1) b (nq (by omega)) its2.toArray) (zdr ha hb) h0 h1 hzf h2 h3 ⟨h4,(show s.heap.IsTuple a its1.toArray from p1)⟩ ⟨h5,p2.isList⟩ (.inl (by rw [List.size_toArray]; omega)) fun h' tk kk => ⟨rfl,?_⟩
  have sub : ∀ c ∈ [n + 4,n + 3,n,n + 1],c ∈ zdW n:=fun c hc' => by
   simp only [zdW,List.mem_cons,List.not_mem_nil,or_false] at hc' ⊢
   rcases hc' with z | z | z | z <;> subst z <;> simp
  have k1 : ∀ c o,c ∉ [n + 4,n + 3,n,n + 1] → s.heap.get? c = some o → h'.get? c = some o:=fun c o hc' e => by
   simp only [List.mem_cons,List.not_mem_nil,or_false,not_or] at hc'
   exact kk c o hc'.1 hc'.2.1 hc'.2.2.1 hc'.2.2.2 e
  have nit : ∀ d u',H d = some u' → d ∉ [n + 4,n + 3,n,n + 1]:=fun d u' e' hd => by rw [(hf d (sub d hd)).1] at e'; cases e'
  refine I.step (g':=s.gens) (d':=s.drawn) (t':=tk) (ch:=[n + 4,n + 3,n,n + 1]) (fun c hc' => ?_) (fun c o _ _ hcc e _ => k1 c o hcc e) (fun c o _ _ hcc e _ => ⟨o.slots,k1 c o hcc e⟩) (fun _ _ _ _ n => n)
   (fun c o hcc e => ⟨o,k1 c o hcc e⟩) (fun _ _ e => e) (fun _ _ _ e => e) (fun c ps e => ⟨#[],by rw [e]; simp⟩) (fun m hm => ?_) (fun c u e => ?_) I.bare
  ·obtain ⟨_,a1,_,a3,a4,a5⟩:=hf c (sub c hc')
   exact ⟨a3,a1,a4,a5⟩
  ·obtain ⟨o,es',ep,ho,r⟩:=hm
   exact ⟨o,es',ep,k1 _ o (fun z => (hf _ (sub _ z)).2.1 rfl) ho,r⟩
  ·refine (I.hok c u e).stay (fun d v' hd q => k1 d v' ?_ q) (fun _ q => q) fun _ _ q => q
   rcases hd with z | z
   ·rw [z]; exact nit c u e
   ·exact nit d _ z
 self:=fun _ _ _ _ _ st h => by
  obtain ⟨⟨old,he⟩,_⟩:=st
  exact wpAny_pyIter_enum he h
def iEZ (Sq1 Sq2 : Hp → Addr → List V → Prop) (ta : TA) : TI:=fun σ H R => ta σ H fun vs H1 => ∃ a b xs ys,vs = [.ref a,.ref b] ∧ Sq1 H1 a xs ∧ Sq2 H1 b ys ∧ R (zkv Sq1 Sq2 a b) H1
theorem zgJ {X : Cx} {es : List Expr} {k : Nat} {tpos p p2 pos pos2 : Pos} {a b : Expr} {ta : TA} (hg : Gl X "enumerate") (hm : X.mg "enumerate" = none) (hg2 : Gl X "zip") (hm2 : X.mg "zip" = none) (ha : PA X [a,b] ta) (hs : starEach [a,b] X.env = [(false,eval a X.env),(false,eval b X.env)]:=by rfl) (hs2 : starEach [b] X.env = [(false,eval b X.env)]:=by rfl)
  (hs3 : starEach [.Call (.Name "zip" p2) [a,b] [] pos2] X.env = [(false,eval (.Call (.Name "zip" p2) [a,b] [] pos2) X.env)]:=by rfl) :
  PI X (.Tuple es k tpos) (.Call (.Name "enumerate" p) [.Call (.Name "zip" p2) [a,b] [] pos2] [] pos) (iEZ (SqT X.K) (SqL X.K) ta):=by
 intro pins s σ H R I h
 refine Call_ (zbh I hg hm boot_enumerate (PyProof.Rows.callWith_type1 ?_ hs3 rfl))
 rw [hs3]
 show wpAny _ _ (spliced ((false,eval (.Call (.Name "zip" p2) [a,b] [] pos2) X.env) :: [])) _ _ s
 refine Calls.spliced_cons ?_
 refine Call_ (zbh I hg2 hm2 boot_zip (PyProof.Rows.callWith_type1 (thn (ha pos2 pins s σ H _ I h) fun us s1 ⟨vs,H1,I1,r1,q1⟩ => ?_) (by rw [hs,hs2]) (by rw [hs2]; rfl)))
 obtain ⟨l1,l2,xs,ys,e,hq1,hq2,q⟩:=q1
 subst e
 cases r1 with
 | cons r rr =>
  cases rr with
  | cons r' rr =>
   cases rr
   cases r
   cases r'
   obtain ⟨its1,rv1,pl1,hz1⟩:=I1.tuple hq1
   obtain ⟨its2,rv2,pl2,hz2⟩:=I1.list hq2
   have hlt1 : l1 < s1.heap.objs.size:=by obtain ⟨_,e,_⟩:=pl1; exact Heap.lt_size e
   have hlt2 : l2 < s1.heap.objs.size:=by obtain ⟨_,_,e,_⟩:=pl2; exact Heap.lt_size e
   refine zdV (show s1.heap.IsTuple l1 its1.toArray from pl1) pl2.isList fun h' n hn b1 b2 b3 b4 b5 b6 kk => ?_
   refine Calls.spliced_nil ?_
   refine zgI b1 fun h2 he hsz kk2 => ?_
   have I2 : Inv X pins σ H1 { s1 with heap:=h2 }:=I1.kept (t':=s1.toks) fun c o e => kk2 c o (kk c o e)
   refine wpAny_pyIter_enum he ?_; have e5 : h'.objs.size = n + 5:=b6
   have he' : IsEnum h2 (n + 5) (n + 4) 0 .none:=by rw [← e5]; exact he
   refine ⟨_,zdW n,zlV n l1 l2,zkv (SqT X.K) (SqL X.K) l1 l2,H1,rfl,I2,?_,⟨⟨_,he'⟩,⟨_,_,kk2 _ _ b1,.inl rfl,_,rfl⟩,kk2 _ _ b2,⟨_,_,kk2 _ _ b3⟩,b4.at fun o e => kk2 _ o e,b5.at fun o e => kk2 _ o e⟩,fun c hc => ?_,q⟩
   ·show Turn X.prog X.w X.K (.Tuple es k tpos) (zkv (SqT X.K) (SqL X.K) l1 l2) (zdW n) h'.objs.size (zlV n l1 l2)
    rw [e5]
    exact zkw l1 l2 n (by rw [hn]; exact hlt1) (by rw [hn]; exact hlt2)
   ·have hle : s1.heap.objs.size ≤ c:=by
     simp only [zdW,List.mem_cons,List.not_mem_nil,or_false] at hc
     rw [← hn]
     rcases hc with z | z | z | z | z | z <;> subst z
     all_goals first | exact Nat.le_add_right _ _ | exact Nat.le_refl _
    exact I1.fpOk hle (I1.hok.fresh hle)
end L2
end
section
set_option maxHeartbeats 3999000
namespace L2
open PySem PySem.Spec PyProof.Rows
theorem zgK {K : PySem.W.Frag} {i j : Nat} : ∀ (x : V) (σ : St) (H : Hp) (Q Q' : St → Hp → Prop),(∀ σ' H',Q σ' H' → Q' σ' H') → zgu K 2 (zcn (zaC i) (zcn (zaC j) zh0)) x σ H Q → zgu K 2 (zcn (zaC i) (zcn (zaC j) zh0)) x σ H Q':=fun x σ H Q Q' hq ⟨a,xs,e1,h1,h2,v,r,e3,v2,r2,e4,e5,h⟩ => ⟨a,xs,e1,h1,h2,v,r,e3,v2,r2,e4,e5,hq _ _ h⟩
end L2
end
section
set_option maxHeartbeats 3999000
namespace My
open PySem L2 PyProof.Rows
section
variable {K : PySem.W.Frag}
def znm (H : Hp) : V → Option (List V)
 | .ref a => match H a with
  | some (.lst xs) => some xs
  | _ => none
 | _ => none
def zaU (H : Hp) (c tt : Addr) (p k : Int) (pl : List Int) : Prop:=H c = some (.tup [.int p,.int k,.ref tt]) ∧ H tt = some (.tup (pl.map V.int))
theorem zaU.same {H H' : Hp} {c tt : Addr} {p k : Int} {pl : List Int} (s : zy H H') (h : zaU H c tt p k pl) : zaU H' c tt p k pl:=⟨s _ _ h.1,s _ _ h.2⟩
theorem zeO {a : Addr} {xs : List V} {kp : V → Bool} {f : V → V} {g : TG} {ts : TT} {te : TE} {σ0 : L2.St} {Q : VK} {H : Hp} (ha : SqL K H a xs) (hn : xs.length ≤ 10000)
  (hs : ∀ (i : Nat) (x : V) (R : VK) (B : Hp → Prop),xs[i]? = some x → (if kp x = true then R (f x) H else B H) → g x σ0 H fun σ2 H2 => ts σ2 H2 fun b H3 => if b = true then te σ2 H3 R else B H3)
  (hd : ∀ D,H D = none → Q (.ref D) (upd H D (.lst ((xs.filter kp).map f)))) : cGo g ts te σ0 (Itl K a) Q H:=by
 refine z8 (n:=xs.length) (fun i ys H' => ys = ((xs.take i).filter kp).map f ∧ H' = H) ⟨by simp,rfl⟩ ?_ ?_ ?_ ?_
 ·rintro i ys H3 hi ⟨_,rfl⟩
  exact ⟨_,xs[i],ha,by simp⟩
 ·rintro ys H3 ⟨_,rfl⟩
  exact ⟨_,ha,Nat.le_refl _⟩
 ·rintro i x ys H3 H4 hi ⟨rfl,rfl⟩ ⟨rfl,hx⟩
  refine hs i x _ _ (hx _ ha) ?_
  rw [take_snoc (hx _ ha),List.filter_append,List.map_append]
  by_cases h : kp x = true
  ·rw [if_pos h]
   refine ⟨zX ?_,?_,rfl⟩
   ·rw [List.length_map]
    exact Nat.le_trans (List.length_filter_le _ _) (Nat.le_trans (List.length_take_le _ _) (by omega))
   ·congr 1
    simp [h]
  ·rw [if_neg h]
   refine ⟨?_,rfl⟩
   simp [h]
 ·rintro ys H3 D ⟨rfl,rfl⟩ hD
  rw [List.take_length]
  exact hd D hD
def enc : Option Int → V
 | none => .non
 | some i => .int i
def zbT (p : Int) (pl : List Int) (rw : List (Option Int)) (poly : List Int) (j : Nat) : Bool:=match pl[j]?,rw[j]? with
 | some x,some (some i) => decide (i = zi p x poly)
 | _,_ => false
def zcm (p : Int) (pl : List Int) (rw : List (Option Int)) (poly : List Int) (n : Nat) : List Int:=((List.range n).filter (zbT p pl rw poly)).map fun (j : Nat) => (j : Int)
theorem zeP {p : Int} {pl : List Int} {rw : List (Option Int)} {poly : List Int} {n : Nat} : zcm p pl rw poly (n + 1) = zcm p pl rw poly n ++ if zbT p pl rw poly n then [(n : Int)] else []:=by
 unfold zcm
 rw [List.range_succ,List.filter_append,List.map_append]
 congr 1
 by_cases h : zbT p pl rw poly n = true
 ·rw [if_pos h]; simp [h]
 ·rw [if_neg h]; simp [h]
theorem zfZ (p : Int) (pl : List Int) (rw : List (Option Int)) (poly : List Int) (n : Nat) : (zcm p pl rw poly n).length ≤ n:=by
 unfold zcm
 rw [List.length_map]
 exact Nat.le_trans (List.length_filter_le _ _) (by rw [List.length_range]; exact Nat.le_refl _)
theorem zfe {rw : List (Option Int)} {j : Nat} {x : V} (h : (rw.map enc)[j]? = some x) : ∃ o,x = enc o ∧ rw[j]? = some o:=by
 rw [List.getElem?_map] at h
 cases e : rw[j]? with
 | none => rw [e] at h; cases h
 | some c => rw [e] at h; exact ⟨c,(Option.some.inj h).symm,rfl⟩
def hide (H : Hp) (a : Addr) : Hp:=fun b => if b = a then none else H b
theorem zjj (H : Hp) (a : Addr) : zy (hide H a) H:=fun b o e => by
 unfold hide at e
 split at e
 ·cases e
 ·exact e
theorem zds {H : Hp} {a b : Addr} {o : HO} (h : H b = some o) (hne : b ≠ a) : hide H a b = some o:=by unfold hide; rw [if_neg hne]; exact h
end
end My
end
section
set_option maxHeartbeats 3999000
namespace My
open PySem L2 PyProof.Rows
section
variable {K : PySem.W.Frag}
def zhi (K : PySem.W.Frag) : Sp:=fun vs H Q _ => ∃ (c tt ra po : Addr) (p k : Int) (pl poly : List Int) (rw : List (Option Int)),vs = [.ref c,.ref ra,.ref po] ∧ zaU H c tt p k pl ∧ H ra = some (.lst (rw.map enc)) ∧ rw.length = pl.length ∧ H po = some (.tup (poly.map V.int)) ∧ 0 < p ∧ p ≤ 97 ∧ (∀ x ∈ pl,0 ≤ x ∧ x < p) ∧ pl.length ≤ 100 ∧
 ∀ (l : Addr) (H' : Hp),H l = none → zy H H' → H' l = some (.lst ((zcm p pl rw poly pl.length).map V.int)) → Q (.ref l) H'
def zih (K : PySem.W.Frag) : Sp:=zhi K
theorem zjk (o : Option Int) (z : Int) : zkh (enc o) (.int z) = true:=by cases o <;> rfl
theorem zii (o : Option Int) (z : Int) : zkh (.int z) (enc o) = true:=by cases o <;> rfl
theorem zf0 {p : Int} {pl : List Int} {rw : List (Option Int)} {poly : List Int} {j : Nat} {x : Int} {o : Option Int} (hx : pl[j]? = some x) (ho : rw[j]? = some o) : zbT p pl rw poly j = decide (enc o = .int (zi p x poly)):=by
 unfold zbT
 rw [hx,ho]
 cases o with
 | none => rfl
 | some i => simp [enc]
def zbj (rw : List (Option Int)) (n : Nat) : List Int:=((List.range n).filter fun j => (rw[j]?.getD none).isSome).map fun (j : Nat) => (j : Int)
theorem zgL {rw : List (Option Int)} {n : Nat} : zbj rw (n + 1) = zbj rw n ++ if (rw[n]?.getD none).isSome = true then [(n : Int)] else []:=by
 unfold zbj
 rw [List.range_succ,List.filter_append,List.map_append]
 congr 1
 by_cases h : (rw[n]?.getD none).isSome = true
 ·rw [if_pos h]; simp [h]
 ·rw [if_neg h]; simp [h]
theorem zcH (rw : List (Option Int)) (n : Nat) : (zbj rw n).length ≤ n:=by
 unfold zbj
 rw [List.length_map]
 exact Nat.le_trans (List.length_filter_le _ _) (by rw [List.length_range]; exact Nat.le_refl _)
def zlW (p : Int) (pl : List Int) (rw : List (Option Int)) (poly : List Int) : V → Bool
 | .int z => zbT p pl rw poly z.toNat
 | _ => false
theorem zij {p : Int} {pl : List Int} {rw : List (Option Int)} {poly : List Int} (n : Nat) : (((zbj rw n).map V.int).filter (zlW p pl rw poly)).map id = (zcm p pl rw poly n).map V.int:=by
 rw [List.map_id]
 unfold zbj zcm
 rw [List.filter_map,List.filter_map,List.filter_filter]
 congr 2
 refine List.filter_congr fun j _ => ?_
 show (zbT p pl rw poly ((j : Int)).toNat && (rw[j]?.getD none).isSome) = zbT p pl rw poly j
 rw [Int.toNat_natCast]
 by_cases h : zbT p pl rw poly j = true
 ·rw [h,Bool.true_and]
  unfold zbT at h
  split at h
  ·rename_i _ _ e; rw [e]; rfl
  ·cases h
 ·rw [Bool.eq_false_iff.mpr h,Bool.false_and]
theorem zik {rw : List (Option Int)} {n : Nat} {z : Int} (h : z ∈ zbj rw n) : ∃ j : Nat,z = j ∧ j < n:=by
 unfold zbj at h
 obtain ⟨j,hj,e⟩:=List.mem_map.mp h
 exact ⟨j,e.symm,List.mem_range.mp (List.mem_filter.mp hj).1⟩
end
end My
end
section
set_option maxHeartbeats 3998000
namespace PySem
section
variable {prog : Program} {w : World} {A : Around} {E : Value → Shared → Prop} {s : Shared}
theorem zkx {z TI TO i1 i2 : Addr} {fp1 fp2 : List Addr} {n1 n2 k1 k2 : Nat} {P1 P2 : Nat → Value → Prop} {S1 S2 : Nat → Heap → Prop} {f0 f1 a b : Value} {Q : Option Value → Shared → Prop} (D1 : Draws prog w A.in1 i1 fp1 n1 P1 S1) (D2 : Draws prog w A.in1 i2 fp2 n2 P2 S2) (Z : Zap z TI TO i1 i2 fp1 fp2)
  (hz : IsZ s.heap z TI TO f0 f1) (hf : ZF f0 f1) (hTI : IsPair s.heap TI (.ref i1) (.ref i2)) (hTO : IsPair s.heap TO a b) (st1 : S1 k1 s.heap) (st2 : S2 k2 s.heap) (l1 : k1 < n1) (l2 : k2 < n2)
  (hQ : ∀ x y h' tk g0 g1 a' b',P1 k1 x → P2 k2 y → IsZ h' z TI TO g0 g1 → ZF g0 g1 → IsPair h' TI (.ref i1) (.ref i2) → IsPair h' TO a' b' → S1 (k1 + 1) h' → S2 (k2 + 1) h' → IsPair h' s.heap.objs.size x y → h'.objs.size = s.heap.objs.size + 1 →
   (∀ c o,c ≠ z → c ≠ TO → c ≠ i1 → c ≠ i2 → s.heap.get? c = some o → h'.get? c = some o) → Q (some (.ref s.heap.objs.size)) { s with heap:=h',toks:=tk }) : wpAny (model prog w) A (pyNext (.ref z)) Q E s:=by
 have hTz : s.TypeIs (.ref z) "zip":=⟨_,hz,rfl⟩
 unfold pyNext
 refine wpAny_bind (wpAny_attempt (wpAny_callSpecial?_slot (name:=Str.ofString "__next__") hTz F.slot_zip_next (wpAny_call_entry F.slot_zip_next hTz F.entry_zip_next ?_ (F.args_zip_next_1 _))))
 exact zhh D1 D2 Z hz hf hTI hTO st1 st2 l1 l2 fun x y h1 tk g0 g1 a' b' px py hz1 hf1 hTI1 hTO1 st1' st2' hp1 hsz1 kk => wpAny_pure (hQ x y h1 tk g0 g1 a' b' px py hz1 hf1 hTI1 hTO1 st1' st2' hp1 hsz1 kk)
theorem zlX {z TI TO i1 i2 : Addr} {fp1 fp2 : List Addr} {n1 n2 k1 k2 : Nat} {P1 P2 : Nat → Value → Prop} {S1 S2 : Nat → Heap → Prop} {f0 f1 a b : Value} {Q : Option Value → Shared → Prop} (D1 : Draws prog w A.in1 i1 fp1 n1 P1 S1) (D2 : Draws prog w A.in1 i2 fp2 n2 P2 S2) (Z : Zap z TI TO i1 i2 fp1 fp2)
  (hz : IsZ s.heap z TI TO f0 f1) (hf : ZF f0 f1) (hTI : IsPair s.heap TI (.ref i1) (.ref i2)) (hTO : IsPair s.heap TO a b) (st1 : S1 k1 s.heap) (st2 : S2 k2 s.heap) (l1 : k1 = n1 ∨ (k1 < n1 ∧ k2 = n2))
  (hQ : ∀ h' tk,(∀ c o,c ≠ z → c ≠ TO → c ≠ i1 → c ≠ i2 → s.heap.get? c = some o → h'.get? c = some o) → Q none { s with heap:=h',toks:=tk }) : wpAny (model prog w) A (pyNext (.ref z)) Q E s:=by
 have hTz : s.TypeIs (.ref z) "zip":=⟨_,hz,rfl⟩
 unfold pyNext
 refine wpAny_bind (wpAny_attempt (wpAny_callSpecial?_slot (name:=Str.ofString "__next__") hTz F.slot_zip_next (wpAny_call_entry F.slot_zip_next hTz F.entry_zip_next ?_ (F.args_zip_next_1 _))))
 refine zji D1 D2 Z hz hf hTI hTO st1 st2 l1 fun h' tk x kk ⟨o,ho,hc⟩ => ?_
 exact wpAny_bind (wpAny_isInstance (T:="StopIteration") (b:=true) ⟨o,ho,hc⟩ isSubtype_stop (wpAny_pure (hQ h' tk kk)))
theorem zhj {z TI TO : Addr} {f0 f1 : Value} {Q : Value → Shared → Prop} (hz : IsZ s.heap z TI TO f0 f1) (h : Q (.ref z) s) : wpAny (model prog w) A (pyIter (.ref z)) Q E s:=by
 have hT : s.TypeIs (.ref z) "zip":=⟨_,hz,rfl⟩; refine wpAny_pyIter_slot hT F.slot_zip_iter (wpAny_call_entry F.slot_zip_iter hT F.entry_zip_iter ?_ (F.args_zip_iter_1 _))
 show wpAny _ _ (ret (.ref z)) _ _ s; exact wpAny_pure ⟨_,rfl,"zip",_,hT,F.slot_zip_next.lookup,h⟩
theorem zmK {elts : List Expr} {x1} {pos : Pos} {z TI TO T : Addr} {f0 f1 : Value} {Q : Unit → Shared → Prop} (hz : IsZ s.heap z TI TO f0 f1) (hf : ZF f0 f1)
  (hQ : ∀ h' g0,IsZ h' z TI TO g0 f1 → ZF g0 f1 → Heap.SameBut z s.heap h' → Q () { s with heap:=h' }) : wpAny (model prog w) A (letOwnedTupleGo (.Tuple elts x1 pos) (.ref z) (.ref T)) Q E s:=by
 unfold letOwnedTupleGo; refine wpAny_bind (wpAny_load hz ?_)
 show wpAny _ _ (if _ then _ else _) Q E s
 split
 ·refine wpAny_bind (wpAny_rule ?_); show wpAny _ _ (setField (.ref z) 0 .none) Q E s
  exact wpAny_setField_rec hz (by simp) fun h' hz' hs' => hQ h' .none hz' ⟨.inl rfl,hf.2⟩ hs'
 ·exact wpAny_pure (hQ s.heap f0 hz hf ⟨rfl,fun _ _ => rfl⟩)
end
end PySem
namespace L2
open PySem PySem.Spec PyProof.Rows
def zlY (Sq1 Sq2 : Hp → Addr → List V → Prop) (a b : Addr) : It :=
 ⟨(zh8 Sq1 Sq2 a b).go,(zh8 Sq1 Sq2 a b).yld,fun i H => ∃ xs ys,Sq1 H a xs ∧ Sq2 H b ys ∧ (xs.length = i ∨ (i < xs.length ∧ ys.length = i))⟩
abbrev zep (n : Nat) : List Addr:=[n + 4,n + 2,n + 3,n,n + 1]
abbrev zmL (n a b : Nat) (i : Nat) (h : Heap) : Prop:=(∃ f0 f1,IsZ h (n + 4) (n + 2) (n + 3) f0 f1 ∧ ZF f0 f1) ∧ IsPair h (n + 2) (.ref n) (.ref (n + 1)) ∧ (∃ u v,IsPair h (n + 3) u v) ∧ h.IsTupleIter n a i ∧ h.IsListIter (n + 1) b i
theorem zjl {P : Program} {w : World} {K : PySem.W.Frag} {es : List Expr} {k : Nat} {pos : Pos} (a b n : Nat) (ha : a < n) (hb : b < n) : Turn P w K (.Tuple es k pos) (zlY (SqT K) (SqL K) a b) (zep n) (n + 4) (zmL n a b) where
 mem:=by simp
 obj:=fun i h st c hc => by
  obtain ⟨⟨f0,f1,h1,_⟩,h2,⟨u,v,h3⟩,⟨o4,e4,_,d4⟩,⟨o5,e5,_,d5⟩⟩:=st
  simp only [zep,List.mem_cons,List.not_mem_nil,or_false] at hc
  rcases hc with z | z | z | z | z <;> subst z
  ·exact ⟨_,h1,fun v z => by cases z⟩
  ·exact ⟨_,h2,fun v z => by cases z⟩
  ·exact ⟨_,h3,fun v z => by cases z⟩
  ·exact ⟨_,e4,fun v z => by rw [d4] at z; cases z⟩
  ·exact ⟨_,e5,fun v z => by rw [d5] at z; cases z⟩
 keep:=fun i h h' st kk => by
  obtain ⟨⟨f0,f1,h1,hf⟩,h2,⟨u,v,h3⟩,h4,h5⟩:=st
  exact ⟨⟨f0,f1,kk _ (by simp) _ h1,hf⟩,kk _ (by simp) _ h2,⟨u,v,kk _ (by simp) _ h3⟩,h4.at fun o eo => kk _ (by simp) o eo,h5.at fun o eo => kk _ (by simp) o eo⟩
 item:=by
  intro X hP hw hK hc i pins s σ H E I hf st hg
  subst hP hw hK
  obtain ⟨xs,ys,x,y,hq1,hq2,hx,hy⟩:=hg
  obtain ⟨⟨f0,f1,h1,hzf⟩,h2,⟨u0,v0,h3⟩,h4,h5⟩:=st
  obtain ⟨its1,rv1,p1,hz1⟩:=I.tuple hq1
  obtain ⟨its2,rv2,p2,hz2⟩:=I.list hq2
  obtain ⟨u,hu,ru⟩:=rv1.get hx
  obtain ⟨v,hv,rv⟩:=rv2.get hy
  have hes : n + 4 < s.heap.objs.size:=Heap.lt_size h1
  have hh : X.A.in1.handled = none:=by simp [I.ok.hd hc]
  have hlt1 : i < its1.toArray.size:=by have:=(List.getElem?_eq_some_iff.mp hu).1; simpa using this
  have hlt2 : i < its2.toArray.size:=by have:=(List.getElem?_eq_some_iff.mp hv).1; simpa using this
  refine zkx (Draws.tuple hh n a (nq (by omega)) its1.toArray) (Draws.list hh (n + 1) b (nq (by omega)) its2.toArray) (zdr ha hb) h1 hzf h2 h3 ⟨h4,(show s.heap.IsTuple a its1.toArray from p1)⟩ ⟨h5,p2.isList⟩ hlt1 hlt2
   fun x' y' h' tk g0 g1 a' b' px py ez ezf e2 e3 t4 t5 pp hsz kk => ?_
  have eu : x' = u:=by
   have e1 : its1[i]? = some x':=by simpa using px
   rw [hu] at e1; exact (Option.some.inj e1).symm
  have ev : y' = v:=by
   have e1 : its2[i]? = some y':=by simpa using py
   rw [hv] at e1; exact (Option.some.inj e1).symm
  subst eu ev
  have ch : ∀ c ∈ [n + 4,n + 3,n,n + 1],c ∈ zep n:=fun c hc' => by
   simp only [zep,List.mem_cons,List.not_mem_nil,or_false] at hc' ⊢
   rcases hc' with z | z | z | z <;> subst z <;> simp
  have k1 : ∀ c o,c ∉ [n + 4,n + 3,n,n + 1] → s.heap.get? c = some o → h'.get? c = some o:=fun c o hc' eo => by
   simp only [List.mem_cons,List.not_mem_nil,or_false,not_or] at hc'
   exact kk c o hc'.1 hc'.2.1 hc'.2.2.1 hc'.2.2.2 eo
  have th1 : ∀ c ∈ [n + 4,n + 3,n,n + 1],∃ o,h'.get? c = some o:=fun c hc' => by
   simp only [List.mem_cons,List.not_mem_nil,or_false] at hc'
   rcases hc' with z | z | z | z <;> subst z
   ·exact ⟨_,ez⟩
   ·exact ⟨_,e3⟩
   ·obtain ⟨o,e,_⟩:=t4.1; exact ⟨o,e⟩
   ·obtain ⟨o,e,_⟩:=t5.1; exact ⟨o,e⟩
  have I1 : Inv X pins σ (upd H s.heap.objs.size (.tup [x,y])) { s with heap:=h',toks:=tk } :=
   I.turnedNew k1 (fun c hc' => hf c (ch c hc')) th1 (Nat.le_refl _) ⟨zaz,_,.cons ru (.cons rv .nil),zbi pp⟩
  refine ⟨_,rfl,zmK (s:={ s with heap:=h',toks:=tk }) ez ezf fun h'' g2 hz'' hzf'' hs'' => ?_⟩
  have fr : ∀ c ∈ zep n,upd H s.heap.objs.size (.tup [x,y]) c = none:=fun c hc' => by
   have hlt : c < s.heap.objs.size:=by
    simp only [zep,List.mem_cons,List.not_mem_nil,or_false] at hc'
    rcases hc' with z | z | z | z | z <;> subst z <;> exact nl (by omega)
   rw [zr (Nat.ne_of_lt hlt)]
   exact (hf c hc').1
  have I2 : Inv X pins σ (upd H s.heap.objs.size (.tup [x,y])) { s with heap:=h'',toks:=tk } :=
   Inv.turnedL (s:={ s with heap:=h',toks:=tk }) (ch:=[n + 4]) (t':=tk) I1 (fun c o hc' eo => hs''.extBut c o (by simpa using hc') eo) (fun c hc' => by
    have z : c = n + 4:=by simpa using hc'
    subst z
    exact ⟨fr _ (by simp),(hf _ (by simp)).2⟩) (fun c hc' => by
    have z : c = n + 4:=by simpa using hc'
    subst z
    exact ⟨_,hz''⟩)
  have up : ∀ c o,c ≠ n + 4 → h'.get? c = some o → h''.get? c = some o:=fun c o hc' e => hs''.extBut c o hc' e
  exact ⟨.ref s.heap.objs.size,_,I2,rfl,⟨_,x,y,I.fresh,rfl,rfl,fun zs hz => by rw [I.tuple_inj hz hq1]; exact hx,fun zs hz => by rw [I.list_inj hz hq2]; exact hy⟩,
   ⟨⟨g2,g1,hz'',hzf''⟩,up _ _ (nq (by omega)) e2,⟨_,_,up _ _ (nq (by omega)) e3⟩,t4.1.at fun o e => up _ o (nq (by omega)) e,t5.1.at fun o e => up _ o (nq (by omega)) e⟩,fr⟩
 done:=by
  intro X hP hw hK hc i pins s σ H E I hf st hg
  subst hP hw hK
  obtain ⟨xs,ys,hq1,hq2,hx⟩:=hg
  obtain ⟨⟨f0,f1,h1,hzf⟩,h2,⟨u0,v0,h3⟩,h4,h5⟩:=st
  obtain ⟨its1,rv1,p1,hz1⟩:=I.tuple hq1
  obtain ⟨its2,rv2,p2,hz2⟩:=I.list hq2
  have hh : X.A.in1.handled = none:=by simp [I.ok.hd hc]
  have hl1:=rv1.length
  have hl2:=rv2.length
  refine zlX (Draws.tuple hh n a (nq (by omega)) its1.toArray) (Draws.list hh (n + 1) b (nq (by omega)) its2.toArray) (zdr ha hb) h1 hzf h2 h3 ⟨h4,(show s.heap.IsTuple a its1.toArray from p1)⟩ ⟨h5,p2.isList⟩ (by rw [List.size_toArray,List.size_toArray]; omega) fun h' tk kk => ⟨rfl,?_⟩
  have sub : ∀ c ∈ [n + 4,n + 3,n,n + 1],c ∈ zep n:=fun c hc' => by
   simp only [zep,List.mem_cons,List.not_mem_nil,or_false] at hc' ⊢
   rcases hc' with z | z | z | z <;> subst z <;> simp
  have k1 : ∀ c o,c ∉ [n + 4,n + 3,n,n + 1] → s.heap.get? c = some o → h'.get? c = some o:=fun c o hc' e => by
   simp only [List.mem_cons,List.not_mem_nil,or_false,not_or] at hc'
   exact kk c o hc'.1 hc'.2.1 hc'.2.2.1 hc'.2.2.2 e
  have nit : ∀ d u',H d = some u' → d ∉ [n + 4,n + 3,n,n + 1]:=fun d u' e' hd => by rw [(hf d (sub d hd)).1] at e'; cases e'
  refine I.step (g':=s.gens) (d':=s.drawn) (t':=tk) (ch:=[n + 4,n + 3,n,n + 1]) (fun c hc' => ?_) (fun c o _ _ hcc e _ => k1 c o hcc e) (fun c o _ _ hcc e _ => ⟨o.slots,k1 c o hcc e⟩) (fun _ _ _ _ n => n)
   (fun c o hcc e => ⟨o,k1 c o hcc e⟩) (fun _ _ e => e) (fun _ _ _ e => e) (fun c ps e => ⟨#[],by rw [e]; simp⟩) (fun m hm => ?_) (fun c u e => ?_) I.bare
  ·obtain ⟨_,a1,_,a3,a4,a5⟩:=hf c (sub c hc')
   exact ⟨a3,a1,a4,a5⟩
  ·obtain ⟨o,es',ep,ho,r⟩:=hm
   exact ⟨o,es',ep,k1 _ o (fun z => (hf _ (sub _ z)).2.1 rfl) ho,r⟩
  ·refine (I.hok c u e).stay (fun d v' hd q => k1 d v' ?_ q) (fun _ q => q) fun _ _ q => q
   rcases hd with z | z
   ·rw [z]; exact nit c u e
   ·exact nit d _ z
 self:=fun _ _ _ _ _ st h => by
  obtain ⟨⟨f0,f1,hz,_⟩,_⟩:=st
  exact zhj hz h
def iZq (Sq1 Sq2 : Hp → Addr → List V → Prop) (ta : TA) : TI:=fun σ H R => ta σ H fun vs H1 => ∃ a b xs ys,vs = [.ref a,.ref b] ∧ Sq1 H1 a xs ∧ Sq2 H1 b ys ∧ R (zlY Sq1 Sq2 a b) H1
theorem zjm {X : Cx} {es : List Expr} {k : Nat} {tpos p pos : Pos} {a b : Expr} {ta : TA} (hg : Gl X "zip") (hm : X.mg "zip" = none) (ha : PA X [a,b] ta) (hs : starEach [a,b] X.env = [(false,eval a X.env),(false,eval b X.env)]:=by rfl) (hs2 : starEach [b] X.env = [(false,eval b X.env)]:=by rfl) :
  PI X (.Tuple es k tpos) (.Call (.Name "zip" p) [a,b] [] pos) (iZq (SqT X.K) (SqL X.K) ta):=by
 intro pins s σ H R I h
 refine Call_ (zbh I hg hm boot_zip (PyProof.Rows.callWith_type1 (thn (ha pos pins s σ H _ I h) fun us s1 ⟨vs,H1,I1,r1,q1⟩ => ?_) (by rw [hs,hs2]) (by rw [hs2]; rfl)))
 obtain ⟨l1,l2,xs,ys,e,hq1,hq2,q⟩:=q1
 subst e
 cases r1 with
 | cons r rr =>
  cases rr with
  | cons r' rr =>
   cases rr
   cases r
   cases r'
   obtain ⟨its1,rv1,pl1,hz1⟩:=I1.tuple hq1
   obtain ⟨its2,rv2,pl2,hz2⟩:=I1.list hq2
   have hlt1 : l1 < s1.heap.objs.size:=by obtain ⟨_,e,_⟩:=pl1; exact Heap.lt_size e
   have hlt2 : l2 < s1.heap.objs.size:=by obtain ⟨_,_,e,_⟩:=pl2; exact Heap.lt_size e
   refine zdV (show s1.heap.IsTuple l1 its1.toArray from pl1) pl2.isList fun h' n hn b1 b2 b3 b4 b5 b6 kk => ?_
   have I2 : Inv X pins σ H1 { s1 with heap:=h' }:=I1.kept (t':=s1.toks) kk
   refine zhj b1 ?_
   refine ⟨_,zep n,zmL n l1 l2,zlY (SqT X.K) (SqL X.K) l1 l2,H1,rfl,I2,zjl l1 l2 n (by rw [hn]; exact hlt1) (by rw [hn]; exact hlt2),⟨⟨_,_,b1,.inl rfl,_,rfl⟩,b2,⟨_,_,b3⟩,b4,b5⟩,fun c hc => ?_,q⟩
   have hle : s1.heap.objs.size ≤ c:=by
    simp only [zep,List.mem_cons,List.not_mem_nil,or_false] at hc
    rw [← hn]
    rcases hc with z | z | z | z | z <;> subst z
    all_goals first | exact Nat.le_add_right _ _ | exact Nat.le_refl _
   exact I1.fpOk hle (I1.hok.fresh hle)
end L2
end
section
set_option maxHeartbeats 3999000
namespace L2
open PySem PySem.Spec PyProof.Rows
end L2
end
section
set_option maxHeartbeats 3999000
namespace L2
open PySem PySem.Spec PyProof.Rows
section
variable {prog : Program} {w : World} {A : Around} {h : Heap} {g : Array GenState} {d : Drawn} {tk : Nat} {os : OsState} {K : PySem.W.Frag} {x C : Addr} {E : Value → Shared → Prop}
end
end L2
end
section
set_option maxHeartbeats 3999000
namespace L2
open PySem PySem.Spec PyProof.Rows
end L2
end
section
set_option maxHeartbeats 3999000
namespace L2
open PySem PySem.Spec PyProof.Rows
end L2
end
section
set_option maxHeartbeats 3999000
namespace L2
open PySem PySem.Spec PyProof.Rows
section
variable {P : Program} {w : World} {outer : List Env} {H H' : Hp} {h h' B : Heap} {e C : Addr}
theorem zlZ {o : HO} {a : Addr} (x : zab P w H h a o) : ∃ ob,h.get? a = some ob:=by
 cases o with
 | lst xs => obtain ⟨_,_,_,_,e⟩:=x; exact ⟨_,e⟩
 | tup xs => obtain ⟨_,_,_,o,e,_⟩:=x; exact ⟨_,e⟩
 | dK kvs => obtain ⟨_,_,_,_,o,_,_,e,_⟩:=x; exact ⟨_,e⟩
 | dT kvs => obtain ⟨_,_,_,_,o,_,_,e,_⟩:=x; exact ⟨_,e⟩
 | set S n => obtain ⟨o,_,_,_,e,_⟩:=x; exact ⟨_,e⟩
 | ins C dx fs => obtain ⟨_,_,_,e,_⟩:=x; exact ⟨_,e⟩
 | own y => obtain ⟨_,e⟩:=x; exact ⟨_,e⟩
 | xd fs => obtain ⟨_,⟨_,_,_,e,_⟩,_⟩:=x; exact ⟨_,e⟩
 | rng lo hi => obtain ⟨_,_,_,e⟩:=x; exact ⟨_,e⟩
 | frz ob u => obtain ⟨e,_⟩:=x; exact ⟨_,e⟩
 | tbl ps => exact ⟨_,(show h.get? a = some _ from x)⟩
 | met f y => exact ⟨_,(show h.get? a = some _ from x)⟩
 | ext φ => obtain ⟨_,⟨_,e⟩,_⟩:=x; exact ⟨_,e⟩
end
section
variable {X : Cx} {σ : St} {H : Hp} {s : Shared} {pins : List (Addr × Obj)}
end
section
variable {P : Program} {w : World} {K : PySem.W.Frag} {mg : Str → Option Value} {base : Heap} {N : List Str} {qual : Str} {scope : Scope} {f : Addr} {cd : Value} {A : Around} {outer : List Env} {s₀ : Shared} {H₀ : Hp} {E : XK}
end
section
variable {X : Cx} {x : Str} {C : Addr} {e : Expr} {te : TE} {np cpos pos : Pos} {E : XK}
end
end L2
end
section
set_option maxHeartbeats 3999000
namespace L2
open PySem PySem.Spec PyProof.Rows
section
variable {X : Cx} {pins : List (Addr × Obj)} {σ : St} {CX : CXT} {k : Nat} {f C : Addr} {fd : FuncData} {ps : List Str} {sp : Sp} {dvs : List V} {ds : List Value} {E : XK} {x m : Str} {p pos apos : Pos} {e o : Expr} {es : List Expr} {ta te : TE} {t : TA}
end
section
variable {X : Cx} {σ : St} {H : Hp} {s : Shared} {pins : List (Addr × Obj)}
end
section
variable {X : Cx} {pins : List (Addr × Obj)} {σ : St} {H : Hp} {s : Shared} {e : Addr}
end
end L2
end
section
set_option maxHeartbeats 3999000
namespace L2
open PySem PySem.Spec PyProof.Rows
section
variable {X : Cx} {x n : Str} {S : Addr} {i : Nat} {body suite : List Stmt} {b₀ : Stmt} {tb : XK → TS} {th : TS} {np hpos pos : Pos}
end
end L2
end
section
set_option maxHeartbeats 3999000
namespace L2
open PySem PySem.Spec PyProof.Rows
section
variable {P : Program} {w : World} {K : PySem.W.Frag} {mg : Str → Option Value} {base : Heap}
end
section
variable {X : Cx} {k : Nat} {f : Addr} {fd : FuncData} {ps : List Str} {sp : Sp} {x : Str} {p pos : Pos} {e : Expr} {es : List Expr} {t : TA}
end
end L2
end
section
set_option maxHeartbeats 3999000
namespace L2
open PySem PySem.Spec PyProof.Rows
section
variable {X : Cx}
end
section
variable {X : Cx} {tg : Expr}
end
end L2
end
section
set_option maxHeartbeats 3999000
namespace L2
open PySem PySem.Spec PyProof.Rows
section
variable {κ : Type} [DecidableEq κ]
def zgM (kvs : List (κ × V)) (k : κ) : Option V:=(kvs.find? fun kv => decide (kv.1 = k)).map (·.2)
def putK (kvs : List (κ × V)) (k : κ) (v : V) : List (κ × V) :=
 if (kvs.any fun kv => decide (kv.1 = k)) = true then kvs.map (fun kv => if kv.1 = k then (kv.1,v) else kv) else kvs ++ [(k,v)]
theorem zf1 {p : κ × V} {r : List (κ × V)} {k : κ} (e : p.1 = k) : zgM (p :: r) k = some p.2:=by simp [zgM,List.find?_cons,e]
theorem zf2 {p : κ × V} {r : List (κ × V)} {k : κ} (e : ¬ p.1 = k) : zgM (p :: r) k = zgM r k:=by simp [zgM,List.find?_cons,e]
theorem zf3 (k : κ) : ∀ kvs : List (κ × V),(kvs.any fun kv => decide (kv.1 = k)) = (zgM kvs k).isSome
 | [] => rfl
 | p :: r => by
  rw [List.any_cons]
  by_cases e : p.1 = k
  ·simp only [zf1 e,decide_eq_true e,Bool.true_or,Option.isSome_some]
  ·rw [zf2 e,decide_eq_false e,Bool.false_or]; exact zf3 k r
theorem zdi (kvs : List (κ × V)) (k : κ) (v : V) : (putK kvs k v).length ≤ kvs.length + 1:=by
 unfold putK
 split
 ·rw [List.length_map]; omega
 ·rw [List.length_append,List.length_cons,List.length_nil]; omega
theorem zhX.isSome_eq {o : Option V} {u : Option Value} (r : zhX o u) : o.isSome = u.isSome:=by
 cases o with
 | none => cases u with
  | none => rfl
  | some _ => exact (show False from r).elim
 | some _ => cases u with
  | none => exact (show False from r).elim
  | some _ => rfl
theorem KV.any {kvs : List (κ × V)} {vs : List (κ × Value)} (r : KV kvs vs) (k : κ) : (kvs.any fun kv => decide (kv.1 = k)) = vs.any fun kv => decide (kv.1 = k):=by
 unfold KV at r
 induction r with
 | nil => rfl
 | cons h t ih => rw [List.any_cons,List.any_cons,ih,h.1]
theorem KV.repl {kvs : List (κ × V)} {vs : List (κ × Value)} (r : KV kvs vs) (k : κ) {y : V} {u : Value} (ry : RelV y u) :
  KV (kvs.map fun kv => if kv.1 = k then (kv.1,y) else kv) (vs.map fun kv => if kv.1 = k then (kv.1,u) else kv):=by
 unfold KV at r ⊢
 induction r with
 | nil => exact .nil
 | @cons p q ps qs h t ih =>
  rw [List.map_cons,List.map_cons]
  refine .cons ?_ ih
  obtain ⟨h1,h2⟩:=h
  by_cases e : p.1 = k
  ·rw [if_pos e,if_pos (h1.symm.trans e)]; exact ⟨h1,ry⟩
  ·rw [if_neg e,if_neg (fun z => e (h1.trans z))]; exact ⟨h1,h2⟩
theorem KV.put {kvs : List (κ × V)} {vs : List (κ × Value)} (r : KV kvs vs) (k : κ) {y : V} {u : Value} (ry : RelV y u) : KV (putK kvs k y) (stored vs k u):=by
 unfold putK stored
 rw [r.any k]
 by_cases e : (vs.any fun kv => decide (kv.1 = k)) = true
 ·rw [if_pos e,if_pos e]; exact r.repl k ry
 ·rw [if_neg e,if_neg e]; exact Paired.snoc r ⟨rfl,ry⟩
theorem KV.length {kvs : List (κ × V)} {vs : List (κ × Value)} (r : KV kvs vs) : kvs.length = vs.length:=Paired.length r
end
theorem zlm {P : Program} {w : World} {k : Key} {u : Value} (r : RelV (kV k) u) : (zau P w).is k u = true:=by
 cases k with
 | inl i => obtain ⟨t,e⟩:=(show ∃ t,u = Value.int i t from r); subst e; exact zfD P w i t
 | inr x => obtain ⟨t,e⟩:=(show ∃ t,u = Value.str x t from r); subst e; exact zfE P w x t
theorem zeQ {P : Program} {w : World} : ∀ {ks : List Key} {us : List Value},zJ (ks.map kV) us → ItemsAre (zau P w) ks us
 | [],_,r => by rw [List.map_nil] at r; cases r; exact .nil
 | k :: ks,_,r => by
  rw [List.map_cons] at r
  cases r with
  | cons h t => exact .cons (zlm h) (zeQ t)
abbrev KT (H : Hp) : List (List Key × V) → List (List Key × Addr × Value) → Prop:=Paired fun p q => p.1 = q.1 ∧ H q.2.1 = some (.tup (p.1.map kV)) ∧ RelV p.2 q.2.2
theorem KT.val {H : Hp} {kvs : List (List Key × V)} {xs : List (List Key × Addr × Value)} (r : KT H kvs xs) (k : List Key) : zhX (zgM kvs k) ((atKey xs k).map (·.2)):=by
 induction r with
 | nil => exact True.intro
 | @cons p q ps qs h t ih =>
  obtain ⟨h1,_,h2⟩:=h
  by_cases e : p.1 = k
  ·have e' : q.1 = k:=h1.symm.trans e
   have b : atKey (q :: qs) k = some q.2:=by simp [atKey,List.find?_cons,e']
   rw [zf1 e,b]; exact h2
  ·have e' : ¬ q.1 = k:=fun z => e (h1.trans z)
   have b : atKey (q :: qs) k = atKey qs k:=by simp [atKey,List.find?_cons,e']
   rw [zf2 e,b]; exact ih
theorem KT.repl {H : Hp} {kvs : List (List Key × V)} {xs : List (List Key × Addr × Value)} (r : KT H kvs xs) (k : List Key) {y : V} {u : Value} (ry : RelV y u) :
  KT H (kvs.map fun kv => if kv.1 = k then (kv.1,y) else kv) (xs.map (putAt k u)):=by
 induction r with
 | nil => exact .nil
 | @cons p q ps qs h t ih =>
  rw [List.map_cons,List.map_cons]
  refine .cons ?_ ih
  obtain ⟨h1,h2,h3⟩:=h
  unfold putAt
  by_cases e : p.1 = k
  ·rw [if_pos e,if_pos (h1.symm.trans e)]; exact ⟨h1,h2,ry⟩
  ·rw [if_neg e,if_neg (fun z => e (h1.trans z))]; exact ⟨h1,h2,h3⟩
theorem KT.put {H : Hp} {kvs : List (List Key × V)} {xs : List (List Key × Addr × Value)} (r : KT H kvs xs) (k : List Key) {b : Addr} {y : V} {u : Value} (hb : H b = some (.tup (k.map kV))) (ry : RelV y u) :
  KT H (putK kvs k y) (storedH xs k b u):=by
 have e : (kvs.any fun kv => decide (kv.1 = k)) = (atKey xs k).isSome:=by
  rw [zf3,(r.val k).isSome_eq,Option.isSome_map]
 unfold putK storedH
 rw [e]
 by_cases q : (atKey xs k).isSome = true
 ·rw [if_pos q,if_pos q]; exact r.repl k ry
 ·rw [if_neg q,if_neg q]; exact Paired.snoc r ⟨rfl,hb,ry⟩
theorem KT.keeps {H H' : Hp} {kvs : List (List Key × V)} {xs : List (List Key × Addr × Value)} (r : KT H kvs xs) (ht : ∀ b ys,H b = some (.tup ys) → H' b = some (.tup ys)) : KT H' kvs xs :=
 Paired.mapP r fun _ _ z => ⟨z.1,ht _ _ z.2.1,z.2.2⟩
section
variable {P : Program} {w : World} {H : Hp} {h : Heap} {a : Addr}
theorem zln {u : HO} (ok : HOk P w H h) (e : Rd H a u) : zab P w H h a u:=e.ok ok
theorem zmM {kvs : List (Key × V)} (ok : HOk P w H h) (e : Rd H a (.dK kvs)) : kvs.length ≤ sizeLine ∧ (a == sysModules) = false ∧ ∃ vs,KV kvs vs ∧ h.DictOf (zau P w) a vs :=
 show zab P w H h a (.dK kvs) from zln ok e
theorem zmN {kvs : List (Key × V)} (ok : HOk P w H h) (e : H a = some (.dK kvs)) : kvs.length ≤ sizeLine ∧ (a == sysModules) = false ∧ ∃ vs,KV kvs vs ∧ h.DictOf (zau P w) a vs:=zmM ok (.inl e)
theorem zjn {ks : List Key} (ok : HOk P w H h) (e : H a = some (.tup (ks.map kV))) : (tupleKind (zau P w)).is h ks a:=by
 obtain ⟨_,its,r,o,h1,h2,n,h3⟩:=(show zab P w H h a (.tup (ks.map kV)) from ok a _ e)
 exact ⟨o,its.toArray,n,h1,h2,h3,by simpa using zeQ r⟩
theorem zmO {kvs : List (List Key × V)} (ok : HOk P w H h) (e : Rd H a (.dT kvs)) : kvs.length ≤ sizeLine ∧ (a == sysModules) = false ∧
  ∃ xs,KT H kvs xs ∧ h.DictOfH (tupleKind (zau P w)) a xs:=by
 obtain ⟨z,y,xs,r,o,es,ep,h1,h2,h3,h4,h5⟩:=(show zab P w H h a (.dT kvs) from zln ok e)
 refine ⟨z,y,xs,r,o,es,ep,h1,h2,h3,h4,fun x hx => ?_,h5⟩
 have all : ∀ {l : List (List Key × V)} {m : List (List Key × Addr × Value)},KT H l m → ∀ x ∈ m,(tupleKind (zau P w)).is h x.1 x.2.1:=by
  intro l m q
  induction q with
  | nil => intro x hx; exact nomatch hx
  | @cons p q ps qs hq t ih =>
   intro x hx
   rcases List.mem_cons.mp hx with e | hx
   ·subst e
    exact zjn ok (by rw [← hq.1]; exact hq.2.1)
   ·exact ih x hx
 exact all r x hx
theorem zmP {kvs : List (List Key × V)} (ok : HOk P w H h) (e : H a = some (.dT kvs)) : kvs.length ≤ sizeLine ∧ (a == sysModules) = false ∧
  ∃ xs,KT H kvs xs ∧ h.DictOfH (tupleKind (zau P w)) a xs:=zmO ok (.inl e)
end
def zjo (H : Hp) (a : Addr) (y v : V) (H' : Hp) : Prop :=
 (∃ kvs k,H a = some (.dK kvs) ∧ y = kV k ∧ kvs.length < sizeLine ∧ H' = upd H a (.dK (putK kvs k v))) ∨
 ∃ kvs k b,H a = some (.dT kvs) ∧ y = .ref b ∧ H b = some (.tup (k.map kV)) ∧ kvs.length < sizeLine ∧ H' = upd H a (.dT (putK kvs k v))
theorem zjo.t {H : Hp} {a b : Addr} {kvs : List (List Key × V)} {k : List Key} {v : V} (e : H a = some (.dT kvs)) (eb : H b = some (.tup (k.map kV))) (hl : kvs.length < sizeLine) :
  zjo H a (.ref b) v (upd H a (.dT (putK kvs k v))):=.inr ⟨kvs,k,b,e,rfl,eb,hl,rfl⟩
section
variable {X : Cx} {pins : List (Addr × Obj)} {σ : St} {H : Hp} {s : Shared} {a : Addr} {y v : V} {u r : Value} {o : Option V} {A : Around} {E : Value → Shared → Prop}
theorem Inv.big (I : Inv X pins σ H s) : sysModules < s.heap.objs.size:=by
 have h : mainGlobals < s.heap.objs.size:=(I.mod.glob.keeps I.bk).lt
 exact Nat.lt_trans (by decide) h
theorem zhk {h' : Heap} {t' : Nat} {ob : HO} (I : Inv X pins σ H s) (mu : Mut (H a)) (hs : Heap.SameBut a s.heap h') (he : ∃ q,h'.get? a = some q) (new : zab X.prog X.w (upd H a ob) h' a ob) :
  Inv X pins σ (upd H a ob) { s with heap:=h',toks:=t' } :=
 I.write (x:=a) (e:=a) mu (.inl rfl) (fun b q hb z => (hs.2 b hb).trans z) he new
theorem zl0 {P : Program} {w : World} {H' : Hp} {h' : Heap} {kvs : List (Key × V)} {vs : List (Key × Value)} (z : kvs.length ≤ sizeLine) (hd : (a == sysModules) = false) (rel : KV kvs vs) (dd : h'.DictOf (zau P w) a vs) :
  zab P w H' h' a (.dK kvs):=⟨z,hd,vs,rel,dd⟩
theorem zil {H' : Hp} {Q : Unit → Shared → Prop} (hu : A.units + 1 < cLine) (I : Inv X pins σ H s) (g : zjo H a y v H') (ry : RelV y u) (rv : RelV v r) (h : ∀ s',Inv X pins σ H' s' → Q () s') :
  wpAny (model X.prog X.w) A (setItem (.ref a) u r) Q E s:=by
 rcases g with ⟨kvs,k,e,ey,l,eH⟩ | ⟨kvs,k,b,e,ey,eb,l,eH⟩
 ·subst ey eH
  obtain ⟨z,hd,vs,rel,dd⟩:=zmN I.hok e
  have hz : vs.length ≤ sizeLine:=by rw [← rel.length]; exact z
  have hl : (putK kvs k v).length ≤ sizeLine:=by have:=zdi kvs k v; omega
  refine wpAny_setItem_pairs (hsz:=hz) (zlm ry) dd fun h' dd' hs => h _ ?_
  have he : ∃ q,h'.get? a = some q:=let ⟨q,_,_,hq,_⟩:=dd'; ⟨q,hq⟩
  exact zhk I (by rw [e]; exact True.intro) hs he (zl0 hl hd (rel.put k rv) dd')
 ·subst ey eH
  cases (show u = Value.ref b from ry)
  obtain ⟨z,hd,xs,rel,dd⟩:=zmP I.hok e
  have hz : xs.length ≤ sizeLine:=by rw [← Paired.length rel]; exact z
  have hl : (putK kvs k v).length ≤ sizeLine:=by have:=zdi kvs k v; omega
  refine wpAny_setItem_heap (hsz:=hz) (tupleKind_room_in1 hu) (zjn I.hok eb) dd fun h' dd' hs => h _ ?_
  obtain ⟨q,es,ep,hq,h2,h3,h4,_,h5⟩:=dd'
  refine zhk I (by rw [e]; exact True.intro) hs ⟨q,hq⟩ ⟨hl,hd,_,(rel.put k eb rv).keeps fun c ys ec => ?_,q,es,ep,hq,h2,h3,h4,h5⟩
  rw [zr (zml ec e (fun z => nomatch z))]
  exact ec
end
section
variable {X : Cx} {pins : List (Addr × Obj)} {σ : St} {H : Hp} {s : Shared} {a : Addr} {kvs : List (Key × V)} {k : Key} {u : Value} {A : Around} {E : Value → Shared → Prop}
end
def zmQ (td ty tv : TE) : TS:=fun D σ H => tv σ H fun v H1 => td σ H1 fun x H2 => ty σ H2 fun y H3 => ∃ a H4,x = .ref a ∧ zjo H3 a y v H4 ∧ D.nx σ H4
section
variable {X : Cx} {o i e value : Expr} {pos pos' tpos : Pos} {td ty tv : TE}
theorem zky (hu : X.A.units + 1 < cLine) (ho : PE X o td) (hi : PE X i ty) (hv : PE X value tv) (hs : swapsWith value (some (.Subscript o i pos')) pos.line X.env = pure false) :
  PS X (.Assign [.Subscript o i pos'] value pos) (zmQ td ty tv):=by
 intro pins s σ H D I h
 refine wpAny_Assign_Subscript (thn (hv pins s σ H _ I h) fun r s1 ⟨v,H1,I1,rv,q1⟩ => thn (ho pins s1 σ H1 _ I1 q1) fun u s2 ⟨x,H2,I2,rx,q2⟩ => thn (hi pins s2 σ H2 _ I2 q2) fun iv s3 ⟨y,H3,I3,ry,a,H4,ex,g,q3⟩ => ?_) hs
 subst ex
 obtain rfl : u = Value.ref a:=rx
 exact zil hu I3 g ry rv fun s4 I4 => ⟨σ,H4,I4,q3⟩
end
theorem zjp {P : Program} {w : World} {H : Hp} (h : Heap) (hb : sysModules < h.objs.size) : zab P w H (h.push { cls:=.type "dict",data:=.dict #[] }) h.objs.size (.dT []) :=
 ⟨Nat.zero_le _,beq_eq_false_iff_ne.mpr (Ne.symm (Nat.ne_of_lt hb)),[],.nil,_,#[],0,Heap.get?_push_size _ rfl,⟨rfl,rfl,rfl⟩,rfl,rfl,List.nodup_nil⟩
def zl1 : TE:=fun _ H Q => ∀ p,H p = none → Q (.ref p) (upd H p (.dT []))
section
variable {X : Cx} {pos : Pos}
theorem zjq : PE X (.Dict [] [] pos) zl1:=fun pins s σ H Q I h =>
 wpAny_Dict_empty ⟨.ref s.heap.objs.size,_,I.laid (a:=s.heap.objs.size) (o:=.dT []) (t':=s.toks) (fun _ _ q => Heap.get?_push_of_some _ q) (Nat.le_refl _) (zjp s.heap I.big),rfl,h _ (I.hok.fresh (Nat.le_refl _))⟩
end
section
variable {X : Cx} {pins : List (Addr × Obj)} {σ : St} {H : Hp} {s : Shared} {a : Addr} {y d : V} {u r : Value} {o : Option V} {A : Around} {E : Value → Shared → Prop}
end
section
variable {X : Cx} {o e f : Expr} {apos cpos : Pos} {td ty tx : TE}
end
end L2
end
section
set_option maxHeartbeats 3998000
namespace L2
open PySem PySem.Spec PyProof.Rows
end L2
namespace PySem
open PyProof.Rows
section
variable {prog : Program} {w : World} {A : Around} {E : Value → Shared → Prop} {s : Shared}
end
end PySem
namespace L2
open PySem PySem.Spec PyProof.Rows
end L2
end
section
set_option maxHeartbeats 3997000
namespace L2
open PySem PySem.Spec PyProof.Rows
end L2
namespace My
open PySem L2 PyProof.Rows
section
variable {K : PySem.W.Frag}
structure RowAt (K : PySem.W.Frag) (H : Hp) (r : Addr) (n : Nat) (rw : List (Option Int)) : Prop where
 at' : SqL K H r (rw.map enc)
 len : rw.length = n
end
end My
end
section
set_option maxHeartbeats 3999000
namespace L2
open PySem PySem.Spec PyProof.Rows
abbrev TM:=List V → St → Hp → (List V → Hp → Prop) → Prop
abbrev zdn (its : List Value) (nn : Nat) : Obj:={ cls:=.type "list",data:=.seq its.toArray nn }
structure AccAt (Y : Cx) (pins : List (Addr × Obj)) (H : Hp) (s : Shared) (D : Addr) (ys : List V) (its : List Value) (nn : Nat) : Prop where
 fp : zbW Y pins H D
 here : s.heap.get? D = some (zdn its nn)
 vals : zJ ys its
 len : ys.length ≤ sizeLine
def zff (js : List Nat) (σ : St) : Prop:=∀ j ∈ js,∀ v,σ[j]? ≠ some (some v)
def Kp (js : List Nat) (σ σ2 : St) : Prop:=σ2.length = σ.length ∧ ∀ j,j ∉ js → σ2[j]? = σ[j]?
theorem Kp.refl {js : List Nat} {σ : St} : Kp js σ σ:=⟨rfl,fun _ _ => rfl⟩
theorem Kp.set {js : List Nat} {σ σ2 : St} {i : Nat} {v : Option V} (hi : i ∈ js) (h : Kp js σ σ2) : Kp js σ (σ2.set i v):=by
 refine ⟨by rw [List.length_set]; exact h.1,fun j hj => ?_⟩
 rw [List.getElem?_set_ne (fun z => hj (by rw [← z]; exact hi))]
 exact h.2 j hj
def GS (js : List Nat) (g : TG) : Prop:=∀ (σ σ1 : St) (x : V) (H : Hp) (Q : St → Hp → Prop),Kp js σ σ1 → g x σ1 H Q → g x σ1 H fun σ2 H2 => Kp js σ σ2 ∧ Q σ2 H2
def GSs (js : List Nat) (g : TGs) : Prop:=∀ (σ σ1 : St) (xs : List V) (H : Hp) (Q : St → Hp → Prop),Kp js σ σ1 → g xs σ1 H Q → g xs σ1 H fun σ2 H2 => Kp js σ σ2 ∧ Q σ2 H2
theorem zdt {js : List Nat} {i : Nat} (hi : i ∈ js) : GS js (zaC i):=fun σ σ1 x H Q hw h => ⟨hw.set hi,h⟩
theorem zhl {js : List Nat} : GSs js zh0:=fun σ σ1 xs H Q hw h => ⟨h.1,hw,h.2⟩
theorem zdX {js : List Nat} {i : Nat} {u : TGs} (hi : i ∈ js) (h2 : GSs js u) : GSs js (zcn (zaC i) u):=fun σ σ1 xs H Q hw h => by
 obtain ⟨v,r,e,h⟩:=h
 exact ⟨v,r,e,h2 σ _ r H Q (hw.set hi) h⟩
theorem zjr {js : List Nat} {K : PySem.W.Frag} {n : Nat} {t : TGs} (h : GSs js t) : GS js (zgu K n t):=fun σ σ1 x H Q hw hg => by
 obtain ⟨a,xs,e,hq,hl,hg⟩:=hg
 exact ⟨a,xs,e,hq,hl,h σ σ1 xs H Q hw hg⟩
theorem Inv.fewer {X : Cx} {pins pins' : List (Addr × Obj)} {σ : St} {H : Hp} {s : Shared} (I : Inv X pins σ H s) (h : ∀ p ∈ pins',p ∈ pins) : Inv X pins' σ H s :=
 I.pins_of fun p hp => I.pin p (List.mem_append_right _ (h p hp))
section
variable {Y : Cx} {pins : List (Addr × Obj)} {σ : St} {H : Hp} {s : Shared} {D : Addr} {ys : List V} {its : List Value} {nn : Nat}
theorem AccAt.pin (a : AccAt Y pins H s D ys its nn) (I : Inv Y pins σ H s) : Inv Y (pins ++ [(D,zdn its nn)]) σ H s :=
 I.pins_of fun p hp => by
  rcases (List.mem_append.mp hp) with hp | hp
  ·exact I.pin p (List.mem_append_right _ hp)
  ·obtain rfl : p = (D,zdn its nn):=by simpa using hp
   obtain ⟨a0,a1,a2,_⟩:=a.fp
   exact ⟨a.here,a0,a1,a2,fun v z => by cases z⟩
theorem AccAt.back {pins' : List (Addr × Obj)} {σ' : St} {H' : Hp} {s' : Shared} (a : AccAt Y pins H s D ys its nn) (I : Inv Y pins' σ' H' s') (hm : (D,zdn its nn) ∈ pins') : AccAt Y pins H' s' D ys its nn:=by
 have p:=I.pin (D,zdn its nn) (List.mem_append_right _ hm)
 exact ⟨⟨p.2.1,a.fp.2⟩,p.1,a.vals,a.len⟩
end
def PM (Y : Cx) (D : Addr) (js : List Nat) (mk : Sem Fin → Sem Fin) (tm : TM) : Prop :=
 ∀ (last : Sem Fin) (pins : List (Addr × Obj)) (s : Shared) (σ : St) (H : Hp) (ys : List V) (its : List Value) (nn : Nat) (Q : List V → Hp → Prop) (Φ : Fin → Shared → Prop),Inv Y pins σ H s → AccAt Y pins H s D ys its nn → zff js σ → tm ys σ H Q →
  (∀ (s' : Shared) (ys' : List V) (its' : List Value) (nn' : Nat) (H' : Hp),Inv Y pins σ H' s' → AccAt Y pins H' s' D ys' its' nn' → Q ys' H' → wpAny (model Y.prog Y.w) Y.A last Φ (fun _ _ => False) s') →
  wpAny (model Y.prog Y.w) Y.A (mk last) Φ (fun _ _ => False) s
def zeR (elt : Expr) (acc : Value) (env : Env) (last : Sem Fin) : Sem Fin:=(eval elt env >>= fun x => call (.builtin "list.append") [acc,x] >>= fun _ => pure ()) >>= fun _ => last
def zhm (e iter : Expr) (d : Nat) (acc : Value) (env : Env) (last : Sem Fin) : Sem Fin :=
 eval iter env >>= fun x => standAt iter.pos >>= fun _ => foldedSetIterable iter env x >>= fun x => holding [x] (pyIter x) >>= fun itv => runOwn (.compStart e d itv acc env) env >>= fun _ => last
def zhn (te : TE) : TM:=fun ys σ H Q => te σ H fun y H4 => ys.length < sizeLine ∧ Q (ys ++ [y]) H4
def cIn (g : TG) (ts : TT) (tm : TM) (σ : St) (J : It) (Q : List V → Hp → Prop) (ys : List V) (H1 : Hp) : Prop :=
 ∃ W : Nat → Nat → List V → Hp → Prop,(∃ m,W 0 m ys H1) ∧ ∀ i m ys H,W i m ys H →
  (J.stop i H ∧ Q ys H) ∨
  (J.go i H ∧ ∃ N : List V → Hp → Prop,(∀ ys' H',N ys' H' → ∃ m',m' < m ∧ W (i + 1) m' ys' H') ∧ ∀ x H',J.yld i H x H' → g x σ H' fun σ2 H2 => ts σ2 H2 fun b H3 =>
   if b = true then tm ys σ2 H3 N else N ys H3)
def zho (wi : TI) (g : TG) (ts : TT) (tm : TM) : TM:=fun ys σ H Q => wi σ H fun J H1 => cIn g ts tm σ J Q ys H1
def zfg (ix : List (Option Nat)) (wi : TI) (g : TG) (ts : TT) (tm : TM) : TE:=fun σ H Q => wi σ H fun J H1 => cIn g ts tm (zcF ix σ) J (fun ys H' => ∀ D,H' D = none → Q (.ref D) (upd H' D (.lst ys))) [] H1
theorem thx {α : Type} {X : Cx} {m : Sem α} {P Q : α → Shared → Prop} {E : Value → Shared → Prop} {s : Shared} (hx : X.xe = fun _ _ => False) (h : wpAny (model X.prog X.w) X.A m P X.xe s) (k : ∀ a s',P a s' → Q a s') : wpAny (model X.prog X.w) X.A m Q E s :=
 wpAny_mono h k fun _ _ z => by rw [hx] at z; exact z.elim
theorem zgN {Y : Cx} {D : Addr} {elt : Expr} {te : TE} (hx : Y.xe = fun _ _ => False) (he : PE Y elt te) : PM Y D [] (zeR elt (.ref D) Y.env) (zhn te):=by
 intro last pins s σ H ys its nn Q Φ I a no h k
 unfold zeR
 refine wpAny_bind (wpAny_bind (thx hx (he (pins ++ [(D,zdn its nn)]) s σ H _ (a.pin I) h) fun yv s1 ⟨y,H1,I1,r1,hz,q1⟩ => wpAny_bind ?_))
 have a1:=a.back I1 (List.mem_append_right _ List.mem_cons_self)
 have J1 : Inv Y pins σ H1 s1:=I1.fewer fun p hp => List.mem_append_left _ hp
 have hvl:=a1.vals.length
 refine call_meets F.slot_list_append ⟨_,a1.here,rfl⟩ F.entry_list_append (F.args_list_append_2 _ _) (PySem.list_append D its.toArray nn yv (by rw [List.size_toArray]; omega)) ⟨a1.here,?_⟩
 refine wpAny_pure ?_
 have q:=PySem.IsL.update a1.here (·.push yv)
 have k10 : ∀ b o,b ≠ D → s1.heap.get? b = some o → (s1.heap.update D (Obj.mapSeq (·.push yv))).get? b = some o:=fun b o hb e => (Heap.get?_update_other s1.heap (Obj.mapSeq (·.push yv)) (Ne.symm hb)).trans e
 obtain ⟨b0,b1,b2,b3,b4,b5⟩:=a1.fp
 have I11 : Inv Y pins σ H1 { s1 with heap:=s1.heap.update D (Obj.mapSeq (·.push yv)) }:=J1.turned (t':=s1.toks) k10 b0 b1 b3 b4 b5
 have e1 : its.toArray.push yv = (its ++ [yv]).toArray:=by simp
 rw [e1] at q
 refine k _ (ys ++ [y]) (its ++ [yv]) _ H1 I11 ⟨a1.fp,q,a1.vals.append (.cons r1 .nil),?_⟩ q1
 rw [List.length_append,List.length_singleton]
 omega
section
variable {Y : Cx} {D : Addr} {js js' : List Nat} {elt : Expr} {gens : List Comprehension} {scope : Scope} {pos : Pos} {d : Nat} {tg : Expr} {ifs : List Expr} {p : Pos} {mk : Sem Fin → Sem Fin} {g : TG} {ts : TT} {tm : TM}
def zbG (tg : Expr) (ifs : List Expr) (p : Pos) (mk : Sem Fin → Sem Fin) (c : Code) (it : Value) (env : Env) : Sem Fin :=
 standAt p >>= fun _ => pyNext it >>= fun r => match r with
  | none => pure (.done .next)
  | some v => letOwnedTupleGo tg it v >>= fun _ => assign tg env v >>= fun _ => zgC ifs env >>= fun ok => if ok = true then mk (again c) else again c
theorem zhp (hc : Y.calm = true) (hx : Y.xe = fun _ _ => False) (hgs : GS js g) (hdis : ∀ j ∈ js,j ∉ js') (hg : PG Y tg g) (ht : zcE Y ifs ts) (hm : PM Y D js' mk tm)
  (hturn : ∀ it,compTurn (.ListComp elt gens scope pos) d it (.ref D) Y.env = zbG tg ifs p mk (.compLoop (.ListComp elt gens scope pos) d it (.ref D) Y.env) it Y.env)
  {pins : List (Addr × Obj)} {σ : St} {H2 : Hp} {s2 : Shared} {it : Addr} {fp : List Addr} {tn : Nat → Heap → Prop} {J : It} {Q : List V → Hp → Prop} {R : Result → Shared → Prop} {ys : List V} {its : List Value} {nn : Nat}
  (I2 : Inv Y pins σ H2 s2) (a2 : AccAt Y pins H2 s2 D ys its nn) (no : zff (js ++ js') σ) (T : Turn Y.prog Y.w Y.K tg J fp it tn) (st2 : tn 0 s2.heap) (f2 : ∀ b ∈ fp,zbW Y pins H2 b) (fD : ∀ b ∈ fp,b ≠ D) (q : cIn g ts tm σ J Q ys H2)
  (hR : ∀ (s' : Shared) (ys' : List V) (its' : List Value) (nn' : Nat) (H' : Hp),Inv Y pins σ H' s' → AccAt Y pins H' s' D ys' its' nn' → Q ys' H' → R (.ok .next) s') :
  codeAny (model Y.prog Y.w) Y.A (.compLoop (.ListComp elt gens scope pos) d (.ref it) (.ref D) Y.env) R s2:=by
 obtain ⟨W,⟨m0,w0⟩,turn⟩:=q
 have fpY : ∀ {H' : Hp} {its : List Value} {nn : Nat},(∀ b ∈ fp,H' b = none) → ∀ b ∈ fp,zbW Y (pins ++ [(D,zdn its nn)]) H' b:=fun {H' its nn} hn b hb => by
  obtain ⟨_,a1,a2,a3,a4,a5⟩:=f2 b hb
  refine ⟨hn b hb,a1,a2,a3,a4,fun p hp => ?_⟩
  rcases (List.mem_append.mp hp) with hp | hp
  ·exact a5 p (List.mem_append_left _ hp)
  ·rcases (List.mem_append.mp hp) with hp | hp
   ·exact a5 p (List.mem_append_right _ hp)
   ·obtain rfl : p = (D,zdn its nn):=by simpa using hp
    exact (fD b hb).symm
 refine codeAny_loop rfl (fun n s' => ∃ i ys H' its nn,Inv Y pins σ H' s' ∧ tn i s'.heap ∧ (∀ b ∈ fp,H' b = none) ∧ AccAt Y pins H' s' D ys its nn ∧ W i n ys H') ?_ m0
  ⟨0,ys,H2,its,nn,I2,st2,fun b hb => (f2 b hb).1,a2,w0⟩
 rintro n s5 ⟨i,ys,H5,its,nn,I5,st5,fr5,a5,w5⟩
 show wpAny _ Y.A ((compTurn (.ListComp elt gens scope pos) d (.ref it) (.ref D) Y.env).onRaise (fun x => do noteFrame x Y.env; theTreesLotGoes x)) _ _ s5
 refine wpAny_noted ?_
 rw [hturn]
 unfold zbG
 have I5p:=a5.pin I5
 (refine wpAny_bind (wpAny_standAt (wpAny_bind ?_)))
 rcases turn i n ys H5 w5 with ⟨stop,qn⟩ | ⟨go,N,hN,step⟩
 ·refine wpAny_mono (T.done Y rfl rfl rfl hc i _ s5 _ H5 (fun _ _ => False) I5p (fpY fr5) st5 stop) (fun r s6 ⟨hr,I6⟩ => ?_) fun _ _ z => z.elim
  subst hr
  exact wpAny_pure (hR s6 ys its nn H5 (I6.fewer fun p hp => List.mem_append_left _ hp) (a5.back I6 (List.mem_append_right _ List.mem_cons_self)) qn)
 ·refine wpAny_mono (T.item Y rfl rfl rfl hc i _ s5 _ H5 (fun _ _ => False) I5p (fpY fr5) st5 go) (fun r s6 ⟨u,hr,h6⟩ => ?_) fun _ _ z => z.elim
  subst hr
  refine wpAny_bind (wpAny_mono h6 (fun _ s7 ⟨x,H7,I7,r7,y7,st7,fr7⟩ => ?_) fun _ _ z => z.elim)
  have I7':=I7.pinned (fpY fr7) (T.obj _ _ st7)
  refine wpAny_bind (thx hx (hg _ s7 _ H7 x u _ I7' r7 (hgs σ σ x H7 _ Kp.refl (step x H7 y7))) fun _ s8 ⟨σ8,H8,I8,kp,q8⟩ => ?_)
  refine wpAny_bind (thx hx (ht _ s8 σ8 H8 _ I8 q8) fun ok s9 ⟨H9,I9,q9⟩ => ?_)
  have mD : (D,zdn its nn) ∈ (pins ++ [(D,zdn its nn)]) ++ zbX fp s7.heap:=List.mem_append_left _ (List.mem_append_right _ List.mem_cons_self)
  have a9:=a5.back I9 mD
  have K9 : Inv Y (pins ++ zbX fp s7.heap) σ8 H9 s9:=I9.fewer fun p hp => (List.mem_append.mp hp).elim (fun z => List.mem_append_left _ (List.mem_append_left _ z)) fun z => List.mem_append_right _ z
  have wk : ∀ (j : Nat) v,σ[j]? = some (some v) → σ8[j]? = some (some v):=fun j v e => by
   have hj : j ∉ js:=fun z => no j (List.mem_append_left _ z) v e
   rw [kp.2 j hj]
   exact e
  have back : ∀ {H' : Hp} {s' : Shared},Inv Y (pins ++ zbX fp s7.heap) σ8 H' s' → Inv Y pins σ H' s' ∧ tn (i + 1) s'.heap ∧ ∀ b ∈ fp,H' b = none:=fun {H' s'} I' => by
   refine ⟨(I'.fewer fun p hp => List.mem_append_left _ hp).weak kp.1.symm wk,T.keep _ _ _ st7 fun b hb o e => (I'.pin (b,o) (List.mem_append_right _ (List.mem_append_right _ (zbB hb e)))).1,fun b hb => ?_⟩
   obtain ⟨o,e,d⟩:=T.obj _ _ st7 b hb
   exact (I'.pin (b,o) (List.mem_append_right _ (List.mem_append_right _ (zbB hb e)))).2.1
  cases ok with
  | false =>
   rw [if_neg Bool.false_ne_true] at q9 ⊢
   obtain ⟨m',hm',w9⟩:=hN _ _ q9
   obtain ⟨b1,b2,b3⟩:=back K9
   exact wpAny_pure ⟨rfl,m',hm',i + 1,ys,H9,its,nn,b1,b2,b3,a9,w9⟩
  | true =>
   rw [if_pos rfl] at q9 ⊢
   have a9' : AccAt Y (pins ++ zbX fp s7.heap) H9 s9 D ys its nn:=by
    obtain ⟨b0,b1,b2,b3,b4,b5⟩:=a9.fp
    refine ⟨⟨b0,b1,b2,b3,b4,fun p hp => ?_⟩,a9.here,a9.vals,a9.len⟩
    rcases (List.mem_append.mp hp) with hp | hp
    ·exact b5 p (List.mem_append_left _ hp)
    ·rcases (List.mem_append.mp hp) with hp | hp
     ·exact b5 p (List.mem_append_right _ hp)
     ·exact fD _ (zex hp).1
   have no' : zff js' σ8:=fun j hj v e => by
    have hj' : j ∉ js:=fun z => hdis j z hj
    rw [kp.2 j hj'] at e
    exact no j (List.mem_append_right _ hj) v e
   refine wpAny_mono (hm (again _) _ s9 σ8 H9 ys its nn N (fun fin s' => match fin with | .done f => R (.ok f) s' | .again c' => c' = _ ∧ ∃ m,m < n ∧ _) K9 a9' no' q9 fun s' ys' its' nn' H' I' a' n' => ?_) (fun _ _ z => z) fun _ _ z => z.elim
   obtain ⟨m',hm',w'⟩:=hN _ _ n'
   obtain ⟨b1,b2,b3⟩:=back I'
   obtain ⟨c0,c1,c2,c3,c4,c5⟩:=a'.fp
   refine wpAny_pure ⟨rfl,m',hm',i + 1,ys',H',its',nn',b1,b2,b3,⟨⟨c0,c1,c2,c3,c4,fun p hp => ?_⟩,a'.here,a'.vals,a'.len⟩,w'⟩
   rcases (List.mem_append.mp hp) with hp | hp
   ·exact c5 p (List.mem_append_left _ hp)
   ·exact c5 p (List.mem_append_right _ (List.mem_append_left _ hp))
theorem zf4 {prog : Program} {w : World} {A : Around} {R : Result → Shared → Prop} {s : Shared} {iter : Expr} {it acc : Value} {env : Env} (hd : gens[d]? = some ⟨tg,iter,ifs,0⟩)
  (h0 : codeAny (model prog w) A (.compLoop (.ListComp elt gens scope pos) d it acc env) R s)
  (h : wpAny (model prog w) A (pyIter it) (fun it' s' => codeAny (model prog w) A (.compLoop (.ListComp elt gens scope pos) d it' acc env) R s') (fun _ _ => False) s) :
  codeAny (model prog w) A (.compStart (.ListComp elt gens scope pos) d it acc env) R s:=by
 refine codeAny_of_tree ?_
 show wpAny _ _ ((compStart (.ListComp elt gens scope pos) d it acc env).onRaise (fun x => do noteFrame x env; standAt theWindowsPlace)) _ _ s
 refine wpAny_notedAt ?_
 unfold compStart
 have e1 : (clausesOf (.ListComp elt gens scope pos))[d]? = some ⟨tg,iter,ifs,0⟩:=hd
 rw [e1]
 (show wpAny _ _ (ask >>= _) _ _ s)
 (refine wpAny_bind (wpAny_askSetting (wpAny_ite ?_)))
 split
 ·first
   | (exact wpAny_bind (wpAny_pure (wpAny_pure ⟨rfl,h0⟩)))
   | (exact wpAny_pure ⟨rfl,h0⟩)
 ·first
   | exact wpAny_bind (wpAny_rule (wpAny_bind (wpAny_standAt (wpAny_bind (wpAny_mono h (fun it' s' h' => wpAny_pure (And.intro rfl h')) fun _ _ x => x.elim)))))
   | (refine wpAny_bind (wpAny_rule ?_); show wpAny _ _ (standAt iter.pos >>= _) _ _ s; exact wpAny_bind (wpAny_standAt (wpAny_bind (wpAny_mono h (fun it' s' h' => wpAny_pure (And.intro rfl h')) fun _ _ x => x.elim))))
theorem zl2 {iter : Expr} {wi : TI} (hc : Y.calm = true) (hx : Y.xe = fun _ _ => False) (hgs : GS js g) (hdis : ∀ j ∈ js,j ∉ js') (hi : PI Y tg iter wi) (hg : PG Y tg g) (ht : zcE Y ifs ts) (hm : PM Y D js' mk tm) (hd : gens[d]? = some ⟨tg,iter,ifs,0⟩)
  (hturn : ∀ it,compTurn (.ListComp elt gens scope pos) d it (.ref D) Y.env = zbG tg ifs p mk (.compLoop (.ListComp elt gens scope pos) d it (.ref D) Y.env) it Y.env)
  (hs : ∀ x,foldedSetIterable iter Y.env x = pure x:=by intro _; rfl) :
  PM Y D (js ++ js') (zhm (.ListComp elt gens scope pos) iter d (.ref D) Y.env) (zho wi g ts tm):=by
 intro last pins s σ H ys its nn Q Φ I a no h k
 unfold zhm
 refine wpAny_bind (thx hx (hi (pins ++ [(D,zdn its nn)]) s σ H _ (a.pin I) h) fun v s1 h1 => wpAny_bind (wpAny_standAt (wpAny_bind ?_)))
 rw [hs v]
 refine wpAny_pure (wpAny_bind (wpAny_holding (thx hx h1 fun itv s2 h2 => ?_)))
 obtain ⟨it,fp,tn,J,H2,e,I2,T,st2,f2,q⟩:=h2
 subst e
 have a2:=a.back I2 (List.mem_append_right _ List.mem_cons_self)
 have J2 : Inv Y pins σ H2 s2:=I2.fewer fun p hp => List.mem_append_left _ hp
 have f2' : ∀ b ∈ fp,zbW Y pins H2 b:=fun b hb => by
  obtain ⟨c0,c1,c2,c3,c4,c5⟩:=f2 b hb
  refine ⟨c0,c1,c2,c3,c4,fun p hp => ?_⟩
  rcases (List.mem_append.mp hp) with hp | hp
  ·exact c5 p (List.mem_append_left _ hp)
  ·exact c5 p (List.mem_append_right _ (List.mem_append_left _ hp))
 have fD : ∀ b ∈ fp,b ≠ D:=fun b hb => ((f2 b hb).2.2.2.2.2 (D,zdn its nn) (List.mem_append_right _ (List.mem_append_right _ List.mem_cons_self))).symm
 have loop : codeAny (model Y.prog Y.w) Y.A (.compLoop (.ListComp elt gens scope pos) d (.ref it) (.ref D) Y.env) (fun r s' => match r with | .ok f => wpAny (model Y.prog Y.w) Y.A last Φ (fun _ _ => False) s' | .error e => cameBackBy (model Y.prog Y.w) Y.A Y.env (fun _ _ => False) e s') s2 :=
  zhp hc hx hgs hdis hg ht hm hturn J2 a2 no T st2 f2' fD q fun s' ys' its' nn' H' I' a' q' => k s' ys' its' nn' H' I' a' q'
 exact wpAny_bind (wpAny_runOwn (zf4 hd loop (T.self _ 0 _ _ _ st2 loop)))
end
section
variable {X : Cx} {elt tg iter : Expr} {ifs : List Expr} {gs : List Comprehension} {scope : Scope} {pos : Pos} {N' : List Str} {ix : List (Option Nat)} {js js' : List Nat} {g : TG} {ts : TT} {tm : TM} {mk : Addr → Env → Sem Fin → Sem Fin}
theorem zdj {pins : List (Addr × Obj)} {σ : St} {H2 : Hp} {s2 : Shared} {it : Addr} {fp : List Addr} {tn : Nat → Heap → Prop} {J : It} {Q : VK} {E : Value → Shared → Prop} {RR : Value → Addr → Result → Shared → Prop}
  (SC : CompSc X N' ix scope) (hc : X.calm = true) (hgs : GS js g) (hdis : ∀ j ∈ js,j ∉ js') (hjs : ∀ j ∈ js ++ js',ix[j]? = some none)
  (hg : ∀ s₃ H₃ ex pins,PG (zG X N' scope s₃ H₃ ex pins) tg g) (ht : ∀ s₃ H₃ ex pins,zcE (zG X N' scope s₃ H₃ ex pins) ifs ts) (hm : ∀ s₃ H₃ ex pins D,PM (zG X N' scope s₃ H₃ ex pins) D js' (mk D (zG X N' scope s₃ H₃ ex pins).env) tm)
  (hturn : ∀ it D env,compTurn (.ListComp elt (⟨tg,iter,ifs,0⟩ :: gs) scope pos) 0 it (.ref D) env = zbG tg ifs iter.pos (mk D env) (.compLoop (.ListComp elt (⟨tg,iter,ifs,0⟩ :: gs) scope pos) 0 it (.ref D) env) it env)
  (I2 : Inv X pins σ H2 s2) (T : Turn X.prog X.w X.K tg J fp it tn) (st2 : tn 0 s2.heap) (f2 : ∀ b ∈ fp,zbW X pins H2 b) (q : cIn g ts tm (zcF ix σ) J (fun ys H' => ∀ D,H' D = none → Q (.ref D) (upd H' D (.lst ys))) [] H2)
  (hRR : ∀ (D C : Addr) (s' : Shared) (ys : List V) (H' : Hp) (m : Str → Option Value),Inv X pins σ (upd H' D (.lst ys)) s' → zbW X pins (upd H' D (.lst ys)) C → s'.heap.Ns C m → Q (.ref D) (upd H' D (.lst ys)) → RR (.ref D) C (.ok .next) s') :
  wpAny (model X.prog X.w) X.A (newList []) (fun acc s₃ => wpAny (model X.prog X.w) X.A (newFunctionEnv scope X.env.globals (zaQ X.env.cells scope.names []) [] X.env.qual none .none (some X.env)) (fun cenv s₄ =>
   codeAny (model X.prog X.w) X.A (.compStart (.ListComp elt (⟨tg,iter,ifs,0⟩ :: gs) scope pos) 0 (.ref it) acc { cenv with scope:=relabel scope X.env }) (RR acc cenv.locals) s₄) E s₃) E s2:=by
 have hfr : ∀ y ∈ scope.names,y.2 = .free → ∃ c,X.env.cells.lookup y.1 = some c:=fun y hy hf => I2.ok.has y.1 (SC.free y hy hf)
 have hcl : ∀ x c,(zaQ X.env.cells scope.names []).lookup x = some c → X.env.cells.lookup x = some c:=zbp scope.names [] hfr (fun x c e => by simp at e)
 refine wpAny_newObj_type (wpAny_newFunctionEnv SC.nocell (by intro y hy; simp at hy) (fun h₁ hns₁ hsb₁ => ?_) SC.kind)
 dsimp only at hns₁ hsb₁ ⊢
 have I3 : Inv X pins σ H2 { s2 with heap:=s2.heap.push { cls:=.type "list",dict:=none,data:=.seq ([] : List Value).toArray } }:=I2.kept (t':=s2.toks) fun b o e => Heap.get?_push_of_some _ e
 have hD3 : (s2.heap.push { cls:=.type "list",dict:=none,data:=.seq ([] : List Value).toArray }).get? s2.heap.objs.size = some { cls:=.type "list",dict:=none,data:=.seq ([] : List Value).toArray }:=Heap.get?_push_size _ rfl
 have hst3 : tn 0 (s2.heap.push { cls:=.type "list",dict:=none,data:=.seq ([] : List Value).toArray }):=T.keep _ _ _ st2 fun b hb o e => Heap.get?_push_of_some _ e
 have hsz3 : (s2.heap.push { cls:=.type "list",dict:=none,data:=.seq ([] : List Value).toArray }).objs.size = s2.heap.objs.size + 1:=Heap.size_push _ _
 generalize hh3 : s2.heap.push { cls:=.type "list",dict:=none,data:=.seq ([] : List Value).toArray } = h3 at *
 have hfpO:=T.obj _ _ st2
 have hfpLt : ∀ b ∈ fp,b < s2.heap.objs.size:=fun b hb => by obtain ⟨o,e,_⟩:=hfpO b hb; exact Heap.lt_size e
 have stk : ∀ b ∈ frs X.stack,b = X.env.locals ∨ b ∈ X.fs:=fun b hb => List.mem_cons.mp (I2.stkSub b hb)
 have hDok : zbW X pins H2 s2.heap.objs.size:=I2.fpOk (Nat.le_refl _) I2.fresh
 have exOk : ∀ b ∈ s2.heap.objs.size :: fp,zbW X pins H2 b:=fun b hb => by
  rcases (List.mem_cons.mp hb) with e | hb
  ·rw [e]; exact hDok
  ·exact f2 b hb
 have exLt : ∀ b ∈ s2.heap.objs.size :: fp,b < h3.objs.size:=fun b hb => by
  rw [hsz3]
  rcases (List.mem_cons.mp hb) with e | hb; · rw [e]; exact Nat.lt_succ_self _
  ·exact Nat.lt_succ_of_lt (hfpLt b hb)
 have exStk : ∀ b ∈ s2.heap.objs.size :: fp,b ∉ frs X.stack:=fun b hb z => by
  obtain ⟨_,a1,a2,_⟩:=exOk b hb
  rcases stk b z with e | e
  ·exact a1 e
  ·exact a2 e
 have old : ∀ b o,h3.get? b = some o → h₁.get? b = some o:=fun b o e => hsb₁.extBut b o (Nat.ne_of_lt (Heap.lt_size e)) (Heap.get?_push_of_some _ e)
 let s3 : Shared:={ s2 with heap:=h3 }
 let Y : Cx:=zG X N' scope s3 H2 (s2.heap.objs.size :: fp) pins
 have I3' : Inv X pins σ H2 s3:=I3
 have okY : Y.Ok:=by
  refine ⟨I2.ok.mod,SC.kind,I2.ok.glob,I2.ok.blt,Nat.le_refl _,fun x y c h1 h2 => I2.ok.inj x y c (hcl x c h1) (hcl y c h2),fun x hx => ?_,fun x c z => (by cases z),I2.ok.hd,I2.ok.frames,.inl rfl,fun b hb => ?_,fun b o e => I3'.bs b o e,?_,fun b o e hb => ?_,exStk,I3'.stack,I3'.stkFree⟩
  ·have hx':=zcD (env:=X.env) (names:=scope.names) (x:=x) hx
   rcases hx' with hx' | hx'
   ·exact zbF scope.names [] x (.inr (lookup_mem hx'))
   ·exact absurd rfl (SC.nocell _ (lookup_mem hx'))
  ·exact ⟨Nat.ne_of_lt (exLt b hb),fun x c e => (exOk b hb).2.2.2.2.1 x c (hcl x c e)⟩
  ·exact Nat.le_trans I2.ok.bsz I3'.sz
  ·obtain ⟨_,_,_,a3,_⟩:=exOk b hb
   rcases a3 with z | z
   ·exact I2.ok.noex b o e z
   ·have:=(I2.ok.bs b o e).1
    exact absurd (Nat.lt_of_lt_of_le (Heap.lt_size this) z) (Nat.lt_irrefl _)
 have inv4 : Inv Y [] (zcF ix σ) H2 { s3 with heap:=h₁,toks:=s2.toks + ([] : List (Str × Value)).length }:=by
  refine ⟨okY,rfl,I2.bare,Un.kept old,⟨_,hns₁,fun j x v e1 e2 e3 => ?_⟩,fun x c e => ?_,I3'.fresh,fun x c e => I2.freeC x c (hcl x c e),fun p hp => ?_,I3'.hok.kept old,?_⟩
  ·unfold zcF at e2
   rw [List.getElem?_map] at e2
   cases hj : ix[j]? with
   | none => rw [hj] at e2; simp at e2
   | some oi =>
    rw [hj] at e2
    cases oi with
    | none => simp at e2
    | some i =>
     obtain ⟨y,h1,h2,h3'⟩:=SC.cap j i hj
     have hxy : y = x:=by
      have e1' : N'[j]? = some x:=e1
      rw [h1] at e1'
      exact Option.some.inj e1'
     subst hxy
     have e2' : (σ[i]?).join = some v:=by simpa using e2
     have e2'' : σ[i]? = some (some v):=by
      cases hs : σ[i]? with
      | none => rw [hs] at e2'; simp at e2'
      | some w => rw [hs] at e2'; simp at e2'; rw [e2']
     obtain ⟨m,hn,hl⟩:=I3'.loc
     have hk:=SC.free (y,.free) (lookup_mem h3') rfl
     have hvis : Vis X.env.scope y:=hk.elim (fun z => .inr (.inl z)) fun z => .inr (.inr z)
     obtain ⟨u,r,l⟩:=hl i y v h2 e2'' hvis
     refine ⟨u,r,.inr ⟨zba h3',?_⟩⟩
     obtain ⟨c,hcc⟩:=zbF (cs:=X.env.cells) scope.names [] y (.inr (lookup_mem h3'))
     refine ⟨c,hcc,?_⟩
     rcases l with ⟨hk',_⟩ | ⟨_,c',hc',hcell⟩
     ·rcases hk with hk | hk
      ·have hk2 : X.env.kindOf y = some .cell:=hk
       rw [hk2] at hk'; cases hk'
      ·have hk2 : X.env.kindOf y = some .free:=hk
       rw [hk2] at hk'; cases hk'
     ·have:=hcl y c hcc
      rw [hc'] at this
      cases this
      obtain ⟨o,ho,hd⟩:=hcell
      exact ⟨o,old _ _ ho,hd⟩
  ·obtain ⟨v,o,ho,hd⟩:=I3'.cell x c (hcl x c e)
   exact ⟨v,o,old _ _ ho,hd⟩
  ·have hp' : p ∈ X.pn ++ pins:=by
    have : p ∈ (X.pn ++ pins) ++ ([] : List (Addr × Obj)):=hp
    simpa using this
   obtain ⟨a1,a2,a3,a4,a5⟩:=I3'.pin p hp'
   exact ⟨old _ _ a1,a2,Nat.ne_of_lt (Heap.lt_size a1),fun z => (stk _ z).elim a3 a4,a5⟩
  ·unfold zcF
   rw [List.length_map]
   exact SC.len.symm
 have fpY : ∀ {H' : Hp},(∀ b ∈ s2.heap.objs.size :: fp,H' b = none) → ∀ b ∈ s2.heap.objs.size :: fp,zbW Y [] H' b:=fun {H'} hn b hb => by
  obtain ⟨_,a1,a2,a3,a4,a5⟩:=exOk b hb
  refine ⟨hn b hb,Nat.ne_of_lt (exLt b hb),exStk b hb,.inl hb,fun x c e => a4 x c (hcl x c e),fun p hp => ?_⟩
  have : p ∈ (X.pn ++ pins) ++ ([] : List (Addr × Obj)):=hp
  exact a5 p (by simpa using this)
 have nn2 : ∀ b ∈ s2.heap.objs.size :: fp,H2 b = none:=fun b hb => (exOk b hb).1
 have noA : zff (js ++ js') (zcF ix σ):=fun j hj v e => by
  unfold zcF at e
  rw [List.getElem?_map,hjs j hj] at e
  simp at e
 have loop : ∀ s₅ : Shared,s₅ = { s2 with heap:=h₁,toks:=s2.toks + ([] : List (Str × Value)).length } →
   codeAny (model X.prog X.w) X.A (.compLoop (.ListComp elt (⟨tg,iter,ifs,0⟩ :: gs) scope pos) 0 (.ref it) (.ref s2.heap.objs.size) (compEnvC scope (zaQ X.env.cells scope.names []) h3.objs.size X.env)) (RR (.ref s2.heap.objs.size) h3.objs.size) s₅:=by
  rintro s₅ rfl
  refine zhp (Y:=Y) (pins:=[]) (σ:=zcF ix σ) (its:=[]) (nn:=0) hc rfl hgs hdis (hg s3 H2 _ pins) (ht s3 H2 _ pins) (hm s3 H2 _ pins s2.heap.objs.size) (fun it => hturn it _ _) inv4 ⟨fpY nn2 _ List.mem_cons_self,old _ _ hD3,.nil,Nat.zero_le _⟩ noA T (T.keep _ _ _ hst3 fun b hb o e => old b o e)
   (fun b hb => fpY nn2 b (List.mem_cons_of_mem _ hb)) (fun b hb => Nat.ne_of_lt (hfpLt b hb)) q fun s6 ys its nn H5 I6 a6 qn => ?_
  have dn5 : H5 s2.heap.objs.size = none:=a6.fp.1
  have I7 : Inv X pins σ H5 s6:=by
   refine I3'.call' (s':=s6) (ch:=s2.heap.objs.size :: fp) I6.os I6.base I6.hok I6.bare fun b hb => ?_
   obtain ⟨_,a1,a2,a3,a4,a5⟩:=exOk b hb
   exact ⟨a3,a1,a4,a5⟩
  have I8 : Inv X pins σ (upd H5 s2.heap.objs.size (.lst ys)) s6:=by
   obtain ⟨_,a1,a2,a3,a4,a5⟩:=hDok
   exact I7.track dn5 I2.sz (Ne.symm a1) a4 a5 ⟨a6.len,its,nn,a6.vals,a6.here⟩
  obtain ⟨mm,hmm,_⟩:=I6.loc
  have dne : h3.objs.size ≠ s2.heap.objs.size:=by rw [hsz3]; exact Nat.succ_ne_self _
  refine hRR _ _ s6 ys H5 mm I8 (I3'.fpOk (H':=upd H5 s2.heap.objs.size (.lst ys)) (Nat.le_refl _) ?_) hmm (qn _ dn5)
  show upd H5 s2.heap.objs.size (.lst ys) h3.objs.size = none
  rw [zr dne]
  exact I6.free
 exact zf4 rfl (loop _ rfl) (T.self _ 0 _ _ _ (T.keep _ _ _ hst3 fun b hb o e => old b o e) (loop _ rfl))
theorem zf5 {wi : TI} (SC : CompSc X N' ix scope) (hc : X.calm = true) (hgs : GS js g) (hdis : ∀ j ∈ js,j ∉ js') (hjs : ∀ j ∈ js ++ js',ix[j]? = some none) (hi : PI X tg iter wi)
  (hg : ∀ s₃ H₃ ex pins,PG (zG X N' scope s₃ H₃ ex pins) tg g) (ht : ∀ s₃ H₃ ex pins,zcE (zG X N' scope s₃ H₃ ex pins) ifs ts) (hm : ∀ s₃ H₃ ex pins D,PM (zG X N' scope s₃ H₃ ex pins) D js' (mk D (zG X N' scope s₃ H₃ ex pins).env) tm)
  (hturn : ∀ it D env,compTurn (.ListComp elt (⟨tg,iter,ifs,0⟩ :: gs) scope pos) 0 it (.ref D) env = zbG tg ifs iter.pos (mk D env) (.compLoop (.ListComp elt (⟨tg,iter,ifs,0⟩ :: gs) scope pos) 0 it (.ref D) env) it env)
  (hs : ∀ x,foldedSetIterable iter X.env x = pure x:=by intro _; rfl) : PE X (.ListComp elt (⟨tg,iter,ifs,0⟩ :: gs) scope pos) (zfg ix wi g ts tm):=by
 intro pins s σ H Q I h
 rw [eval_ListComp]
 have hfr : ∀ y ∈ scope.names,y.2 = .free → ∃ c,X.env.cells.lookup y.1 = some c:=fun y hy hf => I.ok.has y.1 (SC.free y hy hf)
 refine wpAny_comprehension_free (use:=none) rfl hs (zco hfr) SC.kind SC.names (thn (hi pins s σ H _ I h) fun v s1 h1 => thn h1 fun itv s2 h2 => ?_)
 obtain ⟨it,fp,tn,J,H2,e,I2,T,st2,f2,q⟩:=h2
 subst e
 refine zdj (RR:=fun acc C => compPost (model X.prog X.w) X.A X.xe none (EP X pins σ Q) acc C) SC hc hgs hdis hjs hg ht hm hturn I2 T st2 f2 q ?_
 intro D C s' ys H' m I' fpC hm q'
 refine ⟨m,hm,fun h'' hs'' => ⟨.ref D,_,?_,rfl,q'⟩⟩
 obtain ⟨f0,f1,f2',f3,f4,f5⟩:=fpC
 exact I'.turned (t':=s'.toks) (fun b o hb e => hs''.extBut b o hb e) f0 f1 f3 f4 f5
theorem zdk {wi : TI} {i : Nat} {x : Str} {pos' spos : Pos} (hN : X.N.Nodup) (hxi : X.N[i]? = some x) (hx : Loc X.env.scope x) (SC : CompSc X N' ix scope) (hc : X.calm = true) (hgs : GS js g) (hdis : ∀ j ∈ js,j ∉ js') (hjs : ∀ j ∈ js ++ js',ix[j]? = some none) (hi : PI X tg iter wi)
  (hg : ∀ s₃ H₃ ex pins,PG (zG X N' scope s₃ H₃ ex pins) tg g) (ht : ∀ s₃ H₃ ex pins,zcE (zG X N' scope s₃ H₃ ex pins) ifs ts) (hm : ∀ s₃ H₃ ex pins D,PM (zG X N' scope s₃ H₃ ex pins) D js' (mk D (zG X N' scope s₃ H₃ ex pins).env) tm)
  (hturn : ∀ it D env,compTurn (.ListComp elt (⟨tg,iter,ifs,0⟩ :: gs) scope pos) 0 it (.ref D) env = zbG tg ifs iter.pos (mk D env) (.compLoop (.ListComp elt (⟨tg,iter,ifs,0⟩ :: gs) scope pos) 0 it (.ref D) env) it env)
  (hsw : swapsWith (.ListComp elt (⟨tg,iter,ifs,0⟩ :: gs) scope pos) (some (.Name x pos')) spos.line X.env = pure true:=by rfl)
  (hs : ∀ x,foldedSetIterable iter X.env x = pure x:=by intro _; rfl) (hf : X.fn x = true ∨ X.env.scope.names.lookup x = some .local:=by first | exact .inl rfl | exact .inr rfl | assumption) :
  PS X (.Assign [.Name x pos'] (.ListComp elt (⟨tg,iter,ifs,0⟩ :: gs) scope pos) spos) (zgv (zfg ix wi g ts tm) (zaC i)):=by
 intro pins s σ H D I h
 have hfr : ∀ y ∈ scope.names,y.2 = .free → ∃ c,X.env.cells.lookup y.1 = some c:=fun y hy hf => I.ok.has y.1 (SC.free y hy hf)
 rw [exec_Assign_Name_used _ _ _ _ hsw]; refine wpAny_bind (wpAny_standAt (wpAny_bind ?_))
 show wpAny _ X.A (do let _ ← comprehension (.ListComp elt (⟨tg,iter,ifs,0⟩ :: gs) scope pos) scope X.env _ (newList []) false (eval iter X.env) (some (assign (.Name x pos') X.env))) _ _ s
 refine wpAny_bind (wpAny_mono (wpAny_comprehension_free (use:=some (assign (.Name x pos') X.env)) (Q:=fun _ s' => SP X pins D .next s') rfl hs (zco hfr) SC.kind SC.names
  (thn (hi pins s σ H _ I h) fun v s1 h1 => thn h1 fun itv s2 h2 => ?_)) (fun _ s' hq => wpAny_pure (wpAny_pure hq)) fun _ _ e => e)
 obtain ⟨it,fp,tn,J,H2,e,I2,T,st2,f2,q⟩:=h2
 subst e
 refine zdj (Q:=fun x H1 => zaC i x σ H1 D.nx) (RR:=fun acc C => compPost (model X.prog X.w) X.A X.xe (some (assign (.Name x pos') X.env)) (fun _ s' => SP X pins D .next s') acc C) SC hc hgs hdis hjs hg ht hm hturn I2 T st2 f2 q ?_
 intro Da C s' ys H' m I' fpC hm q'
 show wpAny _ X.A (assign (.Name x pos') X.env (.ref Da)) _ _ _
 refine wpAny_assign_Name (zet I' hN hxi hx (show RelV (.ref Da) (.ref Da) from rfl) (fun s'' I'' ⟨a,hsb,ha⟩ => ?_) hf)
 obtain ⟨f0,f1,f2',f3,f4,f5⟩:=fpC
 have hCa : C ≠ a:=by
  rcases ha with e | e
  ·rw [e]; exact f1
  ·exact Ne.symm (f4 x a e)
 refine ⟨m,hm.sameBut hsb hCa,fun h₃ hs₃ => ⟨_,_,?_,q'⟩⟩
 exact I''.turned (t':=s''.toks) (fun b o hb e => hs₃.extBut b o hb e) f0 f1 f3 f4 f5
end
theorem zjs {elt t1 i1 t2 i2 : Expr} {f1 f2 : List Expr} {scope : Scope} {pos : Pos} (it : Value) (D : Addr) (env : Env) : compTurn (.ListComp elt [⟨t1,i1,f1,0⟩,⟨t2,i2,f2,0⟩] scope pos) 0 it (.ref D) env =
  zbG t1 f1 i1.pos (zhm (.ListComp elt [⟨t1,i1,f1,0⟩,⟨t2,i2,f2,0⟩] scope pos) i2 1 (.ref D) env) (.compLoop (.ListComp elt [⟨t1,i1,f1,0⟩,⟨t2,i2,f2,0⟩] scope pos) 0 it (.ref D) env) it env:=by rfl
theorem zl3 {elt t1 i1 t2 i2 : Expr} {f1 f2 : List Expr} {scope : Scope} {pos : Pos} (it : Value) (D : Addr) (env : Env) : compTurn (.ListComp elt [⟨t1,i1,f1,0⟩,⟨t2,i2,f2,0⟩] scope pos) 1 it (.ref D) env =
  zbG t2 f2 i2.pos (zeR elt (.ref D) env) (.compLoop (.ListComp elt [⟨t1,i1,f1,0⟩,⟨t2,i2,f2,0⟩] scope pos) 1 it (.ref D) env) it env:=by rfl
def zc0 (ix : List (Option Nat)) : List Nat:=(List.range ix.length).filter fun j => ix[j]? == some none
theorem zbH {ix : List (Option Nat)} {i : Nat} : i ∈ zc0 ix ↔ ix[i]? = some none:=by
 unfold zc0
 rw [List.mem_filter,List.mem_range,beq_iff_eq]
 exact ⟨fun h => h.2,fun h => ⟨(List.getElem?_eq_some_iff.mp h).1,h⟩⟩
def GK (ix : List (Option Nat)) (g : TG) : Prop:=GS (zc0 ix) g
def GKs (ix : List (Option Nat)) (g : TGs) : Prop:=GSs (zc0 ix) g
theorem zav {ix : List (Option Nat)} {i : Nat} (hi : ix[i]? = some none) : GK ix (zaC i):=zdt (zbH.2 hi)
theorem zbd {ix : List (Option Nat)} : GKs ix zh0:=zhl
theorem zl4 {i : Nat} {x : V} {σ : St} {H : Hp} {Q Q' : St → Hp → Prop} (h : ∀ σ' H',Q σ' H' → Q' σ' H') (hg : zaC i x σ H Q) : zaC i x σ H Q':=h _ _ hg
theorem zZ {ix : List (Option Nat)} {i : Nat} {u : TGs} (hi : ix[i]? = some none) (h2 : GKs ix u) : GKs ix (zcn (zaC i) u):=zdX (zbH.2 hi) h2
theorem zbI {ix : List (Option Nat)} {K : PySem.W.Frag} {n : Nat} {t : TGs} (h : GKs ix t) : GK ix (zgu K n t):=zjr h
theorem zim {ix : List (Option Nat)} {g : TG} {u : TGs} (h1 : GK ix g) (h2 : GKs ix u) (mono : ∀ (x : V) (σ : St) (H : Hp) (Q Q' : St → Hp → Prop),(∀ σ' H',Q σ' H' → Q' σ' H') → g x σ H Q → g x σ H Q') : GKs ix (zcn g u):=fun σ σ1 xs H Q hw h => by
 obtain ⟨v,r,e,h⟩:=h
 refine ⟨v,r,e,mono v σ1 H _ _ (fun σ' H' q => ?_) (h1 σ σ1 v H _ hw h)⟩
 exact h2 σ σ' r H' Q q.1 q.2
theorem zlo {elt t1 i1 : Expr} {f1 : List Expr} {scope : Scope} {pos : Pos} (it : Value) (D : Addr) (env : Env) : compTurn (.ListComp elt [⟨t1,i1,f1,0⟩] scope pos) 0 it (.ref D) env =
  zbG t1 f1 i1.pos (zeR elt (.ref D) env) (.compLoop (.ListComp elt [⟨t1,i1,f1,0⟩] scope pos) 0 it (.ref D) env) it env:=by rfl
section
variable {X : Cx} {elt tg iter : Expr} {ifs : List Expr} {scope : Scope} {pos : Pos} {N' : List Str} {ix : List (Option Nat)} {g : TG} {ts : TT} {te : TE}
theorem zar {wi : TI} (SC : CompSc X N' ix scope) (hc : X.calm = true) (hk : GK ix g) (hi : PI X tg iter wi)
  (hg : ∀ s₃ H₃ ex pins,PG (zG X N' scope s₃ H₃ ex pins) tg g) (ht : ∀ s₃ H₃ ex pins,zcE (zG X N' scope s₃ H₃ ex pins) ifs ts) (he : ∀ s₃ H₃ ex pins,PE (zG X N' scope s₃ H₃ ex pins) elt te)
  (hs : ∀ x,foldedSetIterable iter X.env x = pure x:=by intro _; rfl) : PE X (.ListComp elt [⟨tg,iter,ifs,0⟩] scope pos) (zli ix wi g ts te) :=
 zf5 (mk:=fun D env => zeR elt (.ref D) env) (js:=zc0 ix) (js':=[]) SC hc hk (fun _ _ h => nomatch h) (fun j h => zbH.1 (by simpa using h)) hi hg ht (fun s₃ H₃ ex pins D => zgN rfl (he s₃ H₃ ex pins)) (fun _ _ _ => zlo _ _ _) hs
theorem zaJ {wi : TI} {i : Nat} {x : Str} {pos' spos : Pos} (hN : X.N.Nodup) (hxi : X.N[i]? = some x) (hx : Loc X.env.scope x) (SC : CompSc X N' ix scope) (hc : X.calm = true) (hk : GK ix g) (hi : PI X tg iter wi)
  (hg : ∀ s₃ H₃ ex pins,PG (zG X N' scope s₃ H₃ ex pins) tg g) (ht : ∀ s₃ H₃ ex pins,zcE (zG X N' scope s₃ H₃ ex pins) ifs ts) (he : ∀ s₃ H₃ ex pins,PE (zG X N' scope s₃ H₃ ex pins) elt te)
  (hsw : swapsWith (.ListComp elt [⟨tg,iter,ifs,0⟩] scope pos) (some (.Name x pos')) spos.line X.env = pure true:=by rfl)
  (hs : ∀ x,foldedSetIterable iter X.env x = pure x:=by intro _; rfl) (hf : X.fn x = true ∨ X.env.scope.names.lookup x = some .local:=by first | exact .inl rfl | exact .inr rfl | assumption) :
  PS X (.Assign [.Name x pos'] (.ListComp elt [⟨tg,iter,ifs,0⟩] scope pos) spos) (zgv (zli ix wi g ts te) (zaC i)) :=
 zdk (mk:=fun D env => zeR elt (.ref D) env) (js:=zc0 ix) (js':=[]) hN hxi hx SC hc hk (fun _ _ h => nomatch h) (fun j h => zbH.1 (by simpa using h)) hi hg ht (fun s₃ H₃ ex pins D => zgN rfl (he s₃ H₃ ex pins)) (fun _ _ _ => zlo _ _ _) hsw hs hf
end
end L2
end
section
set_option maxHeartbeats 3995000
namespace Srt
open PySem PyProof.Rows
def Vk (val : Keyed → Int) (xs : Array Keyed) (i : Nat) : Int:=match xs[i]? with
 | some p => val p
 | none => 0
theorem zV {val : Keyed → Int} {xs ys : Array Keyed} {i j : Nat} (h : xs[i]? = ys[j]?) : Vk val xs i = Vk val ys j:=by unfold Vk; rw [h]
theorem zR {val : Keyed → Int} {xs : Array Keyed} {i : Nat} {p : Keyed} (h : xs[i]? = some p) : Vk val xs i = val p:=by unfold Vk; rw [h]
def SIn (val : Keyed → Int) (xs : Array Keyed) (lo hi : Nat) : Prop:=∀ i j,lo ≤ i → i ≤ j → j < hi → Vk val xs i ≤ Vk val xs j
def DIn (val : Keyed → Int) (xs : Array Keyed) (lo hi : Nat) : Prop:=∀ i j,lo ≤ i → i ≤ j → j < hi → Vk val xs j ≤ Vk val xs i
structure SB (κ : SortKind) (a₀ : Array Keyed) (st : SortSt) : Prop where
 perm : (arrOf st).Perm a₀
 kind : kindOf st = κ
 failed : failedOf st = none
theorem SB.size {κ : SortKind} {a₀ : Array Keyed} {st : SortSt} (h : SB κ a₀ st) : (arrOf st).size = a₀.size:=h.perm.size_eq
theorem SB.mem {κ : SortKind} {a₀ : Array Keyed} {st : SortSt} (h : SB κ a₀ st) {i : Nat} (hi : i < a₀.size) : ∃ p,(arrOf st)[i]? = some p ∧ p ∈ a₀.toList:=by
 (have hi' : i < (arrOf st).size:=by rw [h.size]; exact hi)
 exact ⟨(arrOf st)[i],getElem?_pos _ i hi',(Array.perm_iff_toList_perm.mp h.perm).mem_iff.mp (by simp)⟩
structure SF (κ : SortKind) (a₀ : Array Keyed) (lo : Nat) (st₀ st : SortSt) : Prop where
 b : SB κ a₀ st
 low : ∀ k,k < lo → (arrOf st)[k]? = (arrOf st₀)[k]?
 pend : pendingOf st = pendingOf st₀
theorem SF.refl {κ : SortKind} {a₀ : Array Keyed} {lo : Nat} {st : SortSt} (h : SB κ a₀ st) : SF κ a₀ lo st st:=⟨h,fun _ _ => rfl,rfl⟩
theorem SF.setArr {κ : SortKind} {a₀ : Array Keyed} {lo : Nat} {st₀ st : SortSt} (h : SF κ a₀ lo st₀ st) {xs : Array Keyed} (hp : xs.Perm (arrOf st)) (hl : ∀ k,k < lo → xs[k]? = (arrOf st)[k]?) : SF κ a₀ lo st₀ (setArr st xs) :=
 ⟨⟨hp.trans h.b.perm,h.b.kind,h.b.failed⟩,fun k hk => (hl k hk).trans (h.low k hk),h.pend⟩
section
variable {prog : Program} {w : World} {A : Around} {E : Value → Shared → Prop} {s : Shared} {a₀ : Array Keyed} {κ : SortKind} {val : Keyed → Int}
def Cmp (prog : Program) (w : World) (A : Around) (s : Shared) (κ : SortKind) (val : Keyed → Int) (a₀ : Array Keyed) : Prop :=
 ∀ x y,x ∈ a₀.toList → y ∈ a₀.toList → ∀ (Q : Bool → Shared → Prop) (E : Value → Shared → Prop),Q (decide (val x < val y)) s → wpAny (model prog w) A (keyLt' κ x.1 y.1) Q E s
theorem zjt {st : SortSt} {x y : Keyed} {Q : Option Bool → SortSt → Prop} (hC : Cmp prog w A s κ val a₀) (hk : kindOf st = κ) (hx : x ∈ a₀.toList) (hy : y ∈ a₀.toList) (h : Q (some (decide (val x < val y))) st) :
  wpS (model prog w) A E s (lt' x y) Q st:=by
 rw [lt'_eq]
 refine wpS_bind (wpS_get ?_)
 rw [hk]
 refine wpS_bind (wpS_lift (wpAny_attempt (hC x y hx hy _ _ ⟨rfl,?_⟩)))
 exact wpS_pure h
theorem zN {st : SortSt} {arr : Array Keyed} {i : Nat} {p : Keyed} {Q : Keyed → SortSt → Prop} (hi : arr[i]? = some p) (h : Q p st) : wpS (model prog w) A E s (elem' arr i) Q st:=by
 rw [elem'_eq,hi]
 exact wpS_pure h
theorem zdY {st : SortSt} {i j : Nat} {Q : Option Bool → SortSt → Prop} (hC : Cmp prog w A s κ val a₀) (hB : SB κ a₀ st) (hi : i < a₀.size) (hj : j < a₀.size) (h : Q (some (decide (Vk val (arrOf st) i < Vk val (arrOf st) j))) st) :
  (wpS (model prog w) A E s (ltAt' i j) Q st):=by
 obtain ⟨x,ex,mx⟩:=hB.mem hi
 obtain ⟨y,ey,my⟩:=hB.mem hj
 rw [ltAt'_eq]
 refine wpS_bind (wpS_get ?_)
 (show wpS _ _ _ _ (do let x ← elem' (arrOf st) i; let y ← elem' (arrOf st) j; lt' x y) Q st)
 refine wpS_bind (zN ex (wpS_bind (zN ey (zjt hC hB.kind mx my ?_))))
 rw [zR ex,zR ey] at h
 exact h
theorem zhq {st : SortSt} {i j : Nat} {Q : Unit → SortSt → Prop} (h : Q () (setArr st (mirror (arrOf st) i j ((j - i) / 2)))) :
  (wpS (model prog w) A E s (reverseSlice' i j) Q st):=by
 ((rw [reverseSlice'_eq]; exact wpS_modify h))
theorem zdZ {xs : Array Keyed} {i j : Nat} (hj : j ≤ xs.size) (k : Nat) : Vk val (mirror xs i j ((j - i) / 2)) k = if i ≤ k ∧ k < j then Vk val xs (i + j - 1 - k) else Vk val xs k:=by
 (have e:=getElem?_mirror_all (i:=i) hj k)
 by_cases h1 : i ≤ k ∧ k < j
 ·rw [if_pos h1] at e ⊢; exact zV e
 ·rw [if_neg h1] at e ⊢; exact zV e
theorem za4 {xs : Array Keyed} {i j : Nat} (hj : j ≤ xs.size) (heq : ∀ k,i ≤ k → k < j → Vk val xs k = Vk val xs (j - 1)) (k : Nat) : Vk val (mirror xs i j ((j - i) / 2)) k = Vk val xs k:=by
 rw [zdZ hj]
 split
 ·(rw [heq _ (by omega) (by omega),heq k (by omega) (by omega)])
 ·rfl
theorem zbJ {xs : Array Keyed} {lo i j : Nat} (hj : j ≤ xs.size) (hi : lo ≤ i) : ∀ k,k < lo → (mirror xs i j ((j - i) / 2))[k]? = xs[k]?:=fun k hk => by
 rw [getElem?_mirror_all hj,if_neg (by omega)]
theorem zgO {xs : Array Keyed} {lo src d : Nat} (hs : src < xs.size) (hd : d ≤ src) (hl : lo ≤ src - d) : ∀ k,k < lo → (bubble xs src d)[k]? = xs[k]?:=fun k hk => by
 rw [getElem?_bubble hs d hd,if_neg (by omega),if_neg (by omega)]
def zju (lo a nrem : Nat) : StateT SortSt Sem AscSt :=
 forIn [a:nrem] ((none,a) : AscSt) fun _ st => do
  let x ← ltAt' (lo + st.snd) (lo + st.snd - 1)
  match x with
  | some smaller => if smaller = true then pure (ForInStep.done (none,st.snd)) else pure (ForInStep.yield (none,st.snd + 1))
  | _ => pure (ForInStep.done (some none,st.snd))
def zf6 (lo n nrem : Nat) : StateT SortSt Sem (Option Nat):=do
 reverseSlice' lo (lo + n)
 let st ← zju lo n nrem
 match st.fst with
 | some r => pure r
 | none => pure (some st.snd)
def zhr (lo n nrem : Nat) : StateT SortSt Sem DescSt :=
 forIn [n:nrem] ((none,n,0) : DescSt) fun _ st => do
  let x ← ltAt' (lo + st.snd.fst) (lo + st.snd.fst - 1)
  match x with
  | some smaller =>
   if smaller = true then
    if st.snd.snd > 0 then do
     reverseSlice' (lo + st.snd.fst - (st.snd.snd + 1)) (lo + st.snd.fst)
     pure (ForInStep.yield (none,st.snd.fst + 1,0))
    else pure (ForInStep.yield (none,st.snd.fst + 1,0))
   else do
    let x ← ltAt' (lo + st.snd.fst - 1) (lo + st.snd.fst)
    match x with
    | some larger =>
     if larger = true then pure (ForInStep.done (none,st.snd.fst,st.snd.snd))
     else pure (ForInStep.yield (none,st.snd.fst + 1,st.snd.snd + 1))
    | _ => pure (ForInStep.done (some none,st.snd.fst,st.snd.snd))
  | _ => pure (ForInStep.done (some none,st.snd.fst,st.snd.snd))
def zf7 (lo n nrem : Nat) : StateT SortSt Sem (Option Nat):=do
 liftM (rule "list.sort.descending-run"); let st ← zhr lo (n + 1) nrem
 match st.fst with
 | some r => pure r
 | none =>
  if st.snd.snd > 0 then do
   reverseSlice' (lo + st.snd.fst - (st.snd.snd + 1)) (lo + st.snd.fst)
   zf6 lo st.snd.fst nrem
  else zf6 lo st.snd.fst nrem
theorem zfh (lo nrem : Nat) : countRun' lo nrem = (do
  let st ← zju lo 1 nrem
  match st.fst with
  | some r => pure r
  | none =>
   if (st.snd == nrem) = true then pure (some st.snd)
   else if st.snd > 1 then do
    let x ← ltAt' lo (lo + st.snd - 1)
    match x with
    | some rose => if rose = true then pure (some st.snd) else do
      reverseSlice' lo (lo + st.snd)
      zf7 lo st.snd nrem
    | _ => pure none
   else zf7 lo st.snd nrem):=by
 rw [countRun'_eq]
 unfold zf7 zf6 zhr zju
 dsimp only
 refine congrArg (bind _) ?_
 funext c
 obtain ⟨r,n⟩:=c
 cases r with
 | some r => rfl
 | none =>
  dsimp only
  split
  ·rfl
  ·split
   ·congr 1
    funext x
    cases x with
    | none => rfl
    | some rose =>
     dsimp only
     split
     ·rfl
     ·congr 1
      funext _r
      congr 1; funext _u; congr 1; congr 1; funext s2; obtain ⟨r2,n2,q2⟩:=s2
      cases r2 with
      | some r2 => rfl
      | none =>
       dsimp only
       split
       ·congr 1; funext _v; congr 1; funext _w; congr 1; funext s3; obtain ⟨r3,n3⟩:=s3; cases r3 <;> rfl
       ·congr 1; funext _w; congr 1; funext s3; obtain ⟨r3,n3⟩:=s3; cases r3 <;> rfl
   ·congr 1; funext _u; congr 1; congr 1; funext s2; obtain ⟨r2,n2,q2⟩:=s2
    cases r2 with
    | some r2 => rfl
    | none =>
     dsimp only
     split
     ·congr 1; funext _v; congr 1; funext _w; congr 1; funext s3; obtain ⟨r3,n3⟩:=s3; cases r3 <;> rfl
     ·congr 1; funext _w; congr 1; funext s3; obtain ⟨r3,n3⟩:=s3; cases r3 <;> rfl
theorem zlp {st₀ st : SortSt} {lo a nrem : Nat} {Q : AscSt → SortSt → Prop} (hC : Cmp prog w A s κ val a₀) (hn : lo + nrem ≤ a₀.size) (ha : 1 ≤ a) (han : a ≤ nrem) (hB : SF κ a₀ lo st₀ st)
  (hs : SIn val (arrOf st) lo (lo + a))
  (h : ∀ n,a ≤ n → n ≤ nrem → SIn val (arrOf st) lo (lo + n) → (n = nrem ∨ Vk val (arrOf st) (lo + n) < Vk val (arrOf st) (lo + n - 1)) → Q (none,n) st) :
  wpS (model prog w) A E s (zju lo a nrem) Q st:=by
 unfold zju
 refine wpS_forRange (I:=fun x c st' => st' = st ∧ c = (none,x) ∧ SIn val (arrOf st) lo (lo + x)) ?step ?fin ⟨rfl,rfl,hs⟩
 case fin =>
  rintro c st' ⟨rfl,rfl,hs'⟩
  (rw [show max a nrem = nrem by omega] at hs' ⊢)
  (exact h nrem han (Nat.le_refl _) hs' (.inl rfl))
 case step =>
  (rintro x c st' hax hxn ⟨rfl,rfl,hs'⟩)
  dsimp only
  refine wpS_bind (zdY hC hB.b (by omega) (by omega) ?_)
  by_cases hless : Vk val (arrOf st') (lo + x) < Vk val (arrOf st') (lo + x - 1)
  ·(simp only [hless,decide_true,if_true])
   (exact wpS_pure (h x hax (by omega) hs' (.inr hless)))
  ·(simp only [hless,decide_false,Bool.false_eq_true,if_false])
   refine wpS_pure ⟨rfl,rfl,fun i j hli hij hj => ?_⟩
   by_cases hjx : j < lo + x
   ·exact hs' i j hli hij hjx
   ·have hj' : j = lo + x:=by omega
    subst hj'
    by_cases hi' : i = lo + x
    ·(subst hi'; exact Int.le_refl _)
    ·exact Int.le_trans (hs' i (lo + x - 1) hli (by omega) (by omega)) (Int.not_lt.mp hless)
theorem zjv {st₀ st : SortSt} {lo n nrem : Nat} {Q : Option Nat → SortSt → Prop} (hC : Cmp prog w A s κ val a₀) (hn : lo + nrem ≤ a₀.size) (h1 : 1 ≤ n) (hnn : n ≤ nrem) (hB : SF κ a₀ lo st₀ st)
  (hs : DIn val (arrOf st) lo (lo + n)) (h : ∀ m st',SF κ a₀ lo st₀ st' → 1 ≤ m → m ≤ nrem → SIn val (arrOf st') lo (lo + m) → Q (some m) st') :
  wpS (model prog w) A E s (zf6 lo n nrem) Q st:=by
 unfold zf6
 have hsz : lo + n ≤ (arrOf st).size:=by rw [hB.b.size]; omega
 refine wpS_bind (zhq ?_)
 have hB':=hB.setArr (mirror_perm (arrOf st) lo (lo + n) ((lo + n - lo) / 2)) (zbJ hsz (Nat.le_refl _))
 refine wpS_bind (zlp hC hn h1 hnn hB' ?_ fun m hm1 hm2 hsm _ => wpS_pure (h m _ hB' (by omega) hm2 hsm))
 intro i j hli hij hj
 show Vk val (mirror (arrOf st) lo (lo + n) ((lo + n - lo) / 2)) i ≤ Vk val (mirror (arrOf st) lo (lo + n) ((lo + n - lo) / 2)) j
 rw [zdZ hsz,zdZ hsz,if_pos (by omega),if_pos (by omega)]
 exact hs _ _ (by omega) (by omega) (by omega)
theorem zl5 {st₀ st : SortSt} {lo n nrem : Nat} {Q : DescSt → SortSt → Prop} (hC : Cmp prog w A s κ val a₀) (hn : lo + nrem ≤ a₀.size) (h1 : 1 ≤ n) (hnn : n ≤ nrem) (hB : SF κ a₀ lo st₀ st)
  (hs : DIn val (arrOf st) lo (lo + n))
  (h : ∀ m neq st',SF κ a₀ lo st₀ st' → n ≤ m → m ≤ nrem → DIn val (arrOf st') lo (lo + m) → neq + 1 ≤ m → (∀ i,lo + m - (neq + 1) ≤ i → i < lo + m → Vk val (arrOf st') i = Vk val (arrOf st') (lo + m - 1)) → Q (none,m,neq) st') :
  wpS (model prog w) A E s (zhr lo n nrem) Q st:=by
 unfold zhr
 refine wpS_forRange (I:=fun x c st' => ∃ neq,c = (none,x,neq) ∧ SF κ a₀ lo st₀ st' ∧ DIn val (arrOf st') lo (lo + x) ∧ neq + 1 ≤ x ∧
   (∀ i,lo + x - (neq + 1) ≤ i → i < lo + x → Vk val (arrOf st') i = Vk val (arrOf st') (lo + x - 1))) ?step ?fin ⟨0,rfl,hB,hs,by omega,fun i h1 h2 => by congr 1; omega⟩
 case fin =>
  (rintro c st' ⟨neq,rfl,hB',hs',hq,he⟩)
  (rw [show max n nrem = nrem by omega] at hs' hq he ⊢)
  (exact h nrem neq st' hB' hnn (Nat.le_refl _) hs' hq he)
 case step =>
  (rintro x c st' hax hxn ⟨neq,rfl,hB',hs',hq,he⟩)
  dsimp only
  have hsz : lo + x ≤ (arrOf st').size:=by rw [hB'.b.size]; omega
  refine wpS_bind (zdY hC hB'.b (by omega) (by omega) ?_)
  by_cases hless : Vk val (arrOf st') (lo + x) < Vk val (arrOf st') (lo + x - 1)
  ·(simp only [hless,decide_true,if_true])
   have step1 : ∀ xs : Array Keyed,(∀ k,Vk val xs k = Vk val (arrOf st') k) → DIn val xs lo (lo + (x + 1)):=by
    intro xs hk i j hli hij hj
    rw [hk,hk]
    by_cases hjx : j < lo + x
    ·exact hs' i j hli hij hjx
    ·have hj' : j = lo + x:=by omega
     subst hj'
     by_cases hi' : i = lo + x
     ·(subst hi'; exact Int.le_refl _)
     ·exact Int.le_trans (Int.le_of_lt hless) (hs' i (lo + x - 1) hli (by omega) (by omega))
   by_cases hneq : neq > 0
   ·rw [if_pos hneq]
    refine wpS_bind (zhq (wpS_pure ⟨0,rfl,hB'.setArr (mirror_perm _ _ _ _) (zbJ hsz (by omega)),step1 _ (za4 hsz he),by omega,fun i h1 h2 => by congr 1; omega⟩))
   ·rw [if_neg hneq]
    (exact wpS_pure ⟨0,rfl,hB',step1 _ (fun _ => rfl),by omega,fun i h1 h2 => by congr 1; omega⟩)
  ·(simp only [hless,decide_false,Bool.false_eq_true,if_false])
   refine wpS_bind (zdY hC hB'.b (by omega) (by omega) ?_)
   by_cases hlarger : Vk val (arrOf st') (lo + x - 1) < Vk val (arrOf st') (lo + x)
   ·(simp only [hlarger,decide_true,if_true])
    (exact wpS_pure (h x neq st' hB' hax (by omega) hs' hq he))
   ·(simp only [hlarger,decide_false,Bool.false_eq_true,if_false])
    have heqx : Vk val (arrOf st') (lo + x) = Vk val (arrOf st') (lo + x - 1):=by omega
    refine wpS_pure ⟨neq + 1,rfl,hB',fun i j hli hij hj => ?_,by omega,fun i h1 h2 => ?_⟩
    ·by_cases hjx : j < lo + x
     ·exact hs' i j hli hij hjx
     ·have hj' : j = lo + x:=by omega
      subst hj'
      by_cases hi' : i = lo + x
      ·(subst hi'; exact Int.le_refl _)
      ·rw [heqx]; exact hs' i (lo + x - 1) hli (by omega) (by omega)
    ·rw [show lo + (x + 1) - 1 = lo + x by omega]
     by_cases hix : i = lo + x
     ·subst hix; rfl
     ·(rw [heqx]; exact he i (by omega) (by omega))
theorem zhs {st₀ st : SortSt} {lo n nrem : Nat} {Q : Option Nat → SortSt → Prop} (hC : Cmp prog w A s κ val a₀) (hn : lo + nrem ≤ a₀.size) (hnn : n + 1 ≤ nrem) (hB : SF κ a₀ lo st₀ st)
  (hs : DIn val (arrOf st) lo (lo + (n + 1))) (h : ∀ m st',SF κ a₀ lo st₀ st' → 1 ≤ m → m ≤ nrem → SIn val (arrOf st') lo (lo + m) → Q (some m) st') :
  wpS (model prog w) A E s (zf7 lo n nrem) Q st:=by
 unfold zf7
 (refine wpS_bind (wpS_lift (wpAny_rule ⟨rfl,?_⟩)))
 refine wpS_bind (zl5 hC hn (by omega) hnn hB hs fun m neq st' hB' hm1 hm2 hs' hq he => ?_)
 dsimp only
 have hsz : lo + m ≤ (arrOf st').size:=by rw [hB'.b.size]; omega
 by_cases hneq : neq > 0
 ·rw [if_pos hneq]
  refine wpS_bind (zhq (zjv hC hn (by omega) hm2 (hB'.setArr (mirror_perm _ _ _ _) (zbJ hsz (by omega))) ?_ h))
  intro i j hli hij hj
  show Vk val (mirror (arrOf st') _ _ _) j ≤ Vk val (mirror (arrOf st') _ _ _) i
  rw [za4 hsz he,za4 hsz he]
  exact hs' i j hli hij hj
 ·rw [if_neg hneq]
  exact zjv hC hn (by omega) hm2 hB' hs' h
theorem zkz {st₀ st : SortSt} {lo nrem : Nat} {Q : Option Nat → SortSt → Prop} (hC : Cmp prog w A s κ val a₀) (hn : lo + nrem ≤ a₀.size) (h1 : 1 ≤ nrem) (hB : SF κ a₀ lo st₀ st)
  (h : ∀ m st',SF κ a₀ lo st₀ st' → 1 ≤ m → m ≤ nrem → SIn val (arrOf st') lo (lo + m) → Q (some m) st') :
  wpS (model prog w) A E s (countRun' lo nrem) Q st:=by
 rw [zfh]
 refine wpS_bind (zlp hC hn (Nat.le_refl 1) h1 hB (fun i j hli hij hj => (by
   have e : i = j:=by omega
   rw [e]
   exact Int.le_refl _)) fun n hn1 hn2 hsn hor => ?_)
 dsimp only
 by_cases hnn : n = nrem
 ·(rw [if_pos (by simpa using hnn)])
  (exact wpS_pure (h n st hB hn1 hn2 hsn))
 ·(rw [if_neg (by simpa using hnn)])
  have hlt : Vk val (arrOf st) (lo + n) < Vk val (arrOf st) (lo + n - 1):=hor.resolve_left hnn
  by_cases hgt : n > 1
  ·rw [if_pos hgt]
   refine wpS_bind (zdY hC hB.b (by omega) (by omega) ?_)
   by_cases hrose : Vk val (arrOf st) lo < Vk val (arrOf st) (lo + n - 1)
   ·(simp only [hrose,decide_true,if_true])
    (exact wpS_pure (h n st hB hn1 hn2 hsn))
   ·(simp only [hrose,decide_false,Bool.false_eq_true,if_false])
    have hsz : lo + n ≤ (arrOf st).size:=by rw [hB.b.size]; omega
    have hall : ∀ k,lo ≤ k → k < lo + n → Vk val (arrOf st) k = Vk val (arrOf st) (lo + n - 1):=by
     intro k hk0 hk
     have a1:=hsn lo k (Nat.le_refl _) hk0 hk
     have a2:=hsn k (lo + n - 1) hk0 (by omega) (by omega)
     omega
    refine wpS_bind (zhq (zhs hC hn (by omega) (hB.setArr (mirror_perm _ _ _ _) (zbJ hsz (Nat.le_refl _))) ?_ h))
    intro i j hli hij hj
    show Vk val (mirror (arrOf st) _ _ _) j ≤ Vk val (mirror (arrOf st) _ _ _) i
    rw [za4 hsz hall,za4 hsz hall]
    by_cases hjn : j < lo + n
    ·(rw [hall i (by omega) (by omega),hall j (by omega) hjn]; exact Int.le_refl _)
    ·have hj' : j = lo + n:=by omega
     subst hj'
     by_cases hi' : i = lo + n
     ·(subst hi'; exact Int.le_refl _)
     ·(rw [hall i (by omega) (by omega)]; exact Int.le_of_lt hlt)
  ·rw [if_neg hgt]
   have hn1' : n = 1:=by omega
   subst hn1'
   refine zhs hC hn (by omega) hB ?_ h
   intro i j hli hij hj
   by_cases hi' : i = j
   ·(subst hi'; exact Int.le_refl _)
   ·have hi0 : i = lo:=by omega
    have hj1 : j = lo + 1:=by omega
    subst hi0; subst hj1
    exact Int.le_of_lt hlt
theorem zf8 {xs : Array Keyed} {src d : Nat} (hs : src < xs.size) (hd : d ≤ src) (k : Nat) :
  Vk val (bubble xs src d) k = if k = src - d then Vk val xs src else if src - d < k ∧ k ≤ src then Vk val xs (k - 1) else Vk val xs k:=by
 (have e:=getElem?_bubble hs d hd k)
 by_cases h1 : k = src - d
 ·rw [if_pos h1] at e ⊢; exact zV e
 ·rw [if_neg h1] at e ⊢
  (by_cases h2 : src - d < k ∧ k ≤ src)
  ·rw [if_pos h2] at e ⊢; exact zV e
  ·rw [if_neg h2] at e ⊢; exact zV e
theorem zmR {st₀ st : SortSt} {lo n ok : Nat} {Q : Bool → SortSt → Prop} (hC : Cmp prog w A s κ val a₀) (hn : lo + n ≤ a₀.size) (hok : ok ≤ n) (hB : SF κ a₀ lo st₀ st) (hs : SIn val (arrOf st) lo (lo + ok))
  (h : ∀ st',SF κ a₀ lo st₀ st' → SIn val (arrOf st') lo (lo + n) → Q true st') : wpS (model prog w) A E s (binarySort' lo n ok) Q st:=by
 rw [binarySort'_eq]
 refine wpS_bind (wpS_mono (wpS_forRange (I:=fun k c st' => c = (none,()) ∧ SF κ a₀ lo st₀ st' ∧ SIn val (arrOf st') lo (lo + min k n))
  (Q:=fun c st' => c = (none,()) ∧ SF κ a₀ lo st₀ st' ∧ SIn val (arrOf st') lo (lo + n)) ?step ?fin ?init) ?post)
 case post =>
  rintro c st' ⟨rfl,hB',hs'⟩
  (exact wpS_pure (h st' hB' hs'))
 case init =>
  refine ⟨rfl,hB,fun i j hli hij hj => ?_⟩
  by_cases h1 : ok = 0
  ·have e : i = j:=by omega
   rw [e]; exact Int.le_refl _
  ·exact hs i j hli hij (by omega)
 case fin =>
  rintro c st' ⟨hc,hB',hs'⟩
  refine ⟨hc,hB',?_⟩
  (rwa [show min (max (max ok 1) n) n = n by omega] at hs')
 case step =>
  (rintro k c st' hak hkn ⟨rfl,hB',hs'⟩)
  (rw [show min k n = k by omega] at hs')
  have hk : lo + k < a₀.size:=(by omega); refine wpS_bind (wpS_mono (wpS_forRange (I:=fun x c st'' => st'' = st' ∧ ∃ l r,c = (none,l,r) ∧ l ≤ r ∧ r ≤ k ∧ r - l ≤ k - x ∧
    (∀ i,i < l → Vk val (arrOf st') (lo + i) ≤ Vk val (arrOf st') (lo + k)) ∧ (∀ i,r ≤ i → i < k → Vk val (arrOf st') (lo + k) < Vk val (arrOf st') (lo + i)))
   (Q:=fun c st'' => st'' = st' ∧ ∃ l r,c = (none,l,r) ∧ l ≤ k ∧ (∀ i,i < l → Vk val (arrOf st') (lo + i) ≤ Vk val (arrOf st') (lo + k)) ∧ (∀ i,l ≤ i → i < k → Vk val (arrOf st') (lo + k) < Vk val (arrOf st') (lo + i))) ?istep ?ifin ?iinit) ?ipost)
  case iinit => (exact ⟨rfl,0,k,rfl,by omega,by omega,by omega,fun i hi => by omega,fun i h1 h2 => by omega⟩)
  case ifin =>
   (rintro c st'' ⟨rfl,l,r,rfl,hlr,hrk,hm,hlo,hhi⟩)
   have : l = r:=by omega
   subst this
   (exact ⟨rfl,l,l,rfl,hrk,hlo,hhi⟩)
  case istep =>
   (rintro x c st'' _ hxk ⟨rfl,l,r,rfl,hlr,hrk,hm,hlo,hhi⟩)
   dsimp only
   by_cases hge : l ≥ r
   ·rw [if_pos hge]
    have : l = r:=by omega
    subst this
    (exact wpS_pure ⟨rfl,l,l,rfl,hrk,hlo,hhi⟩)
   ·rw [if_neg hge]
    refine wpS_bind (zdY hC hB'.b hk (by omega) ?_)
    by_cases hless : Vk val (arrOf st'') (lo + k) < Vk val (arrOf st'') (lo + (l + r) / 2)
    ·(simp only [hless,decide_true,if_true])
     (refine wpS_pure ⟨rfl,l,(l + r) / 2,rfl,by omega,by omega,by omega,hlo,fun i h1 h2 => ?_⟩)
     exact Int.lt_of_lt_of_le hless (hs' _ _ (by omega) (by omega) (by omega))
    ·(simp only [hless,decide_false,Bool.false_eq_true,if_false])
     (refine wpS_pure ⟨rfl,(l + r) / 2 + 1,r,rfl,by omega,by omega,by omega,fun i h1 => ?_,hhi⟩)
     exact Int.le_trans (hs' (lo + i) (lo + (l + r) / 2) (by omega) (by omega) (by omega)) (Int.not_lt.mp hless)
  case ipost =>
   (rintro c st'' ⟨rfl,l,r,rfl,hlk,hlo,hhi⟩)
   show wpS _ _ _ _ (do moveDown' (lo + k) (lo + l); pure (ForInStep.yield (none,()))) _ _
   rw [moveDown'_eq]
   have hks : lo + k < (arrOf st'').size:=by rw [hB'.b.size]; exact hk
   refine wpS_bind (wpS_modify (wpS_pure ⟨rfl,hB'.setArr (bubble_perm _ _ _) (zgO hks (by omega) (by omega)),?_⟩))
   (rw [show min (k + 1) n = k + 1 by omega])
   intro i j hli hij hj
   show Vk val (bubble (arrOf st'') (lo + k) (lo + k - (lo + l))) i ≤ Vk val (bubble (arrOf st'') (lo + k) (lo + k - (lo + l))) j
   rw [zf8 hks (by omega),zf8 hks (by omega),show lo + k - (lo + k - (lo + l)) = lo + l by omega]
   have hlo' : ∀ i,lo ≤ i → i < lo + l → Vk val (arrOf st'') i ≤ Vk val (arrOf st'') (lo + k):=fun i h1 h2 => by
    have:=hlo (i - lo) (by omega)
    rwa [show lo + (i - lo) = i by omega] at this
   have hhi' : ∀ i,lo + l ≤ i → i < lo + k → Vk val (arrOf st'') (lo + k) < Vk val (arrOf st'') i:=fun i h1 h2 => by
    have:=hhi (i - lo) (by omega) (by omega)
    rwa [show lo + (i - lo) = i by omega] at this
   repeat' split
   all_goals first
    | (exfalso; omega)
    | exact Int.le_refl _
    | exact hlo' _ (by omega) (by omega)
    | exact Int.le_of_lt (hhi' _ (by omega) (by omega))
    | exact hs' _ _ (by omega) (by omega) (by omega)
end
end Srt
end
section
set_option maxHeartbeats 3995000
namespace Srt
open PySem PyProof.Rows
def zkA : Bool → Keyed → Array Keyed → Nat → Nat → Nat → StateT SortSt Sem (Option Nat):=sortPriv% PySem.Builtin.gallop
def zjw : Array Keyed → Array Keyed → StateT SortSt Sem (Array Keyed):=sortPriv% PySem.Builtin.mergeLo
def zjx : Array Keyed → Array Keyed → StateT SortSt Sem (Array Keyed):=sortPriv% PySem.Builtin.mergeHi
def zcq : Nat → StateT SortSt Sem Unit:=sortPriv% PySem.Builtin.setMinGallop
theorem zfi {M : Model} {A : Around} {E : Value → Shared → Prop} {s : Shared} {α : Type} {m : StateT SortSt Sem α} {Q : α → SortSt → Prop} {st : SortSt} (h : wpAny M A (m st) (fun r s' => s' = s ∧ Q r.1 r.2) E s) : wpS M A E s m Q st:=h
theorem zfj {M : Model} {A : Around} {E : Value → Shared → Prop} {s : Shared} {α : Type} {m : StateT SortSt Sem α} {Q : α → SortSt → Prop} {st : SortSt} (h : wpS M A E s m Q st) : wpAny M A (m st) (fun r s' => s' = s ∧ Q r.1 r.2) E s:=h
section
variable {prog : Program} {w : World} {A : Around} {E : Value → Shared → Prop} {s : Shared} {a₀ : Array Keyed} {κ : SortKind} {val : Keyed → Int}
def bB (val : Keyed → Int) (left : Bool) (key : Keyed) (arr : Array Keyed) (base i : Nat) : Bool:=if left then decide (Vk val arr (base + i) < val key) else !decide (val key < Vk val arr (base + i))
theorem zcI {left : Bool} {key : Keyed} {arr : Array Keyed} {base n i j : Nat} (hs : SIn val arr base (base + n)) (hij : i ≤ j) (hj : j < n) (h : bB val left key arr base j = true) : bB val left key arr base i = true:=by
 have:=hs (base + i) (base + j) (by omega) (by omega) (by omega)
 unfold bB at h ⊢
 cases left <;> simp at h ⊢ <;> omega
theorem s_beyond {st : SortSt} {left : Bool} {key : Keyed} {arr : Array Keyed} {base i : Nat} {Q : Option Bool → SortSt → Prop} {p : Keyed} (hC : Cmp prog w A s κ val a₀) (hk : kindOf st = κ) (hkey : key ∈ a₀.toList) (he : arr[base + i]? = some p) (hp : p ∈ a₀.toList)
  (h : Q (some (bB val left key arr base i)) st) : wpS (model prog w) A E s (do
   let x ← elem' arr (base + i)
   if left then lt' x key else do
    let r ← lt' key x
    return r.map (!·)) Q st:=by
 refine wpS_bind (zN he ?_)
 unfold bB at h
 rw [zR he] at h
 cases left with
 | true => exact zjt hC hk hp hkey h
 | false => exact wpS_bind (zjt hC hk hkey hp (wpS_pure h))
abbrev zkB:=Option (Option Nat) × Nat × Nat
theorem zjy {st : SortSt} {left : Bool} {key : Keyed} {arr : Array Keyed} {base n lo hi : Nat} {f : Nat → zkB → StateT SortSt Sem (ForInStep zkB)} (hs : SIn val arr base (base + n)) (hlh : lo ≤ hi) (hhn : hi ≤ n)
  (h1 : ∀ i,i < lo → bB val left key arr base i = true) (h2 : ∀ i,hi ≤ i → i < n → bB val left key arr base i = false)
  (hf : ∀ (x l r : Nat) (R : ForInStep zkB → SortSt → Prop),r ≤ n → (l ≥ r → R (.done (none,l,r)) st) → (l < r → R (if bB val left key arr base (l + (r - l) / 2) = true then .yield (none,l + (r - l) / 2 + 1,r) else .yield (none,l,l + (r - l) / 2)) st) → wpS (model prog w) A E s (f x (none,l,r)) R st) :
  wpS (model prog w) A E s (forIn [0:n] ((none,lo,hi) : zkB) f) (fun c st' => st' = st ∧ ∃ l,c = (none,l,l) ∧ l ≤ n ∧ (∀ i,i < l → bB val left key arr base i = true) ∧ (∀ i,l ≤ i → i < n → bB val left key arr base i = false)) st:=by
 refine wpS_forRange (I:=fun x c st' => st' = st ∧ ∃ l r,c = (none,l,r) ∧ l ≤ r ∧ r ≤ n ∧ r - l ≤ n - x ∧ (∀ i,i < l → bB val left key arr base i = true) ∧ (∀ i,r ≤ i → i < n → bB val left key arr base i = false)) ?step ?fin ⟨rfl,lo,hi,rfl,hlh,hhn,by omega,h1,h2⟩
 case fin =>
  rintro c st' ⟨rfl,l,r,rfl,hlr,hrn,hm,a1,a2⟩
  have : l = r:=by omega
  subst this
  exact ⟨rfl,l,rfl,hrn,a1,a2⟩
 case step =>
  rintro x c st' _ hxn ⟨rfl,l,r,rfl,hlr,hrn,hm,a1,a2⟩
  refine hf x l r _ hrn (fun hge => ?_) (fun hlt => ?_)
  ·have : l = r:=by omega
   subst this
   exact ⟨rfl,l,rfl,hrn,a1,a2⟩
  ·cases hb : bB val left key arr base (l + (r - l) / 2) with
   | true =>
    rw [if_pos rfl]
    exact ⟨rfl,l + (r - l) / 2 + 1,r,rfl,by omega,hrn,by omega,fun i hi => zcI hs (by omega) (by omega) hb,a2⟩
   | false =>
    rw [if_neg (by decide)]
    refine ⟨rfl,l,l + (r - l) / 2,rfl,by omega,by omega,by omega,a1,fun i hi hin => ?_⟩
    cases e : bB val left key arr base i with
    | false => rfl
    | true => rw [zcI hs hi hin e] at hb; cases hb
theorem za5 {st : SortSt} {left : Bool} {key : Keyed} {arr : Array Keyed} {base n hint : Nat} {Q : Option Nat → SortSt → Prop} (hC : Cmp prog w A s κ val a₀) (hk : kindOf st = κ) (hkey : key ∈ a₀.toList)
  (ha : ∀ i,i < n → ∃ p,arr[base + i]? = some p ∧ p ∈ a₀.toList) (hs : SIn val arr base (base + n)) (hh : hint < n)
  (h : ∀ k,k ≤ n → (∀ i,i < k → bB val left key arr base i = true) → (∀ i,k ≤ i → i < n → bB val left key arr base i = false) → Q (some k) st) :
  wpS (model prog w) A E s (zkA left key arr base n hint) Q st:=by
 refine zfi ?_
 wp_delta
 wp_delta
 refine zfj ?_
 dsimp only
 obtain ⟨p,ep,mp⟩:=ha hint hh
 refine wpS_bind (s_beyond hC hk hkey ep mp ?_)
 dsimp only
 have up : ∀ {i j : Nat},i ≤ j → j < n → bB val left key arr base i = false → bB val left key arr base j = false:=fun {i j} hij hj h => by
  cases e : bB val left key arr base j with
  | false => rfl
  | true => rw [zcI hs hij hj e] at h; cases h
 cases hr : bB val left key arr base hint with
 | true =>
  simp only [if_true]
  refine wpS_bind (wpS_mono (wpS_forRange (I:=fun x c st' => st' = st ∧ ∃ l o,c = (none,l,o) ∧ l < o ∧ x + 1 ≤ o ∧ hint + l < n ∧ bB val left key arr base (hint + l) = true)
   (Q:=fun c st' => st' = st ∧ ∃ l o,c = (none,l,o) ∧ l < o ∧ hint + l < n ∧ bB val left key arr base (hint + l) = true ∧ (hint + o < n → bB val left key arr base (hint + o) = false)) ?step ?fin ⟨rfl,0,1,rfl,by omega,by omega,hh,hr⟩) ?post)
  case fin =>
   rintro c st' ⟨rfl,l,o,rfl,hlo,hx,hl,hb⟩
   exact ⟨rfl,l,o,rfl,hlo,hl,hb,fun z => by omega⟩
  case step =>
   rintro x c st' _ hxn ⟨rfl,l,o,rfl,hlo,hx,hl,hb⟩
   dsimp only
   by_cases hge : o ≥ n - hint
   ·rw [if_pos hge]
    exact wpS_pure ⟨rfl,l,o,rfl,hlo,hl,hb,fun z => by omega⟩
   ·rw [if_neg hge]
    obtain ⟨p,ep,mp⟩:=ha (hint + o) (by omega)
    refine wpS_bind (s_beyond hC hk hkey ep mp ?_)
    dsimp only
    cases hb2 : bB val left key arr base (hint + o) with
    | true =>
     rw [if_neg (by decide)]
     exact wpS_pure ⟨rfl,o,2 * o + 1,rfl,by omega,by omega,by omega,hb2⟩
    | false =>
     rw [if_pos (by decide)]
     exact wpS_pure ⟨rfl,l,o,rfl,hlo,hl,hb,fun _ => hb2⟩
  case post =>
   rintro c st' ⟨rfl,l,o,rfl,hlo,hl,hb,hb2⟩
   dsimp only
   refine wpS_bind (wpS_mono (zjy (val:=val) (left:=left) (key:=key) (arr:=arr) (base:=base) hs (by omega) (by omega) (fun i hi => zcI hs (by omega) hl hb) (fun i hi hin => (by
    by_cases ho : hint + o < n
    ·exact up (by omega) hin (hb2 ho)
    ·omega)) (fun x l' r' R hrn k1 k2 => ?_)) ?_)
   ·dsimp only
    by_cases hge : l' ≥ r'
    ·rw [if_pos hge]
     exact wpS_pure (k1 hge)
    ·rw [if_neg hge]
     obtain ⟨p,ep,mp⟩:=ha (l' + (r' - l') / 2) (by omega)
     refine wpS_bind (s_beyond hC hk hkey ep mp ?_)
     have k3:=k2 (by omega)
     dsimp only
     cases hb3 : bB val left key arr base (l' + (r' - l') / 2) with
     | true => rw [hb3] at k3; rw [if_pos rfl] at k3 ⊢; exact wpS_pure k3
     | false => rw [hb3] at k3; rw [if_neg (by decide)] at k3 ⊢; exact wpS_pure k3
   ·rintro c st'' ⟨rfl,l,rfl,hl,b1,b2⟩
    exact wpS_pure (h l hl b1 b2)
 | false =>
  (simp only [Bool.false_eq_true,if_false])
  refine wpS_bind (wpS_mono (wpS_forRange (I:=fun x c st' => st' = st ∧ ∃ l o,c = (none,l,o) ∧ l < o ∧ x + 1 ≤ o ∧ l ≤ hint ∧ bB val left key arr base (hint - l) = false)
   (Q:=fun c st' => st' = st ∧ ∃ l o,c = (none,l,o) ∧ l < o ∧ l ≤ hint ∧ bB val left key arr base (hint - l) = false ∧ (o ≤ hint → bB val left key arr base (hint - o) = true)) ?step ?fin ⟨rfl,0,1,rfl,by omega,by omega,by omega,hr⟩) ?post)
  case fin =>
   rintro c st' ⟨rfl,l,o,rfl,hlo,hx,hl,hb⟩
   exact ⟨rfl,l,o,rfl,hlo,hl,hb,fun z => by omega⟩
  case step =>
   rintro x c st' _ hxn ⟨rfl,l,o,rfl,hlo,hx,hl,hb⟩
   dsimp only
   by_cases hge : o ≥ hint + 1
   ·rw [if_pos hge]
    exact wpS_pure ⟨rfl,l,o,rfl,hlo,hl,hb,fun z => by omega⟩
   ·rw [if_neg hge]
    obtain ⟨p,ep,mp⟩:=ha (hint - o) (by omega)
    refine wpS_bind (s_beyond hC hk hkey ep mp ?_)
    dsimp only
    cases hb2 : bB val left key arr base (hint - o) with
    | false =>
     rw [if_neg (by decide)]
     exact wpS_pure ⟨rfl,o,2 * o + 1,rfl,by omega,by omega,by omega,hb2⟩
    | true =>
     rw [if_pos rfl]
     exact wpS_pure ⟨rfl,l,o,rfl,hlo,hl,hb,fun _ => hb2⟩
  case post =>
   rintro c st' ⟨rfl,l,o,rfl,hlo,hl,hb,hb2⟩
   dsimp only
   refine wpS_bind (wpS_mono (zjy (val:=val) (left:=left) (key:=key) (arr:=arr) (base:=base) hs (by omega) (by omega) (fun i hi => (by
    by_cases ho : o ≤ hint
    ·exact zcI hs (by omega) (by omega) (hb2 ho)
    ·omega)) (fun i hi hin => up hi hin hb) (fun x l' r' R hrn k1 k2 => ?_)) ?_)
   ·dsimp only
    by_cases hge : l' ≥ r'
    ·rw [if_pos hge]
     exact wpS_pure (k1 hge)
    ·rw [if_neg hge]
     obtain ⟨p,ep,mp⟩:=ha (l' + (r' - l') / 2) (by omega)
     refine wpS_bind (s_beyond hC hk hkey ep mp ?_)
     have k3:=k2 (by omega)
     dsimp only
     cases hb3 : bB val left key arr base (l' + (r' - l') / 2) with
     | true => rw [hb3] at k3; rw [if_pos rfl] at k3 ⊢; exact wpS_pure k3
     | false => rw [hb3] at k3; rw [if_neg (by decide)] at k3 ⊢; exact wpS_pure k3
   ·rintro c st'' ⟨rfl,l,rfl,hl,b1,b2⟩
    exact wpS_pure (h l hl b1 b2)
end
end Srt
end
section
set_option maxHeartbeats 3995000
namespace Srt
open PySem PyProof.Rows
abbrev zad (st : SortSt) (g : Nat) : SortSt:=SortSt.mk' (kindOf st) (arrOf st) (pendingOf st) g (failedOf st)
theorem zc1 (g : Nat) : zcq g = modify fun s => zad s g:=rfl
def Le (val : Keyed → Int) (xs ys : List Keyed) : Prop:=∀ x ∈ xs,∀ y ∈ ys,val x ≤ val y
def Ris (val : Keyed → Int) (xs : List Keyed) : Prop:=xs.Pairwise fun x y => val x ≤ val y
theorem zao {val : Keyed → Int} {xs ys : List Keyed} : Ris val (xs ++ ys) ↔ Ris val xs ∧ Ris val ys ∧ Le val xs ys:=List.pairwise_append
structure MI (val : Keyed → Int) (T o l r : List Keyed) : Prop where
 perm : (o ++ l ++ r).Perm T
 so : Ris val o
 sl : Ris val l
 sr : Ris val r
 ol : Le val o l
 or' : Le val o r
def Good (val : Keyed → Int) (T res : List Keyed) : Prop:=res.Perm T ∧ Ris val res
section
variable {val : Keyed → Int} {T o l l1 l2 r r1 r2 : List Keyed}
theorem Le.left {xs ys zs : List Keyed} (h : Le val (xs ++ ys) zs) : Le val xs zs:=fun x hx y hy => h x (List.mem_append_left _ hx) y hy
theorem Le.right {xs ys zs : List Keyed} (h : Le val (xs ++ ys) zs) : Le val ys zs:=fun x hx y hy => h x (List.mem_append_right _ hx) y hy
theorem Le.app {xs ys zs : List Keyed} (h1 : Le val xs zs) (h2 : Le val ys zs) : Le val (xs ++ ys) zs:=fun x hx y hy => by
 rcases List.mem_append.mp hx with h | h
 ·exact h1 x h y hy
 ·exact h2 x h y hy
theorem Le.app' {xs ys zs : List Keyed} (h1 : Le val xs ys) (h2 : Le val xs zs) : Le val xs (ys ++ zs):=fun x hx y hy => by
 rcases List.mem_append.mp hy with h | h
 ·exact h1 x hx y h
 ·exact h2 x hx y h
theorem Le.sub {xs ys zs : List Keyed} (h1 : Le val xs (ys ++ zs)) : Le val xs ys ∧ Le val xs zs:=⟨fun x hx y hy => h1 x hx y (List.mem_append_left _ hy),fun x hx y hy => h1 x hx y (List.mem_append_right _ hy)⟩
theorem MI.takeA (h : MI val T o (l1 ++ l2) r) (hle : Le val l1 r) : MI val T (o ++ l1) l2 r:=by
 obtain ⟨a1,a2,a3⟩:=zao.mp h.sl
 obtain ⟨b1,b2⟩:=h.ol.sub
 exact ⟨by have:=h.perm; simpa [List.append_assoc] using this,zao.mpr ⟨h.so,a1,b1⟩,a2,h.sr,b2.app a3,h.or'.app hle⟩
theorem MI.takeB (h : MI val T o l (r1 ++ r2)) (hle : Le val r1 l) : MI val T (o ++ r1) l r2:=by
 obtain ⟨a1,a2,a3⟩:=zao.mp h.sr
 obtain ⟨b1,b2⟩:=h.or'.sub
 refine ⟨?_,zao.mpr ⟨h.so,a1,b1⟩,h.sl,a2,h.ol.app hle,b2.app a3⟩
 refine List.Perm.trans ?_ h.perm
 have : (r1 ++ l ++ r2).Perm (l ++ r1 ++ r2):=List.perm_append_comm.append_right _
 simpa [List.append_assoc] using this.append_left o
theorem MI.doneA (h : MI val T o l []) : Good val T (o ++ l):=⟨by have:=h.perm; simpa using this,zao.mpr ⟨h.so,h.sl,h.ol⟩⟩
theorem MI.doneB (h : MI val T o [] r) : Good val T (o ++ r):=⟨by have:=h.perm; simpa using this,zao.mpr ⟨h.so,h.sr,h.or'⟩⟩
theorem MI.last (h : MI val T o l r) (hle : Le val r l) : Good val T (o ++ r ++ l):=by
 refine ⟨List.Perm.trans ?_ h.perm,?_⟩
 ·rw [List.append_assoc,List.append_assoc]
  exact List.perm_append_comm.append_left o
 ·exact zao.mpr ⟨zao.mpr ⟨h.so,h.sr,h.or'⟩,h.sl,h.ol.app hle⟩
end
section
variable {val : Keyed → Int} {T : List Keyed} {a b out : Array Keyed} {ia ib : Nat}
abbrev MA (val : Keyed → Int) (T : List Keyed) (a b out : Array Keyed) (ia ib : Nat) : Prop:=MI val T out.toList (a.toList.drop ia) (b.toList.drop ib)
theorem zdu {xs : Array Keyed} {i : Nat} {p : Keyed} (h : xs[i]? = some p) : xs.toList.drop i = p :: xs.toList.drop (i + 1):=by
 have hi : i < xs.toList.length:=by
  have:=(Array.getElem?_eq_some_iff.mp h).1
  simpa using this
 rw [List.drop_eq_getElem_cons hi]
 congr 1
 have:=(Array.getElem?_eq_some_iff.mp h).2
 simpa using this
theorem zcJ {xs : Array Keyed} (h : SIn val xs 0 xs.size) : ∀ i,Ris val (xs.toList.drop i):=by
 have all : Ris val xs.toList:=by
  unfold Ris
  (rw [List.pairwise_iff_getElem])
  intro i j hi hj hij
  (have hi' : i < xs.size:=by simpa using hi)
  (have hj' : j < xs.size:=by simpa using hj)
  have:=h i j (Nat.zero_le _) (by omega) hj'
  rw [zR (getElem?_pos xs i hi'),zR (getElem?_pos xs j hj')] at this
  simpa using this
 exact fun i => List.Pairwise.sublist (List.drop_sublist _ _) all
theorem zdv {xs : Array Keyed} {i : Nat} {p q : Keyed} (h : SIn val xs 0 xs.size) (hp : xs[i]? = some p) (hq : q ∈ xs.toList.drop i) : val p ≤ val q:=by
 have:=zcJ h i
 rw [zdu hp] at this hq
 rcases (List.mem_cons.mp hq) with rfl | hq
 ·exact Int.le_refl _
 ·exact List.rel_of_pairwise_cons this hq
theorem MA.pushB {y x : Keyed} (h : MA val T a b out ia ib) (sa : SIn val a 0 a.size) (hy : b[ib]? = some y) (hx : a[ia]? = some x) (hle : val y ≤ val x) : MA val T a b (out.push y) ia (ib + 1):=by
 unfold MA at h ⊢
 rw [zdu hy] at h
 have:=MI.takeB (r1:=[y]) h fun p hp q hq => by
  rw [List.mem_singleton.mp hp]
  exact Int.le_trans hle (zdv sa hx hq)
 simpa using this
theorem MA.pushA {y x : Keyed} (h : MA val T a b out ia ib) (sb : SIn val b 0 b.size) (hy : b[ib]? = some y) (hx : a[ia]? = some x) (hle : val x ≤ val y) : MA val T a b (out.push x) (ia + 1) ib:=by
 unfold MA at h ⊢
 rw [zdu hx] at h
 have:=MI.takeA (l1:=[x]) h fun p hp q hq => by
  rw [List.mem_singleton.mp hp]
  exact Int.le_trans hle (zdv sb hy hq)
 simpa using this
theorem zjz (xs : Array Keyed) (i k : Nat) : xs.toList.drop i = (xs.extract i (i + k)).toList ++ xs.toList.drop (i + k):=by
 rw [Array.toList_extract]
 have : (xs.toList.extract i (i + k)) = (xs.toList.drop i).take k:=by
  simp [List.extract_eq_take_drop] <;> omega
 rw [this,← List.drop_drop,List.take_append_drop]
theorem zdw {xs : Array Keyed} {i k : Nat} {p : Keyed} (h : p ∈ (xs.extract i (i + k)).toList) : ∃ j,j < k ∧ xs[i + j]? = some p:=by
 have e0 : (xs.extract i (i + k)).toList = (xs.toList.drop i).take k:=by
  rw [Array.toList_extract]
  simp [List.extract_eq_take_drop] <;> omega
 rw [e0] at h
 (obtain ⟨j,hj,e⟩:=List.getElem_of_mem h)
 have hj2 : j < k ∧ j < (xs.toList.drop i).length:=by
  rw [List.length_take] at hj
  omega
 refine ⟨j,hj2.1,?_⟩
 rw [← Array.getElem?_toList,← List.getElem?_drop,List.getElem?_eq_getElem hj2.2,← e,List.getElem_take]
theorem MA.takeA {y : Keyed} {k : Nat} (h : MA val T a b out ia ib) (sb : SIn val b 0 b.size) (hy : b[ib]? = some y) (hle : ∀ i,i < k → Vk val a (ia + i) ≤ val y) : MA val T a b (out ++ a.extract ia (ia + k)) (ia + k) ib:=by
 unfold MA at h ⊢
 rw [zjz a ia k] at h
 have:=MI.takeA h fun p hp q hq => by
  obtain ⟨j,hj,e⟩:=zdw hp
  have:=hle j hj
  rw [zR e] at this
  exact Int.le_trans this (zdv sb hy hq)
 simpa using this
theorem MA.takeB {x : Keyed} {k : Nat} (h : MA val T a b out ia ib) (sa : SIn val a 0 a.size) (hx : a[ia]? = some x) (hle : ∀ i,i < k → Vk val b (ib + i) ≤ val x) : MA val T a b (out ++ b.extract ib (ib + k)) ia (ib + k):=by
 unfold MA at h ⊢
 rw [zjz b ib k] at h
 have:=MI.takeB h fun p hp q hq => by
  obtain ⟨j,hj,e⟩:=zdw hp
  have:=hle j hj
  rw [zR e] at this
  exact Int.le_trans this (zdv sa hx hq)
 simpa using this
theorem zcc (xs : Array Keyed) (i : Nat) : (xs.extract i xs.size).toList = xs.toList.drop i:=by
 rw [Array.toList_extract]
 simp only [List.extract_eq_take_drop]
 (exact List.take_of_length_le (by simp))
theorem MA.doneB (h : MA val T a b out ia ib) (e : ib = b.size) : Good val T (out ++ a.extract ia a.size ++ b.extract ib b.size).toList:=by
 unfold MA at h
 rw [show b.toList.drop ib = [] from List.drop_eq_nil_of_le (by simp [e])] at h
 have:=h.doneA
 rw [Array.toList_append,Array.toList_append,zcc,zcc,show b.toList.drop ib = [] from List.drop_eq_nil_of_le (by simp [e]),List.append_nil]
 exact this
theorem MA.doneA (h : MA val T a b out ia ib) (e : ia = a.size) : Good val T (out ++ a.extract ia a.size ++ b.extract ib b.size).toList:=by
 unfold MA at h
 rw [show a.toList.drop ia = [] from List.drop_eq_nil_of_le (by simp [e])] at h
 have:=h.doneB
 rw [Array.toList_append,Array.toList_append,zcc,zcc,show a.toList.drop ia = [] from List.drop_eq_nil_of_le (by simp [e]),List.append_nil]
 exact this
theorem MA.last (h : MA val T a b out ia ib) (e : ia + 1 = a.size) (hl : ∀ i,i < b.size → Vk val b i ≤ Vk val a (a.size - 1)) : Good val T (out ++ b.extract ib b.size ++ a.extract ia a.size).toList:=by
 unfold MA at h
 have hx : a[ia]? = some (a[ia]'(by omega)):=getElem?_pos a ia (by omega)
 have:=h.last fun p hp q hq => by
  rw [zdu hx,show a.toList.drop (ia + 1) = [] from List.drop_eq_nil_of_le (by simp [e])] at hq
  rw [List.mem_singleton.mp hq]
  obtain ⟨j,hj,ej⟩:=List.getElem_of_mem (List.mem_of_mem_drop hp)
  have hj' : j < b.size:=by simpa using hj
  have:=hl j hj'
  rw [zR (getElem?_pos b j hj'),show a.size - 1 = ia by omega,zR hx] at this
  rw [← ej]
  simpa using this
 rw [Array.toList_append,Array.toList_append,zcc,zcc]
 exact this
end
end Srt
end
section
set_option maxHeartbeats 3995000
namespace Srt
open PySem PyProof.Rows
section
variable {prog : Program} {w : World} {A : Around} {E : Value → Shared → Prop} {s : Shared} {a₀ : Array Keyed} {κ : SortKind} {val : Keyed → Int}
theorem zcK {st : SortSt} {g : Nat} {Q : Unit → SortSt → Prop} (h : Q () (zad st g)) : wpS (model prog w) A E s (zcq g) Q st:=by
 rw [zc1]
 exact wpS_modify h
theorem zal {xs : Array Keyed} {i : Nat} (h : i < xs.size) : ∃ p,xs[i]? = some p ∧ p ∈ xs.toList:=⟨xs[i],getElem?_pos xs i h,by simp⟩
theorem zbK {key : Keyed} {arr : Array Keyed} {base i : Nat} (h : bB val true key arr base i = true) : Vk val arr (base + i) < val key:=by
 unfold bB at h
 simpa using h
theorem zcL {key : Keyed} {arr : Array Keyed} {base i : Nat} (h : bB val false key arr base i = true) : Vk val arr (base + i) ≤ val key:=by
 unfold bB at h
 simp at h
 omega
theorem zcu {key : Keyed} {arr : Array Keyed} {base i : Nat} (h : bB val true key arr base i = false) : val key ≤ Vk val arr (base + i):=by
 unfold bB at h
 simp at h
 omega
theorem zdx {key : Keyed} {arr : Array Keyed} {base i : Nat} (h : bB val false key arr base i = false) : val key < Vk val arr (base + i):=by
 unfold bB at h
 simp at h
 exact h
theorem SIn.sub {xs : Array Keyed} {lo hi lo' hi' : Nat} (h : SIn val xs lo hi) (h1 : lo ≤ lo') (h2 : hi' ≤ hi) : SIn val xs lo' hi':=fun i j a b c => h i j (by omega) b (by omega)
theorem zin {st : SortSt} {a b : Array Keyed} {Q : Array Keyed → SortSt → Prop} (hC : Cmp prog w A s κ val a₀) (hk : kindOf st = κ) (ma : ∀ p ∈ a.toList,p ∈ a₀.toList) (mb : ∀ p ∈ b.toList,p ∈ a₀.toList)
  (sa : SIn val a 0 a.size) (sb : SIn val b 0 b.size) (h1 : 1 ≤ a.size) (h2 : 1 ≤ b.size) (hf : Vk val b 0 ≤ Vk val a 0) (hl : ∀ i,i < b.size → Vk val b i ≤ Vk val a (a.size - 1))
  (h : ∀ out g,Good val (a.toList ++ b.toList) out.toList → Q out (zad st g)) : wpS (model prog w) A E s (zjw a b) Q st:=by
 refine zfi ?_
 wp_delta
 wp_delta
 refine zfj ?_
 (refine wpS_bind (wpS_lift (wpAny_rule ⟨rfl,?_⟩)))
 obtain ⟨y0,ey0,my0⟩:=zal (xs:=b) (i:=0) (by omega)
 obtain ⟨x0,ex0,mx0⟩:=zal (xs:=a) (i:=0) (by omega)
 refine wpS_bind (zN ey0 ?_)
 have I0 : MA val (a.toList ++ b.toList) a b #[] 0 0:=⟨by simp,List.Pairwise.nil,zcJ sa 0,zcJ sb 0,fun x hx => by simp at hx,fun x hx => by simp at hx⟩
 have I1 : MA val (a.toList ++ b.toList) a b #[y0] 0 1:=I0.pushB sa ey0 ex0 (by rw [zR ey0,zR ex0] at hf; exact hf)
 dsimp only
 by_cases hb1 : 1 = b.size
 ·rw [if_pos (by simpa using hb1)]
  exact wpS_pure (h _ (gallopOf st) (I1.doneB hb1))
 rw [if_neg (by simpa using hb1)]
 by_cases ha1 : 0 + 1 = a.size
 ·rw [if_pos (by simpa using ha1)]
  exact wpS_pure (h _ (gallopOf st) (I1.last (by omega) hl))
 rw [if_neg (by simpa using ha1)]
 refine wpS_bind (wpS_get ?_)
 refine wpS_bind (wpS_mono (wpS_forRange (I:=fun x c st' => ∃ g out ia ib mg,st' = zad st g ∧ c = (none,out,ia,ib,mg) ∧ MA val (a.toList ++ b.toList) a b out ia ib ∧ ia + 1 < a.size ∧ ib < b.size ∧ x + 1 ≤ ia + ib)
  (Q:=fun c st' => ∃ g r o,st' = zad st g ∧ c = (some r,o) ∧ Good val (a.toList ++ b.toList) r.toList) ?step ?fin ⟨gallopOf st,#[y0],0,1,gallopOf st,rfl,rfl,I1,by omega,by omega,by omega⟩) ?post)
 case post =>
  rintro c st' ⟨g,r,o,rfl,rfl,hG⟩
  exact wpS_pure (h _ g hG)
 case fin =>
  rintro c st' ⟨g,out,ia,ib,mg,rfl,rfl,hI,b1,b2,b3⟩
  omega
 case step =>
  rintro x c st' _ hx ⟨g,out,ia,ib,mg,rfl,rfl,hI,b1,b2,b3⟩
  dsimp only
  refine wpS_bind (wpS_mono (wpS_forRange (I:=fun x c st' => st' = zad st g ∧ ∃ out' ia' ib' ac bc,c = (none,out',ia',ib',ac,bc) ∧ MA val (a.toList ++ b.toList) a b out' ia' ib' ∧ ia' + 1 < a.size ∧ ib' < b.size ∧ ia + ib + x ≤ ia' + ib')
   (Q:=fun c st' => st' = zad st g ∧ ((∃ r o,c = (some r,o) ∧ Good val (a.toList ++ b.toList) r.toList) ∨ ∃ out' ia' ib' ac bc,c = (none,out',ia',ib',ac,bc) ∧ MA val (a.toList ++ b.toList) a b out' ia' ib' ∧ ia' + 1 < a.size ∧ ib' < b.size ∧ ia + ib + 1 ≤ ia' + ib')) ?step1 ?fin1 ⟨rfl,out,ia,ib,0,0,rfl,hI,b1,b2,by omega⟩) ?post1)
  case fin1 =>
   rintro c st' ⟨rfl,out',ia',ib',ac,bc,rfl,hI,b1,b2,b3⟩
   exact ⟨rfl,.inr ⟨out',ia',ib',ac,bc,rfl,hI,b1,b2,by omega⟩⟩
  case step1 =>
   rintro x1 c st' _ hx1 ⟨rfl,out',ia',ib',ac,bc,rfl,hI,b1,b2,b3⟩
   dsimp only
   obtain ⟨y,ey,my⟩:=zal (xs:=b) (i:=ib') (by omega)
   obtain ⟨z,ez,mz⟩:=zal (xs:=a) (i:=ia') (by omega)
   refine wpS_bind (zN ey (wpS_bind (zN ez (wpS_bind (zjt hC hk (mb y my) (ma z mz) ?_)))))
   dsimp only
   by_cases hyz : val y < val z
   ·rw [if_pos (by simpa using hyz)]
    refine wpS_bind (zN ey ?_)
    have hI2:=hI.pushB sa ey ez (by omega)
    by_cases e1 : ib' + 1 = b.size
    ·rw [if_pos (by simpa using e1)]
     exact wpS_pure ⟨rfl,.inl ⟨_,_,rfl,hI2.doneB e1⟩⟩
    rw [if_neg (by simpa using e1)]
    split
    ·exact wpS_pure ⟨rfl,.inr ⟨_,_,_,_,_,rfl,hI2,b1,by omega,by omega⟩⟩
    ·exact wpS_pure ⟨rfl,_,_,_,_,_,rfl,hI2,b1,by omega,by omega⟩
   ·rw [if_neg (by simpa using hyz)]
    refine wpS_bind (zN ez ?_)
    have hI2:=hI.pushA sb ey ez (by omega)
    by_cases e1 : ia' + 1 + 1 = a.size
    ·rw [if_pos (by simpa using e1)]
     exact wpS_pure ⟨rfl,.inl ⟨_,_,rfl,hI2.last e1 hl⟩⟩
    rw [if_neg (by simpa using e1)]
    split
    ·exact wpS_pure ⟨rfl,.inr ⟨_,_,_,_,_,rfl,hI2,by omega,b2,by omega⟩⟩
    ·exact wpS_pure ⟨rfl,_,_,_,_,_,rfl,hI2,by omega,b2,by omega⟩
  case post1 =>
   rintro c st' ⟨rfl,hc⟩
   rcases hc with ⟨r,o,rfl,hG⟩ | ⟨out1,ia1,ib1,ac1,bc1,rfl,hI1,c1,c2,c3⟩
   ·exact wpS_pure ⟨g,r,_,rfl,rfl,hG⟩
   dsimp only
   (refine wpS_bind (wpS_lift (wpAny_rule ⟨rfl,?_⟩)))
   refine wpS_bind (wpS_mono (wpS_forRange (I:=fun x c st' => ∃ g out' ia' ib' mg ac bc,st' = zad st g ∧ c = (none,out',ia',ib',mg,ac,bc) ∧ MA val (a.toList ++ b.toList) a b out' ia' ib' ∧ ia' + 1 < a.size ∧ ib' < b.size ∧ ia1 + ib1 ≤ ia' + ib')
    (Q:=fun c st' => ∃ g,st' = zad st g ∧ ((∃ r o,c = (some r,o) ∧ Good val (a.toList ++ b.toList) r.toList) ∨ ∃ out' ia' ib' mg ac bc,c = (none,out',ia',ib',mg,ac,bc) ∧ MA val (a.toList ++ b.toList) a b out' ia' ib' ∧ ia' + 1 < a.size ∧ ib' < b.size ∧ ia1 + ib1 ≤ ia' + ib')) ?step2 ?fin2 ⟨g,out1,ia1,ib1,_,ac1,bc1,rfl,rfl,hI1,c1,c2,Nat.le_refl _⟩) ?post2)
   case fin2 =>
    rintro c st' ⟨g,out',ia',ib',mg,ac,bc,rfl,rfl,hI,b1,b2,b3⟩
    exact ⟨g,rfl,.inr ⟨out',ia',ib',mg,ac,bc,rfl,hI,b1,b2,b3⟩⟩
   case post2 =>
    rintro c st' ⟨g,rfl,hc⟩
    rcases hc with ⟨r,o,rfl,hG⟩ | ⟨out2,ia2,ib2,mg2,ac2,bc2,rfl,hI2,d1,d2,d3⟩
    ·exact wpS_pure ⟨g,r,_,rfl,rfl,hG⟩
    dsimp only
    refine wpS_bind (zcK (wpS_pure ⟨_,out2,ia2,ib2,_,rfl,rfl,hI2,d1,d2,by omega⟩))
   case step2 =>
    rintro x2 c st' _ hx2 ⟨g,out',ia',ib',mg',ac,bc,rfl,rfl,hI,b1,b2,b3⟩
    dsimp only
    obtain ⟨y,ey,my⟩:=zal (xs:=b) (i:=ib') (by omega)
    by_cases hmg : mg' > 1
    all_goals
     first
      | rw [if_pos hmg]
      | rw [if_neg hmg]
     refine wpS_bind (zcK (wpS_bind (zN ey (wpS_bind (za5 hC hk (mb y my) (fun i hi => (by
      obtain ⟨p,ep,mp⟩:=zal (xs:=a) (i:=ia' + i) (by omega)
      exact ⟨p,ep,ma p mp⟩)) (sa.sub (by omega) (by omega)) (by omega) fun k hk1 hk2 hk3 => ?_)))))
     dsimp only
     have hI2:=hI.takeA (k:=k) sb ey fun i hi => zcL (hk2 i hi)
     by_cases hk0 : k > 0
     ·rw [if_pos hk0]
      by_cases e1 : ia' + k + 1 = a.size
      ·rw [if_pos (by simpa using e1)]
       exact wpS_pure ⟨_,rfl,.inl ⟨_,_,rfl,hI2.last e1 hl⟩⟩
      rw [if_neg (by simpa using e1)]
      by_cases e2 : ia' + k = a.size
      ·rw [if_pos (by simpa using e2)]
       exact wpS_pure ⟨_,rfl,.inl ⟨_,_,rfl,hI2.doneA e2⟩⟩
      rw [if_neg (by simpa using e2)]
      refine wpS_bind (zN ey ?_)
      obtain ⟨z,ez,mz⟩:=zal (xs:=a) (i:=ia' + k) (by omega)
      have hI3:=hI2.pushB sa ey ez (by have:=zdx (hk3 k (Nat.le_refl _) (by omega)); rw [zR ez] at this; omega)
      by_cases e3 : ib' + 1 = b.size
      ·rw [if_pos (by simpa using e3)]
       exact wpS_pure ⟨_,rfl,.inl ⟨_,_,rfl,hI3.doneB e3⟩⟩
      rw [if_neg (by simpa using e3)]
      refine wpS_bind (zN ez (wpS_bind (za5 hC hk (ma z mz) (fun i hi => (by
       obtain ⟨p,ep,mp⟩:=zal (xs:=b) (i:=ib' + 1 + i) (by omega)
       exact ⟨p,ep,mb p mp⟩)) (sb.sub (by omega) (by omega)) (by omega) fun j hj1 hj2 hj3 => ?_)))
      dsimp only
      have hI4:=hI3.takeB (k:=j) sa ez fun i hi => Int.le_of_lt (zbK (hj2 i hi))
      by_cases hj0 : j > 0
      ·rw [if_pos hj0]
       by_cases e4 : ib' + 1 + j = b.size
       ·rw [if_pos (by simpa using e4)]
        exact wpS_pure ⟨_,rfl,.inl ⟨_,_,rfl,hI4.doneB e4⟩⟩
       rw [if_neg (by simpa using e4)]
       obtain ⟨y2,ey2,my2⟩:=zal (xs:=b) (i:=ib' + 1 + j) (by omega)
       refine wpS_bind (zN ez ?_)
       have hIc:=hI4.pushA sb ey2 ez (by have:=zcu (hj3 j (Nat.le_refl _) (by omega)); rw [zR ey2] at this; exact this)
       by_cases e9 : ia' + k + 1 + 1 = a.size
       ·rw [if_pos (by simpa using e9)]
        exact wpS_pure ⟨_,rfl,.inl ⟨_,_,rfl,hIc.last e9 hl⟩⟩
       rw [if_neg (by simpa using e9)]
       split
       ·exact wpS_pure ⟨_,rfl,.inr ⟨_,_,_,_,_,_,rfl,hIc,by omega,by omega,by omega⟩⟩
       ·exact wpS_pure ⟨_,_,_,_,_,_,_,rfl,rfl,hIc,by omega,by omega,by omega⟩
      ·rw [if_neg hj0]
       have hj00 : j = 0:=by omega
       subst hj00
       obtain ⟨y2,ey2,my2⟩:=zal (xs:=b) (i:=ib' + 1) (by omega)
       refine wpS_bind (zN ez ?_)
       have hIc:=hI3.pushA sb ey2 ez (by have:=zcu (hj3 0 (Nat.le_refl _) (by omega)); rw [Nat.add_zero,zR ey2] at this; exact this)
       by_cases e9 : ia' + k + 1 + 1 = a.size
       ·rw [if_pos (by simpa using e9)]
        exact wpS_pure ⟨_,rfl,.inl ⟨_,_,rfl,hIc.last e9 hl⟩⟩
       rw [if_neg (by simpa using e9)]
       split
       ·exact wpS_pure ⟨_,rfl,.inr ⟨_,_,_,_,_,_,rfl,hIc,by omega,by omega,by omega⟩⟩
       ·exact wpS_pure ⟨_,_,_,_,_,_,_,rfl,rfl,hIc,by omega,by omega,by omega⟩
     ·rw [if_neg hk0]
      have hk00 : k = 0:=by omega
      subst hk00
      refine wpS_bind (zN ey ?_)
      obtain ⟨z,ez,mz⟩:=zal (xs:=a) (i:=ia') (by omega)
      have hI3:=hI.pushB sa ey ez (by have:=zdx (hk3 0 (Nat.le_refl _) (by omega)); rw [Nat.add_zero,zR ez] at this; omega)
      by_cases e3 : ib' + 1 = b.size
      ·rw [if_pos (by simpa using e3)]
       exact wpS_pure ⟨_,rfl,.inl ⟨_,_,rfl,hI3.doneB e3⟩⟩
      rw [if_neg (by simpa using e3)]
      refine wpS_bind (zN ez (wpS_bind (za5 hC hk (ma z mz) (fun i hi => (by
       obtain ⟨p,ep,mp⟩:=zal (xs:=b) (i:=ib' + 1 + i) (by omega)
       exact ⟨p,ep,mb p mp⟩)) (sb.sub (by omega) (by omega)) (by omega) fun j hj1 hj2 hj3 => ?_)))
      dsimp only
      have hI4:=hI3.takeB (k:=j) sa ez fun i hi => Int.le_of_lt (zbK (hj2 i hi))
      by_cases hj0 : j > 0
      ·rw [if_pos hj0]
       by_cases e4 : ib' + 1 + j = b.size
       ·rw [if_pos (by simpa using e4)]
        exact wpS_pure ⟨_,rfl,.inl ⟨_,_,rfl,hI4.doneB e4⟩⟩
       rw [if_neg (by simpa using e4)]
       obtain ⟨y2,ey2,my2⟩:=zal (xs:=b) (i:=ib' + 1 + j) (by omega)
       refine wpS_bind (zN ez ?_)
       have hIc:=hI4.pushA sb ey2 ez (by have:=zcu (hj3 j (Nat.le_refl _) (by omega)); rw [zR ey2] at this; exact this)
       by_cases e9 : ia' + 1 + 1 = a.size
       ·rw [if_pos (by simpa using e9)]
        exact wpS_pure ⟨_,rfl,.inl ⟨_,_,rfl,hIc.last e9 hl⟩⟩
       rw [if_neg (by simpa using e9)]
       split
       ·exact wpS_pure ⟨_,rfl,.inr ⟨_,_,_,_,_,_,rfl,hIc,by omega,by omega,by omega⟩⟩
       ·exact wpS_pure ⟨_,_,_,_,_,_,_,rfl,rfl,hIc,by omega,by omega,by omega⟩
      ·rw [if_neg hj0]
       have hj00 : j = 0:=by omega
       subst hj00
       obtain ⟨y2,ey2,my2⟩:=zal (xs:=b) (i:=ib' + 1) (by omega)
       refine wpS_bind (zN ez ?_)
       have hIc:=hI3.pushA sb ey2 ez (by have:=zcu (hj3 0 (Nat.le_refl _) (by omega)); rw [Nat.add_zero,zR ey2] at this; exact this)
       by_cases e9 : ia' + 1 + 1 = a.size
       ·rw [if_pos (by simpa using e9)]
        exact wpS_pure ⟨_,rfl,.inl ⟨_,_,rfl,hIc.last e9 hl⟩⟩
       rw [if_neg (by simpa using e9)]
       split
       ·exact wpS_pure ⟨_,rfl,.inr ⟨_,_,_,_,_,_,rfl,hIc,by omega,by omega,by omega⟩⟩
       ·exact wpS_pure ⟨_,_,_,_,_,_,_,rfl,rfl,hIc,by omega,by omega,by omega⟩
end
end Srt
end
section
set_option maxHeartbeats 3995000
namespace Srt
open PySem PyProof.Rows
structure MH (val : Keyed → Int) (T l r o : List Keyed) : Prop where
 perm : (l ++ r ++ o).Perm T
 so : Ris val o
 sl : Ris val l
 sr : Ris val r
 lo : Le val l o
 ro : Le val r o
section
variable {val : Keyed → Int} {T o l l1 l2 r r1 r2 : List Keyed}
theorem MH.takeA (h : MH val T (l1 ++ l2) r o) (hle : Le val r l2) : MH val T l1 r (l2 ++ o):=by
 obtain ⟨a1,a2,a3⟩:=zao.mp h.sl
 refine ⟨?_,zao.mpr ⟨a2,h.so,h.lo.right⟩,a1,h.sr,a3.app' h.lo.left,hle.app' h.ro⟩
 refine List.Perm.trans ?_ h.perm
 have : (r ++ l2).Perm (l2 ++ r):=List.perm_append_comm
 have:=(this.append_left l1).append_right o
 simpa [List.append_assoc] using this
theorem MH.takeB (h : MH val T l (r1 ++ r2) o) (hle : Le val l r2) : MH val T l r1 (r2 ++ o):=by
 obtain ⟨a1,a2,a3⟩:=zao.mp h.sr
 exact ⟨by have:=h.perm; simpa [List.append_assoc] using this,zao.mpr ⟨a2,h.so,h.ro.right⟩,h.sl,a1,hle.app' h.lo,a3.app' h.ro.left⟩
theorem MH.doneA (h : MH val T [] r o) : Good val T (r ++ o):=⟨by have:=h.perm; simpa using this,zao.mpr ⟨h.sr,h.so,h.ro⟩⟩
theorem MH.doneB (h : MH val T l [] o) : Good val T (l ++ o):=⟨by have:=h.perm; simpa using this,zao.mpr ⟨h.sl,h.so,h.lo⟩⟩
theorem MH.first (h : MH val T l r o) (hle : Le val r l) : Good val T (r ++ l ++ o):=by
 refine ⟨List.Perm.trans (List.perm_append_comm.append_right _) h.perm,?_⟩
 exact zao.mpr ⟨zao.mpr ⟨h.sr,h.sl,hle⟩,h.so,h.ro.app h.lo⟩
end
section
variable {val : Keyed → Int} {T : List Keyed} {a b out : Array Keyed} {na nb : Nat}
abbrev MB (val : Keyed → Int) (T : List Keyed) (a b out : Array Keyed) (na nb : Nat) : Prop:=MH val T (a.toList.take na) (b.toList.take nb) out.toList.reverse
theorem zht {xs : Array Keyed} {n : Nat} {p : Keyed} (h : xs[n]? = some p) : xs.toList.take (n + 1) = xs.toList.take n ++ [p]:=by
 rw [List.take_succ,Array.getElem?_toList,h]
 rfl
theorem zf9 {xs : Array Keyed} (h : SIn val xs 0 xs.size) (i : Nat) : Ris val (xs.toList.take i):=by
 have:=zcJ h 0
 rw [List.drop_zero] at this
 exact List.Pairwise.sublist (List.take_sublist _ _) this
theorem zd0 {xs : Array Keyed} {n : Nat} {p : Keyed} (h : p ∈ xs.toList.take n) : ∃ j,j < n ∧ j < xs.size ∧ xs[j]? = some p:=by
 (obtain ⟨j,hj,e⟩:=List.getElem_of_mem h)
 have hj2 : j < n ∧ j < xs.toList.length:=by
  rw [List.length_take] at hj
  omega
 refine ⟨j,hj2.1,by simpa using hj2.2,?_⟩
 rw [← Array.getElem?_toList,List.getElem?_eq_getElem hj2.2,← e,List.getElem_take]
theorem zdy {xs : Array Keyed} {n : Nat} {p q : Keyed} (h : SIn val xs 0 xs.size) (hp : xs[n]? = some p) (hq : q ∈ xs.toList.take (n + 1)) : val q ≤ val p:=by
 obtain ⟨j,hj,hjs,e⟩:=zd0 hq
 have hn:=(Array.getElem?_eq_some_iff.mp hp).1
 have:=h j n (Nat.zero_le _) (by omega) hn
 rw [zR e,zR hp] at this
 exact this
theorem MB.pushA {y x : Keyed} (h : MB val T a b out (na + 1) nb) (sb : SIn val b 0 b.size) (hn : 1 ≤ nb) (hy : b[nb - 1]? = some y) (hx : a[na]? = some x) (hle : val y ≤ val x) : MB val T a b (out.push x) na nb:=by
 unfold MB at h ⊢
 rw [zht hx] at h
 have:=MH.takeA h fun p hp q hq => by
  rw [List.mem_singleton.mp hq]
  exact Int.le_trans (zdy sb hy (by rw [show nb - 1 + 1 = nb by omega]; exact hp)) hle
 simpa using this
theorem MB.pushB {y x : Keyed} (h : MB val T a b out na (nb + 1)) (sa : SIn val a 0 a.size) (hn : 1 ≤ na) (hy : b[nb]? = some y) (hx : a[na - 1]? = some x) (hle : val x ≤ val y) : MB val T a b (out.push y) na nb:=by
 unfold MB at h ⊢
 rw [zht hy] at h
 have:=MH.takeB h fun p hp q hq => by
  rw [List.mem_singleton.mp hq]
  exact Int.le_trans (zdy sa hx (by rw [show na - 1 + 1 = na by omega]; exact hp)) hle
 simpa using this
theorem zhu (xs : Array Keyed) {i n : Nat} (h : i ≤ n) : xs.toList.take n = xs.toList.take i ++ (xs.extract i n).toList:=by
 rw [Array.toList_extract]
 simp only [List.extract_eq_take_drop]
 rw [← List.take_append_drop i (xs.toList.take n),List.take_take,Nat.min_eq_left h,List.drop_take]
theorem MB.takeA {y : Keyed} {at' : Nat} (h : MB val T a b out na nb) (sb : SIn val b 0 b.size) (hat : at' ≤ na) (hn : 1 ≤ nb) (hy : b[nb - 1]? = some y) (hle : ∀ i,at' ≤ i → i < na → val y ≤ Vk val a i) : MB val T a b (out ++ (a.extract at' na).reverse) at' nb:=by
 unfold MB at h ⊢
 rw [zhu a hat] at h
 have:=MH.takeA h fun p hp q hq => by
  have hq2 : q ∈ (a.extract at' (at' + (na - at'))).toList:=by rw [show at' + (na - at') = na by omega]; exact hq
  obtain ⟨j,hj,e⟩:=zdw hq2
  have:=hle (at' + j) (by omega) (by omega)
  rw [zR e] at this
  exact Int.le_trans (zdy sb hy (by rw [show nb - 1 + 1 = nb by omega]; exact hp)) this
 simpa using this
theorem MB.takeB {x : Keyed} {at' : Nat} (h : MB val T a b out na nb) (sa : SIn val a 0 a.size) (hat : at' ≤ nb) (hn : 1 ≤ na) (hx : a[na - 1]? = some x) (hle : ∀ i,at' ≤ i → i < nb → val x ≤ Vk val b i) : MB val T a b (out ++ (b.extract at' nb).reverse) na at':=by
 unfold MB at h ⊢
 rw [zhu b hat] at h
 have:=MH.takeB h fun p hp q hq => by
  have hq2 : q ∈ (b.extract at' (at' + (nb - at'))).toList:=by rw [show at' + (nb - at') = nb by omega]; exact hq
  obtain ⟨j,hj,e⟩:=zdw hq2
  have:=hle (at' + j) (by omega) (by omega)
  rw [zR e] at this
  exact Int.le_trans (zdy sa hx (by rw [show na - 1 + 1 = na by omega]; exact hp)) this
 simpa using this
theorem zbv (xs : Array Keyed) (n : Nat) : (xs.extract 0 n).toList = xs.toList.take n:=by
 rw [Array.toList_extract]
 simp [List.extract_eq_take_drop]
theorem MB.doneA (h : MB val T a b out na nb) (e : na = 0) : Good val T (a.extract 0 na ++ b.extract 0 nb ++ out.reverse).toList:=by
 unfold MB at h
 subst e
 have:=MH.doneA h
 rw [Array.toList_append,Array.toList_append,zbv,zbv,List.take_zero,List.nil_append,Array.toList_reverse]
 exact this
theorem MB.doneB (h : MB val T a b out na nb) (e : nb = 0) : Good val T (a.extract 0 na ++ b.extract 0 nb ++ out.reverse).toList:=by
 unfold MB at h
 subst e
 have:=MH.doneB h
 rw [Array.toList_append,Array.toList_append,zbv,zbv,List.take_zero,List.append_nil,Array.toList_reverse]
 exact this
theorem MB.first (h : MB val T a b out na nb) (e : nb = 1) (sa : SIn val a 0 a.size) (h2 : 1 ≤ b.size) (hf : Vk val b 0 ≤ Vk val a 0) : Good val T (b.extract 0 nb ++ a.extract 0 na ++ out.reverse).toList:=by
 unfold MB at h
 subst e
 have:=MH.first h fun p hp q hq => by
  obtain ⟨j,hj,hjs,ej⟩:=zd0 hp
  have hj0 : j = 0:=by omega
  subst hj0
  obtain ⟨i,hi,his,ei⟩:=zd0 hq
  have:=sa 0 i (Nat.zero_le _) (Nat.zero_le _) his
  rw [zR ei] at this
  rw [zR ej] at hf
  omega
 rw [Array.toList_append,Array.toList_append,zbv,zbv,Array.toList_reverse]
 exact this
end
section
variable {prog : Program} {w : World} {A : Around} {E : Value → Shared → Prop} {s : Shared} {a₀ : Array Keyed} {κ : SortKind} {val : Keyed → Int}
theorem zio {st : SortSt} {a b : Array Keyed} {Q : Array Keyed → SortSt → Prop} (hC : Cmp prog w A s κ val a₀) (hk : kindOf st = κ) (ma : ∀ p ∈ a.toList,p ∈ a₀.toList) (mb : ∀ p ∈ b.toList,p ∈ a₀.toList)
  (sa : SIn val a 0 a.size) (sb : SIn val b 0 b.size) (h1 : 1 ≤ a.size) (h2 : 1 ≤ b.size) (hf : Vk val b 0 ≤ Vk val a 0) (hl : ∀ i,i < b.size → Vk val b i ≤ Vk val a (a.size - 1))
  (h : ∀ out g,Good val (a.toList ++ b.toList) out.toList → Q out (zad st g)) : wpS (model prog w) A E s (zjx a b) Q st:=by
 refine zfi ?_
 wp_delta
 wp_delta
 refine zfj ?_
 (refine wpS_bind (wpS_lift (wpAny_rule ⟨rfl,?_⟩)))
 obtain ⟨x0,ex0,mx0⟩:=zal (xs:=a) (i:=a.size - 1) (by omega)
 obtain ⟨y0,ey0,my0⟩:=zal (xs:=b) (i:=b.size - 1) (by omega)
 refine wpS_bind (zN ex0 ?_)
 have I0 : MB val (a.toList ++ b.toList) a b #[] (a.size - 1 + 1) b.size:=by
  refine ⟨?_,List.Pairwise.nil,zf9 sa _,zf9 sb _,fun x _ y hy => by simp at hy,fun x _ y hy => by simp at hy⟩
  rw [show a.size - 1 + 1 = a.size by omega,List.take_of_length_le (by simp),List.take_of_length_le (by simp)]
  simp
 have I1 : MB val (a.toList ++ b.toList) a b #[x0] (a.size - 1) b.size:=I0.pushA sb h2 ey0 ex0 (by have:=hl (b.size - 1) (by omega); rw [zR ey0,zR ex0] at this; exact this)
 dsimp only
 by_cases ha1 : a.size - 1 = 0
 ·rw [if_pos (by simpa using ha1)]
  exact wpS_pure (h _ (gallopOf st) (I1.doneA ha1))
 rw [if_neg (by simpa using ha1)]
 by_cases hb1 : b.size = 1
 ·rw [if_pos (by simpa using hb1)]
  exact wpS_pure (h _ (gallopOf st) (I1.first hb1 sa h2 hf))
 rw [if_neg (by simpa using hb1)]
 refine wpS_bind (wpS_get ?_)
 refine wpS_bind (wpS_mono (wpS_forRange (I:=fun x c st' => ∃ g out na nb mg,st' = zad st g ∧ c = (none,na,nb,out,mg) ∧ MB val (a.toList ++ b.toList) a b out na nb ∧ 1 ≤ na ∧ 2 ≤ nb ∧ na ≤ a.size ∧ nb ≤ b.size ∧ x + na + nb + 1 ≤ a.size + b.size)
  (Q:=fun c st' => ∃ g r o,st' = zad st g ∧ c = (some r,o) ∧ Good val (a.toList ++ b.toList) r.toList) ?step ?fin ⟨gallopOf st,#[x0],a.size - 1,b.size,gallopOf st,rfl,rfl,I1,by omega,by omega,by omega,by omega,by omega⟩) ?post)
 case post =>
  rintro c st' ⟨g,r,o,rfl,rfl,hG⟩
  exact wpS_pure (h _ g hG)
 case fin =>
  rintro c st' ⟨g,out,na,nb,mg,rfl,rfl,hI,b1,b2,b3⟩
  omega
 case step =>
  rintro x c st' _ hx ⟨g,out,na,nb,mg,rfl,rfl,hI,b1,b2,b4,b5,b3⟩
  dsimp only
  refine wpS_bind (wpS_mono (wpS_forRange (I:=fun x c st' => st' = zad st g ∧ ∃ out' na' nb' ac bc,c = (none,na',nb',out',ac,bc) ∧ MB val (a.toList ++ b.toList) a b out' na' nb' ∧ 1 ≤ na' ∧ 2 ≤ nb' ∧ na' ≤ a.size ∧ nb' ≤ b.size ∧ x + na' + nb' ≤ na + nb)
   (Q:=fun c st' => st' = zad st g ∧ ((∃ r o,c = (some r,o) ∧ Good val (a.toList ++ b.toList) r.toList) ∨ ∃ out' na' nb' ac bc,c = (none,na',nb',out',ac,bc) ∧ MB val (a.toList ++ b.toList) a b out' na' nb' ∧ 1 ≤ na' ∧ 2 ≤ nb' ∧ na' ≤ a.size ∧ nb' ≤ b.size ∧ 1 + na' + nb' ≤ na + nb)) ?step1 ?fin1 ⟨rfl,out,na,nb,0,0,rfl,hI,b1,b2,b4,b5,by omega⟩) ?post1)
  case fin1 =>
   rintro c st' ⟨rfl,out',na',nb',ac,bc,rfl,hI,b1,b2,b4,b5,b3⟩
   exact ⟨rfl,.inr ⟨out',na',nb',ac,bc,rfl,hI,b1,b2,b4,b5,by omega⟩⟩
  case step1 =>
   rintro x1 c st' _ hx1 ⟨rfl,out',na',nb',ac,bc,rfl,hI,b1,b2,b4,b5,b3⟩
   dsimp only
   obtain ⟨n1,rfl⟩ : ∃ n1,na' = n1 + 1:=⟨na' - 1,by omega⟩
   obtain ⟨m1,rfl⟩ : ∃ m1,nb' = m1 + 1:=⟨nb' - 1,by omega⟩
   simp only [Nat.add_sub_cancel]
   obtain ⟨y,ey,my⟩:=zal (xs:=b) (i:=m1) (by omega)
   obtain ⟨z,ez,mz⟩:=zal (xs:=a) (i:=n1) (by omega)
   refine wpS_bind (zN ey (wpS_bind (zN ez (wpS_bind (zjt hC hk (mb y my) (ma z mz) ?_)))))
   dsimp only
   by_cases hyz : val y < val z
   ·rw [if_pos (by simpa using hyz)]
    refine wpS_bind (zN ez ?_)
    have hI2:=hI.pushA sb (by omega) ey ez (by omega)
    by_cases e1 : n1 = 0
    ·rw [if_pos (by simpa using e1)]
     exact wpS_pure ⟨rfl,.inl ⟨_,_,rfl,hI2.doneA e1⟩⟩
    rw [if_neg (by simpa using e1)]
    split
    ·exact wpS_pure ⟨rfl,.inr ⟨_,_,_,_,_,rfl,hI2,by omega,by omega,by omega,by omega,by omega⟩⟩
    ·exact wpS_pure ⟨rfl,_,_,_,_,_,rfl,hI2,by omega,by omega,by omega,by omega,by omega⟩
   ·rw [if_neg (by simpa using hyz)]
    refine wpS_bind (zN ey ?_)
    have hI2:=hI.pushB sa (by omega) ey ez (by omega)
    by_cases e1 : m1 = 1
    ·rw [if_pos (by simpa using e1)]
     exact wpS_pure ⟨rfl,.inl ⟨_,_,rfl,hI2.first e1 sa h2 hf⟩⟩
    rw [if_neg (by simpa using e1)]
    split
    ·exact wpS_pure ⟨rfl,.inr ⟨_,_,_,_,_,rfl,hI2,by omega,by omega,by omega,by omega,by omega⟩⟩
    ·exact wpS_pure ⟨rfl,_,_,_,_,_,rfl,hI2,by omega,by omega,by omega,by omega,by omega⟩
  case post1 =>
   rintro c st' ⟨rfl,hc⟩
   rcases hc with ⟨r,o,rfl,hG⟩ | ⟨out1,na1,nb1,ac1,bc1,rfl,hI1,c1,c2,c4,c5,c3⟩
   ·exact wpS_pure ⟨g,r,_,rfl,rfl,hG⟩
   dsimp only
   (refine wpS_bind (wpS_lift (wpAny_rule ⟨rfl,?_⟩)))
   refine wpS_bind (wpS_mono (wpS_forRange (I:=fun x c st' => ∃ g out' na' nb' mg ac bc,st' = zad st g ∧ c = (none,na',nb',out',mg,ac,bc) ∧ MB val (a.toList ++ b.toList) a b out' na' nb' ∧ 1 ≤ na' ∧ 2 ≤ nb' ∧ na' ≤ a.size ∧ nb' ≤ b.size ∧ na' + nb' ≤ na1 + nb1)
    (Q:=fun c st' => ∃ g,st' = zad st g ∧ ((∃ r o,c = (some r,o) ∧ Good val (a.toList ++ b.toList) r.toList) ∨ ∃ out' na' nb' mg ac bc,c = (none,na',nb',out',mg,ac,bc) ∧ MB val (a.toList ++ b.toList) a b out' na' nb' ∧ 1 ≤ na' ∧ 2 ≤ nb' ∧ na' ≤ a.size ∧ nb' ≤ b.size ∧ na' + nb' ≤ na1 + nb1)) ?step2 ?fin2 ⟨g,out1,na1,nb1,_,ac1,bc1,rfl,rfl,hI1,c1,c2,c4,c5,Nat.le_refl _⟩) ?post2)
   case fin2 =>
    rintro c st' ⟨g,out',na',nb',mg,ac,bc,rfl,rfl,hI,b1,b2,b4,b5,b3⟩
    exact ⟨g,rfl,.inr ⟨out',na',nb',mg,ac,bc,rfl,hI,b1,b2,b4,b5,b3⟩⟩
   case post2 =>
    rintro c st' ⟨g,rfl,hc⟩
    rcases hc with ⟨r,o,rfl,hG⟩ | ⟨out2,na2,nb2,mg2,ac2,bc2,rfl,hI2,d1,d2,d4,d5,d3⟩
    ·exact wpS_pure ⟨g,r,_,rfl,rfl,hG⟩
    dsimp only
    refine wpS_bind (zcK (wpS_pure ⟨_,out2,na2,nb2,_,rfl,rfl,hI2,d1,d2,d4,d5,by omega⟩))
   case step2 =>
    rintro x2 c st' _ hx2 ⟨g,out',na',nb',mg',ac,bc,rfl,rfl,hI,b1,b2,b4,b5,b3⟩
    dsimp only
    obtain ⟨m1,rfl⟩ : ∃ m1,nb' = m1 + 1:=⟨nb' - 1,by omega⟩
    simp only [Nat.add_sub_cancel]
    obtain ⟨y,ey,my⟩:=zal (xs:=b) (i:=m1) (by omega)
    by_cases hmg : mg' > 1
    all_goals
     first
      | rw [if_pos hmg]
      | rw [if_neg hmg]
     refine wpS_bind (zcK (wpS_bind (zN ey (wpS_bind (za5 hC hk (mb y my) (fun i hi => (by
      obtain ⟨p,ep,mp⟩:=zal (xs:=a) (i:=0 + i) (by omega)
      exact ⟨p,ep,ma p mp⟩)) (sa.sub (by omega) (by omega)) (by omega) fun k hk1 hk2 hk3 => ?_)))))
     dsimp only
     have hI2:=hI.takeA (at':=k) sb hk1 (by omega) ey fun i h1 h2 => Int.le_of_lt (by have:=zdx (hk3 i h1 h2); rwa [Nat.zero_add] at this)
     by_cases hk0 : na' - k > 0
     ·rw [if_pos hk0]
      by_cases e1 : k = 0
      ·rw [if_pos (by simpa using e1)]
       exact wpS_pure ⟨_,rfl,.inl ⟨_,_,rfl,hI2.doneA e1⟩⟩
      rw [if_neg (by simpa using e1)]
      obtain ⟨n1,rfl⟩ : ∃ n1,k = n1 + 1:=⟨k - 1,by omega⟩
      simp only [Nat.add_sub_cancel]
      refine wpS_bind (zN ey ?_)
      obtain ⟨z,ez,mz⟩:=zal (xs:=a) (i:=n1) (by omega)
      have hI3:=hI2.pushB sa (by omega) ey (show a[n1 + 1 - 1]? = some z by rw [Nat.add_sub_cancel]; exact ez) (by have:=zcL (hk2 n1 (by omega)); rw [Nat.zero_add,zR ez] at this; exact this)
      by_cases e3 : m1 = 1
      ·rw [if_pos (by simpa using e3)]
       exact wpS_pure ⟨_,rfl,.inl ⟨_,_,rfl,hI3.first e3 sa h2 hf⟩⟩
      rw [if_neg (by simpa using e3)]
      refine wpS_bind (zN ez (wpS_bind (za5 hC hk (ma z mz) (fun i hi => (by
       obtain ⟨p,ep,mp⟩:=zal (xs:=b) (i:=0 + i) (by omega)
       exact ⟨p,ep,mb p mp⟩)) (sb.sub (by omega) (by omega)) (by omega) fun j hj1 hj2 hj3 => ?_)))
      dsimp only
      have hI4:=hI3.takeB (at':=j) sa hj1 (by omega) (show a[n1 + 1 - 1]? = some z by rw [Nat.add_sub_cancel]; exact ez) fun i h1 h2 => (by have:=zcu (hj3 i h1 h2); rwa [Nat.zero_add] at this)
      by_cases hj0 : m1 - j > 0
      ·rw [if_pos hj0]
       by_cases e4 : j = 1
       ·rw [if_pos (by simpa using e4)]
        exact wpS_pure ⟨_,rfl,.inl ⟨_,_,rfl,hI4.first e4 sa h2 hf⟩⟩
       rw [if_neg (by simpa using e4)]
       by_cases e5 : j = 0
       ·rw [if_pos (by simpa using e5)]
        exact wpS_pure ⟨_,rfl,.inl ⟨_,_,rfl,hI4.doneB e5⟩⟩
       rw [if_neg (by simpa using e5)]
       obtain ⟨y2,ey2,my2⟩:=zal (xs:=b) (i:=j - 1) (by omega)
       refine wpS_bind (zN ez ?_)
       have hIc:=hI4.pushA sb (by omega) ey2 ez (by have:=zbK (hj2 (j - 1) (by omega)); rw [Nat.zero_add,zR ey2] at this; omega)
       by_cases e9 : n1 = 0
       ·rw [if_pos (by simpa using e9)]
        exact wpS_pure ⟨_,rfl,.inl ⟨_,_,rfl,hIc.doneA e9⟩⟩
       rw [if_neg (by simpa using e9)]
       split
       ·exact wpS_pure ⟨_,rfl,.inr ⟨_,_,_,_,_,_,rfl,hIc,by omega,by omega,by omega,by omega,by omega⟩⟩
       ·exact wpS_pure ⟨_,_,_,_,_,_,_,rfl,rfl,hIc,by omega,by omega,by omega,by omega,by omega⟩
      ·rw [if_neg hj0]
       have hjm : j = m1:=by omega
       subst hjm
       obtain ⟨y2,ey2,my2⟩:=zal (xs:=b) (i:=j - 1) (by omega)
       refine wpS_bind (zN ez ?_)
       have hIc:=hI3.pushA sb (by omega) ey2 ez (by have:=zbK (hj2 (j - 1) (by omega)); rw [Nat.zero_add,zR ey2] at this; omega)
       by_cases e9 : n1 = 0
       ·rw [if_pos (by simpa using e9)]
        exact wpS_pure ⟨_,rfl,.inl ⟨_,_,rfl,hIc.doneA e9⟩⟩
       rw [if_neg (by simpa using e9)]
       split
       ·exact wpS_pure ⟨_,rfl,.inr ⟨_,_,_,_,_,_,rfl,hIc,by omega,by omega,by omega,by omega,by omega⟩⟩
       ·exact wpS_pure ⟨_,_,_,_,_,_,_,rfl,rfl,hIc,by omega,by omega,by omega,by omega,by omega⟩
     ·rw [if_neg hk0]
      have hkn : k = na':=by omega
      subst hkn
      obtain ⟨n1,rfl⟩ : ∃ n1,k = n1 + 1:=⟨k - 1,by omega⟩
      simp only [Nat.add_sub_cancel]
      refine wpS_bind (zN ey ?_)
      obtain ⟨z,ez,mz⟩:=zal (xs:=a) (i:=n1) (by omega)
      have hI3:=hI.pushB sa (by omega) ey (show a[n1 + 1 - 1]? = some z by rw [Nat.add_sub_cancel]; exact ez) (by have:=zcL (hk2 n1 (by omega)); rw [Nat.zero_add,zR ez] at this; exact this)
      by_cases e3 : m1 = 1
      ·rw [if_pos (by simpa using e3)]
       exact wpS_pure ⟨_,rfl,.inl ⟨_,_,rfl,hI3.first e3 sa h2 hf⟩⟩
      rw [if_neg (by simpa using e3)]
      refine wpS_bind (zN ez (wpS_bind (za5 hC hk (ma z mz) (fun i hi => (by
       obtain ⟨p,ep,mp⟩:=zal (xs:=b) (i:=0 + i) (by omega)
       exact ⟨p,ep,mb p mp⟩)) (sb.sub (by omega) (by omega)) (by omega) fun j hj1 hj2 hj3 => ?_)))
      dsimp only
      have hI4:=hI3.takeB (at':=j) sa hj1 (by omega) (show a[n1 + 1 - 1]? = some z by rw [Nat.add_sub_cancel]; exact ez) fun i h1 h2 => (by have:=zcu (hj3 i h1 h2); rwa [Nat.zero_add] at this)
      by_cases hj0 : m1 - j > 0
      ·rw [if_pos hj0]
       by_cases e4 : j = 1
       ·rw [if_pos (by simpa using e4)]
        exact wpS_pure ⟨_,rfl,.inl ⟨_,_,rfl,hI4.first e4 sa h2 hf⟩⟩
       rw [if_neg (by simpa using e4)]
       by_cases e5 : j = 0
       ·rw [if_pos (by simpa using e5)]
        exact wpS_pure ⟨_,rfl,.inl ⟨_,_,rfl,hI4.doneB e5⟩⟩
       rw [if_neg (by simpa using e5)]
       obtain ⟨y2,ey2,my2⟩:=zal (xs:=b) (i:=j - 1) (by omega)
       refine wpS_bind (zN ez ?_)
       have hIc:=hI4.pushA sb (by omega) ey2 ez (by have:=zbK (hj2 (j - 1) (by omega)); rw [Nat.zero_add,zR ey2] at this; omega)
       by_cases e9 : n1 = 0
       ·rw [if_pos (by simpa using e9)]
        exact wpS_pure ⟨_,rfl,.inl ⟨_,_,rfl,hIc.doneA e9⟩⟩
       rw [if_neg (by simpa using e9)]
       split
       ·exact wpS_pure ⟨_,rfl,.inr ⟨_,_,_,_,_,_,rfl,hIc,by omega,by omega,by omega,by omega,by omega⟩⟩
       ·exact wpS_pure ⟨_,_,_,_,_,_,_,rfl,rfl,hIc,by omega,by omega,by omega,by omega,by omega⟩
      ·rw [if_neg hj0]
       have hjm : j = m1:=by omega
       subst hjm
       obtain ⟨y2,ey2,my2⟩:=zal (xs:=b) (i:=j - 1) (by omega)
       refine wpS_bind (zN ez ?_)
       have hIc:=hI3.pushA sb (by omega) ey2 ez (by have:=zbK (hj2 (j - 1) (by omega)); rw [Nat.zero_add,zR ey2] at this; omega)
       by_cases e9 : n1 = 0
       ·rw [if_pos (by simpa using e9)]
        exact wpS_pure ⟨_,rfl,.inl ⟨_,_,rfl,hIc.doneA e9⟩⟩
       rw [if_neg (by simpa using e9)]
       split
       ·exact wpS_pure ⟨_,rfl,.inr ⟨_,_,_,_,_,_,rfl,hIc,by omega,by omega,by omega,by omega,by omega⟩⟩
       ·exact wpS_pure ⟨_,_,_,_,_,_,_,rfl,rfl,hIc,by omega,by omega,by omega,by omega,by omega⟩
end
end Srt
end
section
set_option maxHeartbeats 3995000
namespace Srt
open PySem PyProof.Rows
def wb (sa : Nat) (l : List (Keyed × Nat)) (xs : Array Keyed) : Array Keyed:=l.foldl (fun a (p,j) => a.setIfInBounds (sa + j) p) xs
theorem zjA (sa : Nat) : ∀ (l : List Keyed) (n : Nat) (xs : Array Keyed) (k : Nat),sa + n + l.length ≤ xs.size → (wb sa (l.zipIdx n) xs)[k]? = if sa + n ≤ k ∧ k < sa + n + l.length then l[k - (sa + n)]? else xs[k]?
 | [],n,xs,k,h => by
  rw [if_neg (by simp only [List.length_nil]; omega)]
  rfl
 | p :: l,n,xs,k,h => by
  have hl : (p :: l).length = l.length + 1:=rfl
  rw [hl] at h ⊢
  show (wb sa (l.zipIdx (n + 1)) (xs.setIfInBounds (sa + n) p))[k]? = _
  rw [zjA sa l (n + 1) _ k (by rw [Array.size_setIfInBounds]; omega)]
  by_cases h1 : sa + (n + 1) ≤ k ∧ k < sa + (n + 1) + l.length
  ·rw [if_pos h1,if_pos (by omega),show k - (sa + n) = k - (sa + (n + 1)) + 1 by omega,List.getElem?_cons_succ]
  ·rw [if_neg h1,Array.getElem?_setIfInBounds]
   by_cases h2 : sa + n = k
   ·rw [if_pos h2,if_pos (by omega),if_pos (by omega),show k - (sa + n) = 0 by omega]
    rfl
   ·rw [if_neg h2,if_neg (by omega)]
theorem zkC {sa : Nat} {m xs : Array Keyed} (h : sa + m.size ≤ xs.size) : (wb sa m.toList.zipIdx xs).toList = xs.toList.take sa ++ m.toList ++ xs.toList.drop (sa + m.size):=by
 have hm : m.toList.length = m.size:=by simp
 have hx : xs.toList.length = xs.size:=by simp
 refine List.ext_getElem? fun k => ?_
 rw [Array.getElem?_toList,zjA sa m.toList 0 xs k (by rw [hm]; omega),hm,Nat.add_zero]
 by_cases h1 : k < sa
 ·rw [if_neg (by omega),List.append_assoc,List.getElem?_append_left (by rw [List.length_take]; omega),List.getElem?_take_of_lt h1,Array.getElem?_toList]
 ·by_cases h2 : k < sa + m.size
  ·rw [if_pos (by omega),List.append_assoc,List.getElem?_append_right (by rw [List.length_take]; omega),List.length_take,hx,show min sa xs.size = sa by omega,List.getElem?_append_left (by omega)]
  ·rw [if_neg (by omega),List.getElem?_append_right (by rw [List.length_append,List.length_take]; omega),List.length_append,List.length_take,hx,show min sa xs.size = sa by omega,hm,List.getElem?_drop,show sa + m.size + (k - (sa + m.size)) = k by omega,Array.getElem?_toList]
theorem ziq (xs : List Keyed) {i j k : Nat} (h1 : i ≤ j) (h2 : j ≤ k) : xs = xs.take i ++ ((xs.drop i).take (j - i) ++ (xs.drop j).take (k - j)) ++ xs.drop k:=by
 have e1 : xs.drop i = (xs.drop i).take (j - i) ++ xs.drop j:=by
  have:=(List.take_append_drop (j - i) (xs.drop i)).symm
  rwa [List.drop_drop,show i + (j - i) = j by omega] at this
 have e2 : xs.drop j = (xs.drop j).take (k - j) ++ xs.drop k:=by
  have:=(List.take_append_drop (k - j) (xs.drop j)).symm
  rwa [List.drop_drop,show j + (k - j) = k by omega] at this
 have e0:=(List.take_append_drop i xs).symm
 rw [e1,e2] at e0
 rw [List.append_assoc,List.append_assoc]
 exact e0
theorem zcM (xs : Array Keyed) (i j : Nat) : (xs.extract i j).toList = (xs.toList.drop i).take (j - i):=by
 rw [Array.toList_extract]
theorem zkD {sa sb e : Nat} {m xs : Array Keyed} (h1 : sa ≤ sb) (h2 : sb ≤ e) (h3 : e ≤ xs.size) (hp : m.toList.Perm ((xs.extract sa sb).toList ++ (xs.extract sb e).toList)) : (wb sa m.toList.zipIdx xs).Perm xs:=by
 have hms : m.size = e - sa:=by
  have:=hp.length_eq
  rw [List.length_append,zcM,zcM,List.length_take,List.length_take,List.length_drop,List.length_drop] at this
  have hx : xs.toList.length = xs.size:=by simp
  have hm : m.toList.length = m.size:=by simp
  omega
 rw [Array.perm_iff_toList_perm,zkC (by omega),show sa + m.size = e by omega]
 refine List.Perm.trans ((hp.append_left _).append_right _) ?_
 rw [zcM,zcM,← ziq xs.toList h1 h2]
section
variable {prog : Program} {w : World} {A : Around} {E : Value → Shared → Prop} {s : Shared} {a₀ : Array Keyed} {κ : SortKind} {val : Keyed → Int}
theorem zcv {xs : Array Keyed} {i j k : Nat} (h : k < j - i) (hj : j ≤ xs.size) : (xs.extract i j)[k]? = xs[i + k]?:=by
 rw [← Array.getElem?_toList,zcM,List.getElem?_take_of_lt h,List.getElem?_drop,Array.getElem?_toList]
theorem zcN {xs : Array Keyed} {i j : Nat} (hj : j ≤ xs.size) : (xs.extract i j).size = j - i:=by rw [Array.size_extract,Nat.min_eq_left hj]
theorem zhv {xs : Array Keyed} {i j : Nat} (hj : j ≤ xs.size) (h : SIn val xs i j) : SIn val (xs.extract i j) 0 (xs.extract i j).size:=by
 rw [zcN hj]
 intro p q _ hpq hq
 rw [zV (zcv (by omega) hj),zV (zcv hq hj)]
 exact h _ _ (by omega) (by omega) (by omega)
theorem zdz {xs : Array Keyed} {i j : Nat} (hj : j ≤ xs.size) {p : Keyed} (h : p ∈ (xs.extract i j).toList) : ∃ k,i ≤ k ∧ k < j ∧ xs[k]? = some p:=by
 obtain ⟨k,hk,e⟩:=List.getElem_of_mem h
 have hk' : k < j - i:=by
  rwa [Array.length_toList,zcN hj] at hk
 refine ⟨i + k,by omega,by omega,?_⟩
 rw [← zcv hk' hj,← Array.getElem?_toList,List.getElem?_eq_getElem hk,e]
theorem zir {st : SortSt} {i sa na pw sb nb pw2 : Nat} {Q : Bool → SortSt → Prop} (hC : Cmp prog w A s κ val a₀) (hB : SB κ a₀ st) (e1 : (pendingOf st)[i]? = some (sa,na,pw)) (e2 : (pendingOf st)[i + 1]? = some (sb,nb,pw2))
  (hsb : sb = sa + na) (hna : 1 ≤ na) (hnb : 1 ≤ nb) (hsz : sb + nb ≤ a₀.size) (sA : SIn val (arrOf st) sa (sa + na)) (sB : SIn val (arrOf st) sb (sb + nb))
  (h : ∀ st',SB κ a₀ st' → pendingOf st' = ((pendingOf st).setIfInBounds i (sa,na + nb,pw)).eraseIdxIfInBounds (i + 1) → (∀ k,(k < sa ∨ sb + nb ≤ k) → (arrOf st')[k]? = (arrOf st)[k]?) → SIn val (arrOf st') sa (sb + nb) → Q true st') :
  wpS (model prog w) A E s (mergeAt' i) Q st:=by
 refine zfi ?_
 wp_delta
 wp_delta
 refine zfj ?_
 refine wpS_bind (wpS_get ?_)
 rw [e1,e2]
 dsimp only
 have hsize:=hB.size
 obtain ⟨y0,ey0,my0⟩:=hB.mem (i:=sb) (by omega)
 generalize hst1 : (sortPriv% PySem.Builtin.SortState.mk) (kindOf st) (arrOf st) (((pendingOf st).setIfInBounds i (sa,na + nb,pw)).eraseIdxIfInBounds (i + 1)) (gallopOf st) (failedOf st) = st1
 have hB1 : SB κ a₀ st1:=by subst hst1; exact ⟨hB.perm,hB.kind,hB.failed⟩
 have hp1 : pendingOf st1 = ((pendingOf st).setIfInBounds i (sa,na + nb,pw)).eraseIdxIfInBounds (i + 1):=by subst hst1; rfl
 have ha1 : arrOf st1 = arrOf st:=by subst hst1; rfl
 have memA : ∀ n,n < a₀.size → ∃ p,(arrOf st)[n]? = some p ∧ p ∈ a₀.toList:=fun n hn => hB.mem hn
 refine wpS_bind (show wpS _ _ _ _ (set st1) _ st from wpS_modify (f:=fun _ => st1) ?_)
 refine wpS_bind (zN ey0 (wpS_bind (za5 (arr:=arrOf st) hC hB1.kind my0 (fun j hj => memA (sa + j) (by omega)) sA (by omega) fun k hk1 hk2 hk3 => ?_)))
 dsimp only
 have lowA : ∀ j,sa ≤ j → j < sa + k → Vk val (arrOf st) j ≤ Vk val (arrOf st) sb:=fun j h1 h2 => by
  have:=zcL (hk2 (j - sa) (by omega))
  rwa [show sa + (j - sa) = j by omega,← zR (val:=val) ey0] at this
 by_cases hk0 : na - k = 0
 ·rw [if_pos (by simpa using hk0)]
  refine wpS_pure (h st1 hB1 hp1 (fun _ _ => by rw [ha1]) ?_)
  rw [ha1]
  intro p q h1 h2 h3
  by_cases hq : q < sa + na
  ·exact sA p q h1 h2 hq
  ·by_cases hp : p < sa + na
   ·exact Int.le_trans (lowA p h1 (by omega)) (sB sb q (by omega) (by omega) h3)
   ·exact sB p q (by omega) h2 h3
 rw [if_neg (by simpa using hk0)]
 have elast : sa + k + (na - k) - 1 = sa + na - 1:=by omega
 rw [elast]
 obtain ⟨x0,ex0,mx0⟩:=hB.mem (i:=sa + na - 1) (by omega)
 refine wpS_bind (zN ex0 (wpS_bind (za5 (arr:=arrOf st) hC hB1.kind mx0 (fun j hj => memA (sb + j) (by omega)) sB (by omega) fun m hm1 hm2 hm3 => ?_)))
 dsimp only
 have highB : ∀ j,sb + m ≤ j → j < sb + nb → Vk val (arrOf st) (sa + na - 1) ≤ Vk val (arrOf st) j:=fun j h1 h2 => by
  have:=zcu (hm3 (j - sb) (by omega) (by omega))
  rwa [show sb + (j - sb) = j by omega,← zR (val:=val) ex0] at this
 have lowB : ∀ j,sb ≤ j → j < sb + m → Vk val (arrOf st) j < Vk val (arrOf st) (sa + na - 1):=fun j h1 h2 => by
  have:=zbK (hm2 (j - sb) (by omega))
  rwa [show sb + (j - sb) = j by omega,← zR (val:=val) ex0] at this
 by_cases hm0 : m = 0
 ·rw [if_pos (by simpa using hm0)]
  refine wpS_pure (h st1 hB1 hp1 (fun _ _ => by rw [ha1]) ?_)
  rw [ha1]
  intro p q h1 h2 h3
  by_cases hq : q < sa + na
  ·exact sA p q h1 h2 hq
  ·by_cases hp : p < sa + na
   ·exact Int.le_trans (sA p (sa + na - 1) h1 (by omega) (by omega)) (highB q (by omega) h3)
   ·exact sB p q (by omega) h2 h3
 rw [if_neg (by simpa using hm0)]
 have zx : (arrOf st).size = a₀.size:=hsize
 have z1:=zcN (xs:=arrOf st) (i:=sa + k) (j:=sb) (by omega)
 have z2:=zcN (xs:=arrOf st) (i:=sb) (j:=sb + m) (by omega)
 have hf : Vk val ((arrOf st).extract sb (sb + m)) 0 ≤ Vk val ((arrOf st).extract (sa + k) sb) 0:=by
  rw [zV (zcv (by omega) (by omega)),zV (zcv (xs:=arrOf st) (i:=sa + k) (j:=sb) (k:=0) (by omega) (by omega))]
  have:=zdx (hk3 k (Nat.le_refl _) (by omega))
  rw [← zR (val:=val) ey0] at this
  simp only [Nat.add_zero] at this ⊢
  omega
 have hl : ∀ j,j < ((arrOf st).extract sb (sb + m)).size → Vk val ((arrOf st).extract sb (sb + m)) j ≤ Vk val ((arrOf st).extract (sa + k) sb) (((arrOf st).extract (sa + k) sb).size - 1):=by
  intro j hj
  rw [z2] at hj
  rw [z1,zV (zcv (by omega) (by omega)),zV (zcv (xs:=arrOf st) (i:=sa + k) (j:=sb) (by omega) (by omega))]
  have:=lowB (sb + j) (by omega) (by omega)
  rw [show sa + k + (sb - (sa + k) - 1) = sa + na - 1 by omega]
  omega
 have fin : ∀ (out : Array Keyed) (g : Nat),Good val (((arrOf st).extract (sa + k) sb).toList ++ ((arrOf st).extract sb (sb + m)).toList) out.toList →
   wpS (model prog w) A E s (do
    modify fun s => setArr s (out.toList.zipIdx.foldl (fun a (p,j) => a.setIfInBounds (sa + k + j) p) (arrOf s))
    let s' ← get
    pure (failedOf s').isNone) Q (zad st1 g):=by
  intro out g hG
  refine wpS_bind (wpS_modify (wpS_bind (wpS_get ?_)))
  have hms : out.size = sb + m - (sa + k):=by
   have:=hG.1.length_eq
   rw [List.length_append] at this
   have e1 : out.toList.length = out.size:=by simp
   have e2 : ((arrOf st).extract (sa + k) sb).toList.length = sb - (sa + k):=by rw [Array.length_toList,z1]
   have e3 : ((arrOf st).extract sb (sb + m)).toList.length = sb + m - sb:=by rw [Array.length_toList,z2]
   omega
  have hperm:=zkD (xs:=arrOf st) (sa:=sa + k) (sb:=sb) (e:=sb + m) (by omega) (by omega) (by omega) hG.1
  have hat : ∀ n,(wb (sa + k) out.toList.zipIdx (arrOf st))[n]? = if sa + k ≤ n ∧ n < sb + m then out[n - (sa + k)]? else (arrOf st)[n]?:=fun n => by
   have:=zjA (sa + k) out.toList 0 (arrOf st) n (by rw [Array.length_toList]; omega)
   rw [Array.length_toList,Nat.add_zero,hms,show sa + k + (sb + m - (sa + k)) = sb + m by omega,Array.getElem?_toList] at this
   exact this
  have hfn : (failedOf (setArr (zad st1 g) (wb (sa + k) out.toList.zipIdx (arrOf st)))).isNone = true:=by
   show (failedOf st1).isNone = true
   rw [hB1.failed]
   rfl
  have harr : arrOf (zad st1 g) = arrOf st:=ha1
  show wpS _ _ _ _ (pure (failedOf (setArr (zad st1 g) (wb (sa + k) out.toList.zipIdx (arrOf (zad st1 g))))).isNone) Q (setArr (zad st1 g) (wb (sa + k) out.toList.zipIdx (arrOf (zad st1 g))))
  rw [harr,hfn]
  refine wpS_pure (h _ ⟨hperm.trans hB.perm,hB1.kind,hB1.failed⟩ hp1 (fun n hn => ?_) ?_)
  ·show (wb (sa + k) out.toList.zipIdx (arrOf st))[n]? = _
   rw [hat,if_neg (by omega)]
  ·show SIn val (wb (sa + k) out.toList.zipIdx (arrOf st)) sa (sb + nb)
   have hin : ∀ n,sa + k ≤ n → n < sb + m → ∃ q,sa + k ≤ q ∧ q < sb + m ∧ Vk val (wb (sa + k) out.toList.zipIdx (arrOf st)) n = Vk val (arrOf st) q:=fun n h1 h2 => by
    have ho : n - (sa + k) < out.size:=by omega
    have ho2 : out[n - (sa + k)]? = some out[n - (sa + k)]:=getElem?_pos out _ ho
    have hmem : out[n - (sa + k)] ∈ ((arrOf st).extract (sa + k) sb).toList ++ ((arrOf st).extract sb (sb + m)).toList:=hG.1.mem_iff.mp (by simp)
    have hv : Vk val (wb (sa + k) out.toList.zipIdx (arrOf st)) n = val out[n - (sa + k)]:=zR (by rw [hat,if_pos ⟨h1,h2⟩,ho2])
    rcases List.mem_append.mp hmem with hmem | hmem
    ·obtain ⟨q,q1,q2,q3⟩:=zdz (by omega) hmem
     exact ⟨q,q1,by omega,by rw [hv,zR q3]⟩
    ·obtain ⟨q,q1,q2,q3⟩:=zdz (by omega) hmem
     exact ⟨q,by omega,q2,by rw [hv,zR q3]⟩
   have hout : ∀ n,¬ (sa + k ≤ n ∧ n < sb + m) → Vk val (wb (sa + k) out.toList.zipIdx (arrOf st)) n = Vk val (arrOf st) n:=fun n hn => zV (by rw [hat,if_neg hn])
   intro p q h1 h2 h3
   by_cases hp : p < sa + k
   ·rw [hout p (by omega)]
    by_cases hq : q < sa + k
    ·rw [hout q (by omega)]
     exact sA p q h1 h2 (by omega)
    ·have key : ∀ q',sa + k ≤ q' → q' < sb + nb → Vk val (arrOf st) p ≤ Vk val (arrOf st) q':=fun q' a1 a2 => by
      by_cases hq' : q' < sb
      ·exact sA p q' h1 (by omega) (by omega)
      ·exact Int.le_trans (lowA p h1 hp) (sB sb q' (by omega) (by omega) a2)
     by_cases hq2 : q < sb + m
     ·obtain ⟨q',q1,q2,q3⟩:=hin q (by omega) hq2
      rw [q3]
      exact key q' q1 (by omega)
     ·rw [hout q (by omega)]
      exact key q (by omega) h3
   ·by_cases hp2 : p < sb + m
    ·by_cases hq2 : q < sb + m
     ·have ho1 : p - (sa + k) < out.size:=by omega
      have ho2 : q - (sa + k) < out.size:=by omega
      rw [zR (p:=out[p - (sa + k)]) (by rw [hat,if_pos (by omega)]; exact getElem?_pos out _ ho1),zR (p:=out[q - (sa + k)]) (by rw [hat,if_pos (by omega)]; exact getElem?_pos out _ ho2)]
      by_cases hpq : p = q
      ·subst hpq
       exact Int.le_refl _
      ·have:=List.pairwise_iff_getElem.mp hG.2 (p - (sa + k)) (q - (sa + k)) (by simpa using ho1) (by simpa using ho2) (by omega)
       simpa using this
     ·obtain ⟨p',p1,p2,p3⟩:=hin p (by omega) hp2
      rw [p3,hout q (by omega)]
      by_cases hp' : p' < sb
      ·exact Int.le_trans (sA p' (sa + na - 1) (by omega) (by omega) (by omega)) (highB q (by omega) h3)
      ·exact sB p' q (by omega) (by omega) h3
    ·rw [hout p (by omega),hout q (by omega)]
     exact sB p q (by omega) h2 h3
 have ma : ∀ p ∈ ((arrOf st).extract (sa + k) sb).toList,p ∈ a₀.toList:=fun p hp => by
  obtain ⟨q,q1,q2,q3⟩:=zdz (by omega) hp
  obtain ⟨p',e,m'⟩:=memA q (by omega)
  rw [q3] at e
  cases e
  exact m'
 have mb : ∀ p ∈ ((arrOf st).extract sb (sb + m)).toList,p ∈ a₀.toList:=fun p hp => by
  obtain ⟨q,q1,q2,q3⟩:=zdz (by omega) hp
  obtain ⟨p',e,m'⟩:=memA q (by omega)
  rw [q3] at e
  cases e
  exact m'
 have ss1:=zhv (val:=val) (xs:=arrOf st) (i:=sa + k) (j:=sb) (by omega) (sA.sub (by omega) (by omega))
 have ss2:=zhv (val:=val) (xs:=arrOf st) (i:=sb) (j:=sb + m) (by omega) (sB.sub (by omega) (by omega))
 by_cases hle : na - k ≤ m
 ·rw [if_pos hle]
  exact wpS_bind (zin (a:=(arrOf st).extract (sa + k) sb) (b:=(arrOf st).extract sb (sb + m)) hC hB1.kind ma mb ss1 ss2 (by omega) (by omega) hf hl fin)
 ·rw [if_neg hle]
  exact wpS_bind (zio (a:=(arrOf st).extract (sa + k) sb) (b:=(arrOf st).extract sb (sb + m)) hC hB1.kind ma mb ss1 ss2 (by omega) (by omega) hf hl fin)
end
end Srt
end
section
set_option maxHeartbeats 3995000
namespace Srt
open PySem PyProof.Rows
def Runs (val : Keyed → Int) (xs : Array Keyed) : List (Nat × Nat × Nat) → Nat → Nat → Prop
 | [],lo,hi => lo = hi
 | (s,n,_) :: r,lo,hi => s = lo ∧ 1 ≤ n ∧ SIn val xs lo (lo + n) ∧ Runs val xs r (lo + n) hi
section
variable {val : Keyed → Int}
theorem Runs.le {xs : Array Keyed} : ∀ {p : List (Nat × Nat × Nat)} {lo hi : Nat},Runs val xs p lo hi → lo + p.length ≤ hi
 | [],lo,hi,h => by
  have h : lo = hi:=h
  simp only [List.length_nil]
  omega
 | (s,n,w) :: r,lo,hi,h => by
  obtain ⟨_,h1,_,h2⟩:=h
  have:=h2.le
  simp only [List.length_cons]
  omega
theorem Runs.append {xs : Array Keyed} : ∀ {p q : List (Nat × Nat × Nat)} {lo hi : Nat},Runs val xs (p ++ q) lo hi ↔ ∃ mid,Runs val xs p lo mid ∧ Runs val xs q mid hi
 | [],q,lo,hi => ⟨fun h => ⟨lo,rfl,h⟩,fun ⟨mid,h1,h2⟩ => by
   have h1 : lo = mid:=h1
   subst h1
   exact h2⟩
 | (s,n,w) :: p,q,lo,hi => by
  constructor
  ·rintro ⟨h1,h2,h3,h4⟩
   obtain ⟨mid,h5,h6⟩:=Runs.append.mp h4
   exact ⟨mid,⟨h1,h2,h3,h5⟩,h6⟩
  ·rintro ⟨mid,⟨h1,h2,h3,h5⟩,h6⟩
   exact ⟨h1,h2,h3,Runs.append.mpr ⟨mid,h5,h6⟩⟩
theorem Runs.keep {xs ys : Array Keyed} : ∀ {p : List (Nat × Nat × Nat)} {lo hi : Nat},Runs val xs p lo hi → (∀ k,lo ≤ k → k < hi → ys[k]? = xs[k]?) → Runs val ys p lo hi
 | [],lo,hi,h,_ => h
 | (s,n,w) :: p,lo,hi,h,e => by
  obtain ⟨h1,h2,h3,h4⟩:=h
  have:=h4.le
  refine ⟨h1,h2,fun i j a b c => ?_,h4.keep fun k a b => e k (by omega) b⟩
  rw [zV (e i (by omega) (by omega)),zV (e j (by omega) (by omega))]
  exact h3 i j a b c
theorem zjB {α : Type} (p q : List α) (x y v : α) : ((p ++ x :: y :: q).toArray.setIfInBounds p.length v).eraseIdxIfInBounds (p.length + 1) = (p ++ v :: q).toArray:=by
 simp [Array.eraseIdxIfInBounds]
 rw [List.eraseIdx_append_of_length_le (by omega),show p.length + 1 - p.length = 1 by omega]
 rfl
theorem zga {α : Type} (q : List α) (z : α) (f : α → α) : (q ++ [z]).toArray.modify ((q ++ [z]).toArray.size - 1) f = (q ++ [f z]).toArray:=by
 apply Array.ext'
 simp
 induction q with
 | nil => rfl
 | cons a q ih =>
  show (a :: (q ++ [z])).modify (q.length + 1) f = a :: (q ++ [f z])
  rw [List.modify_succ_cons,ih]
theorem zhw {xs : Array Keyed} {p : List (Nat × Nat × Nat)} {n : Nat} (hl : p.length ≤ 1) (hn : 1 ≤ n) (h : Runs val xs p 0 n) : SIn val xs 0 n:=by
 match p,hl,h with
 | [],_,h =>
  have h : 0 = n:=h
  omega
 | [(a,b,c)],_,h =>
  obtain ⟨_,_,h3,h4⟩:=h
  have h4 : 0 + b = n:=h4
  rw [← h4]
  exact h3
 | _ :: _ :: _,hl,_ => simp at hl
theorem zis {α : Type} {p : List α} {j : Nat} (h : j + 2 ≤ p.length) : ∃ pre x y post,p = pre ++ x :: y :: post ∧ pre.length = j:=by
 refine ⟨p.take j,p[j],p[j + 1],p.drop (j + 2),?_,by rw [List.length_take]; omega⟩
 have e1:=(List.take_append_drop j p).symm
 rw [List.drop_eq_getElem_cons (show j < p.length by omega),List.drop_eq_getElem_cons (show j + 1 < p.length by omega)] at e1
 exact e1
end
section
variable {prog : Program} {w : World} {A : Around} {E : Value → Shared → Prop} {s : Shared} {a₀ : Array Keyed} {κ : SortKind} {val : Keyed → Int}
theorem zd1 {st : SortSt} {pre post : List (Nat × Nat × Nat)} {x y : Nat × Nat × Nat} {hi : Nat} {Q : Bool → SortSt → Prop} (hC : Cmp prog w A s κ val a₀) (hB : SB κ a₀ st) (hp : pendingOf st = (pre ++ x :: y :: post).toArray) (hR : Runs val (arrOf st) (pre ++ x :: y :: post) 0 hi) (hhi : hi ≤ a₀.size)
  (h : ∀ st' v,SB κ a₀ st' → pendingOf st' = (pre ++ v :: post).toArray → (∀ k,hi ≤ k → (arrOf st')[k]? = (arrOf st)[k]?) → Runs val (arrOf st') (pre ++ v :: post) 0 hi → Q true st') :
  wpS (model prog w) A E s (mergeAt' pre.length) Q st:=by
 obtain ⟨sa,na,pw⟩:=x
 obtain ⟨sb,nb,pw2⟩:=y
 obtain ⟨mid,r1,r2⟩:=Runs.append.mp hR
 obtain ⟨rfl,q1,q2,rfl,q4,q5,r3⟩:=r2
 have hle:=r3.le
 refine zir (i:=pre.length) (sa:=sa) (na:=na) (pw:=pw) (sb:=sa + na) (nb:=nb) (pw2:=pw2) hC hB (by rw [hp]; simp) (by rw [hp]; simp) rfl q1 q4 (by omega) q2 q5 fun st' hB' hp' hk hs => ?_
 refine h st' (sa,na + nb,pw) hB' (by rw [hp',hp,zjB]) (fun k hk' => hk k (by omega)) ?_
 refine Runs.append.mpr ⟨sa,r1.keep fun k _ b => hk k (by omega),rfl,by omega,?_,?_⟩
 ·rw [← Nat.add_assoc]
  exact hs
 ·rw [← Nat.add_assoc]
  exact r3.keep fun k a b => hk k (by omega)
theorem zkE {n : Nat} {c : Prop} [Decidable c] (h : ¬ n ≤ 1) : (if c then n - 2 - 1 else n - 2) + 2 ≤ n:=by
 by_cases hc : c
 ·rw [if_pos hc]
  omega
 ·rw [if_neg hc]
  omega
theorem zjC {st : SortSt} {p : List (Nat × Nat × Nat)} {j hi : Nat} {Q : Bool → SortSt → Prop} (hj : j + 2 ≤ p.length) (hC : Cmp prog w A s κ val a₀) (hB : SB κ a₀ st) (hp : pendingOf st = p.toArray) (hR : Runs val (arrOf st) p 0 hi) (hhi : hi ≤ a₀.size)
  (h : ∀ st' p',SB κ a₀ st' → pendingOf st' = p'.toArray → Runs val (arrOf st') p' 0 hi → p'.length + 1 = p.length → Q true st') : wpS (model prog w) A E s (mergeAt' j) Q st:=by
 obtain ⟨pre,x,y,post,rfl,rfl⟩:=zis hj
 exact zd1 hC hB hp hR hhi fun st' v a b _ d => h st' _ a b d (by simp only [List.length_append,List.length_cons]; omega)
theorem zl6 {st : SortSt} {Q : Unit → SortSt → Prop} (hC : Cmp prog w A s κ val a₀) (hB : SB κ a₀ st) (hp : pendingOf st = #[]) (h2 : 1 ≤ a₀.size)
  (h : ∀ st',SB κ a₀ st' → SIn val (arrOf st') 0 a₀.size → Q () st') : wpS (model prog w) A E s sortRuns' Q st:=by
 rw [sortRuns'_eq]
 refine wpS_bind (wpS_get ?_)
 dsimp only
 rw [hB.size]
 generalize minRun' a₀.size a₀.size 0 = mr
 refine wpS_bind (wpS_mono (wpS_forRange (I:=fun x c st' => ∃ lo p,c = (none,lo) ∧ SB κ a₀ st' ∧ pendingOf st' = p.toArray ∧ Runs val (arrOf st') p 0 lo ∧ lo ≤ a₀.size ∧ min x a₀.size ≤ lo)
  (Q:=fun c st' => ∃ p,c = (none,a₀.size) ∧ SB κ a₀ st' ∧ pendingOf st' = p.toArray ∧ Runs val (arrOf st') p 0 a₀.size) ?step ?fin ⟨0,[],rfl,hB,hp,rfl,by omega,by omega⟩) ?post)
 case fin =>
  rintro c st' ⟨lo,p,rfl,hB',hp',hR,hlo,hx⟩
  have : lo = a₀.size:=by omega
  subst this
  exact ⟨p,rfl,hB',hp',hR⟩
 case step =>
  rintro x c st' _ hx ⟨lo,p,rfl,hB',hp',hR,hlo,hxl⟩
  dsimp only
  by_cases hge : lo ≥ a₀.size
  ·rw [if_pos hge]
   have : lo = a₀.size:=by omega
   subst this
   exact wpS_pure ⟨p,rfl,hB',hp',hR⟩
  rw [if_neg hge]
  refine wpS_bind (zkz hC (by omega) (by omega) (SF.refl hB') fun m st1 hF1 hm1 hm2 hs1 => ?_)
  dsimp only
  by_cases hmr : m < mr
  ·rw [if_pos hmr]
   (refine wpS_bind (wpS_lift (wpAny_rule ⟨rfl,?_⟩)))
   refine wpS_bind (zmR hC (by omega) (by omega) hF1 hs1 fun st2 hF2 hs2 => ?_)
   rw [if_neg (by decide)]
   have hn1 : 1 ≤ min (a₀.size - lo) mr:=by omega
   have hn2 : lo + min (a₀.size - lo) mr ≤ a₀.size:=by omega
   generalize min (a₀.size - lo) mr = n at hs2 hn1 hn2 ⊢
   refine wpS_bind (wpS_get ?_)
   have hp1 : pendingOf st2 = p.toArray:=hF2.pend.trans hp'
   have hR1 : Runs val (arrOf st2) p 0 lo:=hR.keep fun k _ b => hF2.low k b
   rcases List.eq_nil_or_concat p with rfl | ⟨q,z,rfl⟩
   ·rw [hp1]
    show wpS _ _ _ _ (do
     modify fun s => setPending s ((pendingOf s).push (lo,n,0)); pure (ForInStep.yield (none,lo + n))) _ _
    refine wpS_bind (wpS_modify (wpS_pure ⟨lo + n,[(lo,n,0)],rfl,⟨hF2.b.perm,hF2.b.kind,hF2.b.failed⟩,?_,?_,by omega,by omega⟩))
    ·show (pendingOf st2).push _ = _
     rw [hp1]
     rfl
    ·have h0 : 0 = lo:=hR1
     subst h0
     exact ⟨rfl,hn1,hs2,rfl⟩
   obtain ⟨s1,n1,w1⟩:=z
   rw [hp1,List.concat_eq_append,show ((q ++ [(s1,n1,w1)]).toArray).back? = some (s1,n1,w1) by simp]
   rw [List.concat_eq_append] at hp1 hR1
   dsimp only
   generalize power' a₀.size (2 * s1 + n1) (2 * s1 + n1 + n1 + n) a₀.size = pw
   refine wpS_bind (wpS_mono (wpS_forRange (I:=fun _ c st' => c = (none,()) ∧ ∃ q' z,SB κ a₀ st' ∧ pendingOf st' = (q' ++ [z]).toArray ∧ Runs val (arrOf st') (q' ++ [z]) 0 lo ∧ (∀ k,lo ≤ k → (arrOf st')[k]? = (arrOf st2)[k]?))
    (Q:=fun c st' => c = (none,()) ∧ ∃ q' z,SB κ a₀ st' ∧ pendingOf st' = (q' ++ [z]).toArray ∧ Runs val (arrOf st') (q' ++ [z]) 0 lo ∧ (∀ k,lo ≤ k → (arrOf st')[k]? = (arrOf st2)[k]?)) ?_ (fun _ _ hh => hh) ⟨rfl,q,(s1,n1,w1),hF2.b,hp1,hR1,fun _ _ => rfl⟩) ?_)
   ·rintro x2 c st2 _ hx2 ⟨rfl,q',z,hB2,hp2,hR2,hk2⟩
    refine wpS_bind (wpS_get ?_)
    rcases List.eq_nil_or_concat q' with rfl | ⟨q2,y,rfl⟩
    ·rw [hp2,if_neg (by simp)]
     exact wpS_pure ⟨rfl,[],z,hB2,hp2,hR2,hk2⟩
    rw [List.concat_eq_append,List.append_assoc] at hp2 hR2
    have esz : (pendingOf st2).size - 2 = q2.length:=by rw [hp2]; simp
    have eel : (if (pendingOf st2).size > 1 then (pendingOf st2)[(pendingOf st2).size - 2]? else none) = some y:=by
     rw [if_pos (by rw [hp2]; simp),esz,hp2]
     simp
    rw [eel]
    obtain ⟨y1,y2,y3⟩:=y
    dsimp only
    by_cases ho : y3 ≤ pw
    ·rw [if_pos ho]
     exact wpS_pure ⟨rfl,q2 ++ [(y1,y2,y3)],z,hB2,by rw [hp2,List.append_assoc],by rw [List.append_assoc]; exact hR2,hk2⟩
    ·rw [if_neg ho,esz]
     refine wpS_bind (zd1 hC hB2 hp2 hR2 (by omega) fun st3 v hB3 hp3 hk3 hR3 => ?_)
     rw [if_neg (by decide)]
     exact wpS_pure ⟨rfl,q2,v,hB3,hp3,hR3,fun k hk => (hk3 k hk).trans (hk2 k hk)⟩
   ·rintro c st2 ⟨rfl,q',z,hB2,hp2,hR2,hk2⟩
    obtain ⟨z1,z2,z3⟩:=z
    dsimp only
    refine wpS_bind (wpS_modify (wpS_bind (wpS_modify (wpS_pure ⟨lo + n,q' ++ [(z1,z2,pw),(lo,n,0)],rfl,⟨hB2.perm,hB2.kind,hB2.failed⟩,?_,?_,by omega,by omega⟩))))
    ·show ((pendingOf st2).modify ((pendingOf st2).size - 1) fun x => (x.fst,x.2.fst,pw)).push (lo,n,0) = _
     rw [hp2,zga]
     simp
    ·show Runs val (arrOf st2) _ _ _
     obtain ⟨mid,r1,r2⟩:=Runs.append.mp hR2
     obtain ⟨e1,e2,e3,e4⟩:=r2
     have e4 : mid + z2 = lo:=e4
     refine Runs.append.mpr ⟨mid,r1,e1,e2,e3,e4.symm,hn1,?_,?_⟩
     ·intro i j a1 a2 a3
      rw [zV (hk2 i (by omega)),zV (hk2 j (by omega))]
      exact hs2 i j (by omega) a2 (by omega)
     ·show mid + z2 + n = lo + n
      omega
  ·rw [if_neg hmr]
   have hn2 : lo + m ≤ a₀.size:=by omega
   refine wpS_bind (wpS_get ?_)
   have hp1 : pendingOf st1 = p.toArray:=hF1.pend.trans hp'
   have hR1 : Runs val (arrOf st1) p 0 lo:=hR.keep fun k _ b => hF1.low k b
   rcases List.eq_nil_or_concat p with rfl | ⟨q,z,rfl⟩
   ·rw [hp1]
    show wpS _ _ _ _ (do
     modify fun s => setPending s ((pendingOf s).push (lo,m,0))
     pure (ForInStep.yield (none,lo + m))) _ _
    refine wpS_bind (wpS_modify (wpS_pure ⟨lo + m,[(lo,m,0)],rfl,⟨hF1.b.perm,hF1.b.kind,hF1.b.failed⟩,?_,?_,by omega,by omega⟩))
    ·show (pendingOf st1).push _ = _
     rw [hp1]
     rfl
    ·have h0 : 0 = lo:=hR1
     subst h0
     exact ⟨rfl,hm1,hs1,rfl⟩
   obtain ⟨s1,n1,w1⟩:=z
   rw [hp1,List.concat_eq_append,show ((q ++ [(s1,n1,w1)]).toArray).back? = some (s1,n1,w1) by simp]
   rw [List.concat_eq_append] at hp1 hR1
   dsimp only
   generalize power' a₀.size (2 * s1 + n1) (2 * s1 + n1 + n1 + m) a₀.size = pw
   refine wpS_bind (wpS_mono (wpS_forRange (I:=fun _ c st' => c = (none,()) ∧ ∃ q' z,SB κ a₀ st' ∧ pendingOf st' = (q' ++ [z]).toArray ∧ Runs val (arrOf st') (q' ++ [z]) 0 lo ∧ (∀ k,lo ≤ k → (arrOf st')[k]? = (arrOf st1)[k]?))
    (Q:=fun c st' => c = (none,()) ∧ ∃ q' z,SB κ a₀ st' ∧ pendingOf st' = (q' ++ [z]).toArray ∧ Runs val (arrOf st') (q' ++ [z]) 0 lo ∧ (∀ k,lo ≤ k → (arrOf st')[k]? = (arrOf st1)[k]?)) ?_ (fun _ _ hh => hh) ⟨rfl,q,(s1,n1,w1),hF1.b,hp1,hR1,fun _ _ => rfl⟩) ?_)
   ·rintro x2 c st2 _ hx2 ⟨rfl,q',z,hB2,hp2,hR2,hk2⟩
    refine wpS_bind (wpS_get ?_)
    rcases List.eq_nil_or_concat q' with rfl | ⟨q2,y,rfl⟩
    ·rw [hp2,if_neg (by simp)]
     exact wpS_pure ⟨rfl,[],z,hB2,hp2,hR2,hk2⟩
    rw [List.concat_eq_append,List.append_assoc] at hp2 hR2
    have esz : (pendingOf st2).size - 2 = q2.length:=by rw [hp2]; simp
    have eel : (if (pendingOf st2).size > 1 then (pendingOf st2)[(pendingOf st2).size - 2]? else none) = some y:=by
     rw [if_pos (by rw [hp2]; simp),esz,hp2]
     simp
    rw [eel]
    obtain ⟨y1,y2,y3⟩:=y
    dsimp only
    by_cases ho : y3 ≤ pw
    ·rw [if_pos ho]
     exact wpS_pure ⟨rfl,q2 ++ [(y1,y2,y3)],z,hB2,by rw [hp2,List.append_assoc],by rw [List.append_assoc]; exact hR2,hk2⟩
    ·rw [if_neg ho,esz]
     refine wpS_bind (zd1 hC hB2 hp2 hR2 (by omega) fun st3 v hB3 hp3 hk3 hR3 => ?_)
     rw [if_neg (by decide)]
     exact wpS_pure ⟨rfl,q2,v,hB3,hp3,hR3,fun k hk => (hk3 k hk).trans (hk2 k hk)⟩
   ·rintro c st2 ⟨rfl,q',z,hB2,hp2,hR2,hk2⟩
    obtain ⟨z1,z2,z3⟩:=z
    dsimp only
    refine wpS_bind (wpS_modify (wpS_bind (wpS_modify (wpS_pure ⟨lo + m,q' ++ [(z1,z2,pw),(lo,m,0)],rfl,⟨hB2.perm,hB2.kind,hB2.failed⟩,?_,?_,by omega,by omega⟩))))
    ·show ((pendingOf st2).modify ((pendingOf st2).size - 1) fun x => (x.fst,x.2.fst,pw)).push (lo,m,0) = _
     rw [hp2,zga]
     simp
    ·show Runs val (arrOf st2) _ _ _
     obtain ⟨mid,r1,r2⟩:=Runs.append.mp hR2
     obtain ⟨e1,e2,e3,e4⟩:=r2
     have e4 : mid + z2 = lo:=e4
     refine Runs.append.mpr ⟨mid,r1,e1,e2,e3,e4.symm,hm1,?_,?_⟩
     ·intro i j a1 a2 a3
      rw [zV (hk2 i (by omega)),zV (hk2 j (by omega))]
      exact hs1 i j (by omega) a2 (by omega)
     ·show mid + z2 + m = lo + m
      omega
 case post =>
  rintro c st1 ⟨p,rfl,hB1,hp1,hR1⟩
  dsimp only
  have hpl:=hR1.le
  refine wpS_bind (wpS_mono (wpS_forRange (I:=fun x c st' => c = (none,()) ∧ ∃ p,SB κ a₀ st' ∧ pendingOf st' = p.toArray ∧ Runs val (arrOf st') p 0 a₀.size ∧ p.length ≤ max 1 (a₀.size - x))
   (Q:=fun c st' => c = (none,()) ∧ SB κ a₀ st' ∧ SIn val (arrOf st') 0 a₀.size) ?_ ?_ ⟨rfl,p,hB1,hp1,hR1,by omega⟩) ?_)
  ·rintro x c st2 _ hx ⟨rfl,p2,hB2,hp2,hR2,hl2⟩
   refine wpS_bind (wpS_get ?_)
   have hsz : (pendingOf st2).size = p2.length:=by rw [hp2]; simp
   rw [hsz]
   by_cases hle : p2.length ≤ 1
   ·rw [if_pos hle]
    exact wpS_pure ⟨rfl,hB2,zhw hle h2 hR2⟩
   rw [if_neg hle]
   refine wpS_bind (zjC (p:=p2) (zkE hle) hC hB2 hp2 hR2 (Nat.le_refl _) fun st3 p3 hB3 hp3 hR3 hl3 => ?_)
   rw [if_neg (by decide)]
   exact wpS_pure ⟨rfl,p3,hB3,hp3,hR3,by omega⟩
  ·rintro c st2 ⟨rfl,p2,hB2,hp2,hR2,hl2⟩
   exact ⟨rfl,hB2,zhw (by omega) h2 hR2⟩
  ·rintro c st2 ⟨rfl,hB2,hS⟩
   exact wpS_pure (h st2 hB2 hS)
end
end Srt
end
section
set_option maxHeartbeats 3995000
namespace Srt
open PySem PyProof.Rows
def num (B : Int) : List Int → Int
 | [] => 0
 | n :: r => n * B ^ r.length + num B r
theorem num_rng {B : Int} (hB : 1 ≤ B) : ∀ {ns : List Int},(∀ n ∈ ns,0 ≤ n ∧ n < B) → 0 ≤ num B ns ∧ num B ns < B ^ ns.length
 | [],_ => by simp [num]
 | n :: r,h => by
  obtain ⟨h1,h2⟩:=num_rng hB (ns:=r) fun m hm => h m (List.mem_cons_of_mem _ hm)
  obtain ⟨a,b⟩:=h n (by simp)
  have hp : 0 < B ^ r.length:=Int.pow_pos (by omega)
  have e : B ^ (n :: r).length = B ^ r.length * B:=by rw [List.length_cons,Int.pow_succ]
  show 0 ≤ n * B ^ r.length + num B r ∧ n * B ^ r.length + num B r < _
  rw [e]
  have h3 : 0 ≤ n * B ^ r.length:=Int.mul_nonneg a (by omega)
  have h4 : n * B ^ r.length ≤ (B - 1) * B ^ r.length:=Int.mul_le_mul_of_nonneg_right (by omega) (by omega)
  have h5 : (B - 1) * B ^ r.length = B ^ r.length * B - B ^ r.length:=by rw [Int.sub_mul,Int.one_mul,Int.mul_comm]
  omega
def zgb : List Int → List Int → Bool
 | [],[] => false
 | [],_ :: _ => true
 | _ :: _,[] => false
 | x :: xs,y :: ys => if x = y then zgb xs ys else decide (x < y)
theorem zcd (x y : Int) (xs ys : List Int) : zgb (x :: xs) (y :: ys) = if x = y then zgb xs ys else decide (x < y):=rfl
theorem zhx {B : Int} (hB : 1 ≤ B) : ∀ {ms ns : List Int},ms.length = ns.length → (∀ n ∈ ms,0 ≤ n ∧ n < B) → (∀ n ∈ ns,0 ≤ n ∧ n < B) → zgb ms ns = decide (num B ms < num B ns)
 | [],[],_,_,_ => by simp [zgb,num]
 | [],_ :: _,h,_,_ => by simp at h
 | _ :: _,[],h,_,_ => by simp at h
 | m :: ms,n :: ns,hl,h1,h2 => by
  have hl' : ms.length = ns.length:=by simpa using hl
  have ih:=zhx hB hl' (fun x hx => h1 x (List.mem_cons_of_mem _ hx)) (fun x hx => h2 x (List.mem_cons_of_mem _ hx))
  obtain ⟨a1,a2⟩:=num_rng hB fun x hx => h1 x (List.mem_cons_of_mem m hx)
  obtain ⟨b1,b2⟩:=num_rng hB fun x hx => h2 x (List.mem_cons_of_mem n hx)
  rw [zcd]
  show _ = decide (m * B ^ ms.length + num B ms < n * B ^ ns.length + num B ns)
  rw [hl'] at a2 ⊢
  have hp : 0 < B ^ ns.length:=Int.pow_pos (by omega)
  by_cases e : m = n
  ·rw [if_pos e,ih,e]
   rw [Bool.eq_iff_iff]
   simp only [decide_eq_true_eq]
   omega
  ·rw [if_neg e,Bool.eq_iff_iff]
   simp only [decide_eq_true_eq]
   have key : ∀ x y : Int,x < y → x * B ^ ns.length + B ^ ns.length ≤ y * B ^ ns.length:=fun x y hxy => by
    have:=Int.mul_le_mul_of_nonneg_right (show x + 1 ≤ y by omega) (show 0 ≤ B ^ ns.length by omega)
    rw [Int.add_mul,Int.one_mul] at this
    exact this
   constructor
   ·intro h
    have:=key m n h
    omega
   ·intro h
    rcases Int.lt_trichotomy m n with h3 | h3 | h3
    ·exact h3
    ·exact absurd h3 e
    ·have:=key n m h3
     omega
section
variable {prog : Program} {w : World} {A : Around} {E : Value → Shared → Prop} {s : Shared}
theorem zhy {Q : Bool → Shared → Prop} {fin : Bool} : ∀ {xs ys : List Value} {ms ns : List Int} (i : Nat),IntsAre xs ms → IntsAre ys ns → ms.length = ns.length → Q (if ms = ns then fin else zgb ms ns) s → PySem.W.KatLex prog w A true fin Q (xs.zip ys) i s
 | [],[],[],[],i,_,_,_,h => PySem.W.kat_nil (by simpa using h)
 | _ :: _,_,[],_,_,hx,_,_,_ => by cases hx
 | [],_,_ :: _,_,_,hx,_,_,_ => by cases hx
 | _,[],_,_ :: _,_,_,hy,_,_ => by cases hy
 | _,_ :: _,_,[],_,_,hy,_,_ => by cases hy
 | x :: xs,y :: ys,m :: ms,n :: ns,i,hx,hy,hl,h => by
  cases hx with
  | cons _ t hx =>
   cases hy with
   | cons _ u hy =>
    refine PySem.W.kat_cons (wpAny_eqBool_int ?_)
    by_cases e : m = n
    ·rw [show (m == n) = true by simpa using e]
     refine PySem.W.kat_yes (zhy (i + 1) hx hy (by simpa using hl) ?_)
     subst e
     rw [zcd,if_pos rfl] at h
     simpa using h
    ·rw [show (m == n) = false by simpa using e]
     have hne : ¬ (m :: ms = n :: ns):=fun z => e (List.cons.inj z).1
     rw [if_neg hne,zcd,if_neg e] at h
     refine PySem.W.kat_no ?_
     by_cases hi : i = 0
     ·subst hi
      exact oneLt_int h
     ·have hb : (true && i == 0) = false:=by simp [hi]
      rw [hb]
      exact PySem.W.kat_one _ _ (wpAny_lt_int h)
end
end Srt
end
section
set_option maxHeartbeats 3994000
namespace PySem
open PyProof.Rows
def zd2 (h : Heap) (d : Addr) (es : Array DictEntry) (ep : Nat) : Prop:=∃ o,h.get? d = some o ∧ o.ExactDict ∧ o.data = .dict es ep
theorem zd2.at' {h h' : Heap} {d : Addr} {es : Array DictEntry} {ep : Nat} (x : zd2 h d es ep) (e : ∀ o,h.get? d = some o → h'.get? d = some o) : zd2 h' d es ep:=let ⟨o,ho,r⟩:=x; ⟨o,e _ ho,r⟩
theorem zd2.typeIs {s : Shared} {d : Addr} {es : Array DictEntry} {ep : Nat} (x : zd2 s.heap d es ep) : s.TypeIs (.ref d) "dict":=let ⟨o,ho,hc,_⟩:=x; ⟨o,ho,hc.1⟩
section
variable {prog : Program} {w : World} {A : Around} {E : Value → Shared → Prop} {s : Shared} {it d : Addr} {i ep : Nat} {es : Array DictEntry}
theorem zjD {Q : Value → Shared → Prop} (hd : (d == sysModules) = false) (hm : zd2 s.heap d es ep) (hQ : Q (.ref s.heap.objs.size) { s with heap:=s.heap.push { cls:=.type "dict_keyiterator",data:=.fields #[.ref d,.int 0 0,.int es.size 0,.int ep 0] } }) : wpAny (model prog w) A (pyIter (.ref d)) Q E s:=by
 have hT:=hm.typeIs
 obtain ⟨o,ho,hc,hdat⟩:=id hm
 refine wpAny_pyIter_slot hT F.slot_dict_iter (wpAny_call_entry F.slot_dict_iter hT F.entry_dict_iter ?_ (F.args_dict_iter_1 _)); unfold Builtin.«dict.__iter__» Builtin.Dict.dictSlotNone
 refine wpAny_bind (wpAny_bind (wpAny_notOrdered_dict hT ?_)); show wpAny _ _ (pure (Value.ref d)) _ _ s
 refine wpAny_pure ?_; show wpAny _ _ (Builtin.Dict.showsAll d >>= _) _ _ s; unfold Builtin.Dict.showsAll
 rw [if_neg (show ¬ ((d == sysModules) = true) by rw [hd]; decide)]
 refine wpAny_bind (wpAny_pure (wpAny_bind (wpAny_dictEntries ho hdat (wpAny_bind (wpAny_dictEpoch ho hdat (wpAny_bind (wpAny_newObj_type (wpAny_pure ⟨_,rfl,"dict_keyiterator",_,⟨_,Heap.get?_push_size _ rfl,rfl⟩,F.slot_dict_keyiterator_next.lookup,?_⟩))))))))
 simpa [rawInt] using hQ
theorem zjE {e : DictEntry} {Q : Option Value → Shared → Prop} (hit : s.heap.IsKeyIter it d i es.size ep) (hm : zd2 s.heap d es ep) (he : es[i]? = some e)
  (hQ : ∀ h',h'.IsKeyIter it d (i + 1) es.size ep → Heap.SameBut it s.heap h' → Q (some e.key) { s with heap:=h' }) : wpAny (model prog w) A (pyNext (.ref it)) Q E s:=by
 (obtain ⟨o,ho,hc,hd⟩:=id hit)
 obtain ⟨od,hod,hcd,hdd⟩:=id hm
 have hlt : i < es.size:=(Array.getElem?_eq_some_iff.mp he).1
 have hown : Builtin.Dict_items.ownsTuple "dict_keyiterator" = false:=by decide +kernel
 unfold pyNext; refine wpAny_bind (wpAny_attempt (wpAny_callSpecial?_slot (name:=Str.ofString "__next__") hit.typeIs F.slot_dict_keyiterator_next (wpAny_call_entry F.slot_dict_keyiterator_next hit.typeIs F.entry_dict_keyiterator_next ?_ (F.args_dict_keyiterator_next_1 _))))
 refine wpAny_bind (wpAny_pure (wpAny_bind (wpAny_bind (wpAny_bind (wpAny_typeNameOfWhole_keyiter hit.typeIs (wpAny_pure (wpAny_bind (wpAny_fieldsOf ho hd ?_))))))))
 simp only [hown,Bool.false_eq_true,if_false]; show wpAny _ _ (if (Value.ref d == Value.none) = true then _ else _) _ _ s
 rw [if_neg (show ¬ ((Value.ref d == Value.none) = true) from fun z => Bool.false_ne_true z)]
 refine wpAny_bind (wpAny_pure (wpAny_bind (wpAny_dictEntries hod hdd ?_)))
 rw [if_neg (show ¬ ((((es.size : Nat) : Int) != ((es.size : Nat) : Int)) = true) by simp)]
 refine wpAny_bind (wpAny_pure (wpAny_bind (wpAny_dictEpoch hod hdd ?_)))
 rw [if_neg (by simp)]; refine wpAny_pure ?_
 simp only [show ¬ ((i : Int) < 0) by omega,if_false,Int.toNat_natCast,he]
 refine wpAny_bind (wpAny_bind (wpAny_typeNameOfWhole_keyiter hit.typeIs (wpAny_pure (wpAny_bind (wpAny_isOneOf_keyiter hit.typeIs ?_)))))
 show wpAny _ _ (setField (.ref it) 1 (rawInt ((i : Int) + 1)) >>= _) _ _ s; refine wpAny_bind (wpAny_setField ho hd (by simp) ?_)
 have hit' : (s.heap.update it (Obj.mapFields (·.setIfInBounds 1 (rawInt ((i : Int) + 1))))).IsKeyIter it d (i + 1) es.size ep:=⟨_,Heap.get?_update_self _ ho (Obj.isFreed_of_fields (Obj.data_mapFields hd _)),(Obj.cls_mapFields ..).trans hc,by rw [Obj.data_mapFields hd]; simp [rawInt]⟩
 refine wpAny_bind (wpAny_holding (wpAny_bind (wpAny_isOneOf_keyiter (s:={ s with heap:=s.heap.update it (Obj.mapFields (·.setIfInBounds 1 (rawInt ((i : Int) + 1)))) }) hit'.typeIs ?_)))
 show wpAny _ _ (pure e.key) _ _ _; exact wpAny_pure (wpAny_pure ⟨_,rfl,wpAny_pure (hQ _ hit' (Heap.SameBut.update ..))⟩)
theorem zkF {Q : Option Value → Shared → Prop} (hh : A.handled = none) (hit : s.heap.IsKeyIter it d i es.size ep) (hm : zd2 s.heap d es ep) (he : es.size ≤ i) (hQ : ∀ h',Heap.ExtBut it s.heap h' → Q none { s with heap:=h' }) : wpAny (model prog w) A (pyNext (.ref it)) Q E s:=by
 (obtain ⟨o,ho,hc,hd⟩:=id hit)
 obtain ⟨od,hod,hcd,hdd⟩:=id hm
 have hown : Builtin.Dict_items.ownsTuple "dict_keyiterator" = false:=by decide +kernel
 unfold pyNext; refine wpAny_bind (wpAny_attempt (wpAny_callSpecial?_slot (name:=Str.ofString "__next__") hit.typeIs F.slot_dict_keyiterator_next (wpAny_call_entry F.slot_dict_keyiterator_next hit.typeIs F.entry_dict_keyiterator_next ?_ (F.args_dict_keyiterator_next_1 _))))
 refine wpAny_bind (wpAny_pure (wpAny_bind (wpAny_bind (wpAny_bind (wpAny_typeNameOfWhole_keyiter hit.typeIs (wpAny_pure (wpAny_bind (wpAny_fieldsOf ho hd ?_))))))))
 simp only [hown,Bool.false_eq_true,if_false]; show wpAny _ _ (if (Value.ref d == Value.none) = true then _ else _) _ _ s
 rw [if_neg (show ¬ ((Value.ref d == Value.none) = true) from fun z => Bool.false_ne_true z)]
 refine wpAny_bind (wpAny_pure (wpAny_bind (wpAny_dictEntries hod hdd ?_)))
 rw [if_neg (show ¬ ((((es.size : Nat) : Int) != ((es.size : Nat) : Int)) = true) by simp)]
 refine wpAny_bind (wpAny_pure (wpAny_bind (wpAny_dictEpoch hod hdd ?_)))
 rw [if_neg (by simp)]; refine wpAny_pure ?_
 simp only [show ¬ ((i : Int) < 0) by omega,if_false,Int.toNat_natCast,Array.getElem?_eq_none he]
 refine wpAny_bind (wpAny_bind (wpAny_typeNameOfWhole_keyiter hit.typeIs (wpAny_pure ?_)))
 show wpAny _ _ (setField (.ref it) 0 .none >>= _) _ _ s; refine wpAny_bind (wpAny_setField ho hd (by simp) ?_)
 show wpAny _ _ (newExc (.type "StopIteration") [] >>= _) _ _ _; simp only [newExc,newTuple]
 refine wpAny_bind (wpAny_bind (wpAny_newObj_type (wpAny_bind (m:=firstArgMember _ _) (wpAny_of_eq (a:=Value.none) (by first | rfl | (simp only [firstArgMember]; rfl)) (wpAny_newObj_type ?_ (by size_fits)))) (by size_fits)))
 simp only [raiseNew]; refine wpAny_bind (wpAny_handled ?_); rw [show A.in1.handled = none from hh]
 refine wpAny_bind (wpAny_pure (wpAny_throw ?_)); refine wpAny_bind (wpAny_isInstance (T:="StopIteration") (b:=true) ⟨_,Heap.get?_push_size _ rfl,rfl⟩ isSubtype_stop ?_)
 (exact wpAny_pure (hQ _ (((Heap.SameBut.update ..).extBut.push _).push _)))
theorem zit (hh : A.handled = none) (I d : Addr) (hne : d ≠ I) (es : Array DictEntry) (ep : Nat) :
  Walks prog w A I [I,d] [I] es.size (fun i v => ∃ e,es[i]? = some e ∧ v = e.key) (fun i h => h.IsKeyIter I d i es.size ep ∧ zd2 h d es ep) where
 sub:=(fun b hb => by simp at hb; simp [hb])
 frame:=(fun _ _ _ st hk => ⟨st.1.at fun o e => hk I (by simp) o e,st.2.at' fun o e => hk d (by simp) o e⟩)
 item:=fun i s Q E hi st hQ => zjE st.1 st.2 (getElem?_pos es i hi) fun h' hit' hs' => hQ _ h' s.toks ⟨es[i],getElem?_pos es i hi,rfl⟩ ⟨hit',st.2.at' fun o e => hs'.extBut d o hne e⟩ fun b o hb e => hs'.extBut b o (fun h => hb (by simp [h])) e
 done:=fun s Q E st hQ => zkF hh st.1 st.2 (Nat.le_refl _) fun h' he' => hQ h' s.toks fun b o hb e => he' b o (fun h => hb (by simp [h])) e
 self:=(fun _ _ _ _ st hQ => wpAny_pyIter_keyiter st.1 hQ)
theorem zkG (lo : (d == sysModules) = false) : PySem.W.KdlSrc prog w "dict" d d es.size (fun i v => ∃ e,es[i]? = some e ∧ v = e.key) (fun h => zd2 h d es ep) where
 type:=fun _ hm => hm.typeIs
 there:=fun _ hm => let ⟨_,ho,_⟩:=hm; ⟨Heap.lt_size ho,Heap.lt_size ho⟩
 keep:=(fun _ _ hm hk => hm.at' fun o e => hk d (.inl rfl) o e)
 notList:=by decide
 notTuple:=by decide
 hint:=fun _ _ _ _ hm hq => PySem.W.kdl_hint_dict hm.typeIs hq
 iter:=fun _ _ hh hm => ⟨_,_,(fun _ _ hq => zjD lo hm hq),zit hh _ d (by obtain ⟨_,ho,_⟩:=id hm; exact Nat.ne_of_lt (Heap.lt_size ho)) es ep,⟨⟨_,Heap.get?_push_size _ rfl,rfl,rfl⟩,hm.at' fun o e => Heap.get?_push_of_some _ e⟩⟩
end
end PySem
end
section
set_option maxHeartbeats 3994000
namespace Srt
open PySem PyProof.Rows
section
variable {prog : Program} {w : World} {A : Around} {E : Value → Shared → Prop} {s : Shared} {κ : SortKind} {val : Keyed → Int}
theorem zc2 {vs : List Value} {p : Keyed} (h : p ∈ (pairsOf vs).toList) : p.1 ∈ vs ∧ p.2 = p.1:=by
 rw [pairsOf_toList] at h
 obtain ⟨i,hi,e⟩:=List.getElem_of_mem h
 rw [List.getElem_zip] at e
 rw [← e]
 exact ⟨List.getElem_mem _,rfl⟩
theorem zl7 {vs : List Value} {xs : Array Keyed} (hp : xs.Perm (pairsOf vs)) (hs : SIn val xs 0 (pairsOf vs).size) : (xs.map (·.2)).toList.Perm vs ∧ (xs.map (·.2)).toList.Pairwise fun x y => val (x,x) ≤ val (y,y):=by
 (have hl : xs.toList.Perm (vs.zip vs):=by rw [← pairsOf_toList]; exact Array.perm_iff_toList_perm.mp hp)
 have hm : ∀ p ∈ xs.toList,p = (p.2,p.2):=fun p hp' => by
  have:=zc2 (by rw [pairsOf_toList]; exact hl.mem_iff.mp hp')
  exact Prod.ext this.2.symm rfl
 constructor
 ·rw [Array.toList_map]
  refine (hl.map (·.2)).trans ?_
  rw [show (vs.zip vs).map (·.2) = vs from List.map_snd_zip (Nat.le_refl _)]
 ·rw [Array.toList_map,List.pairwise_map,List.pairwise_iff_getElem]
  intro i j hi hj hij
  (have hi' : i < xs.size:=by simpa using hi)
  (have hj' : j < xs.size:=by simpa using hj)
  have h1:=hs i j (Nat.zero_le _) (by omega) (by rw [← hp.size_eq]; exact hj')
  rw [zR (getElem?_pos xs i hi'),zR (getElem?_pos xs j hj')] at h1
  have e1:=hm xs.toList[i] (List.getElem_mem _)
  have e2:=hm xs.toList[j] (List.getElem_mem _)
  rw [← e1,← e2]
  simpa using h1
theorem ziu {a : Addr} {vs : List Value} {n : Nat} {P : PySem.Fin → Shared → Prop} (ho : s.heap.get? a = some (seqObj "list" vs.toArray n)) (hlen : vs.length ≤ sizeLine)
  (hkind : ∀ h',(∀ b o,b ≠ a → s.heap.get? b = some o → h'.get? b = some o) → 2 ≤ vs.length → ∀ (Q : SortKind → Shared → Prop) (E : Value → Shared → Prop),Q κ { s with heap:=h' } → wpAny (model prog w) A (keyKind' vs.toArray) Q E { s with heap:=h' })
  (hcmp : ∀ h',(∀ b o,b ≠ a → s.heap.get? b = some o → h'.get? b = some o) → Cmp prog w A { s with heap:=h' } κ val (pairsOf vs))
  (h : ∀ out : Array Value,out.toList.Perm vs → (out.toList.Pairwise fun x y => val (x,x) ≤ val (y,y)) → P (.done (.ret .none)) { s with heap:=sortedHeap s.heap a vs out }) : wpAny (model prog w) A (Builtin.«list.sort» ⟨[.ref a],[]⟩) P E s:=by
 rw [list_sort_plain]
 (have ha : a < s.heap.objs.size:=Heap.lt_size ho)
 have hz : vs.toArray.size = vs.length:=List.size_toArray
 refine wpAny_bind (listItems_at ho rfl (wpAny_bind (listUpdate_at ho rfl ?_ (hsz:=by rw [hz]; exact hlen))))
 (obtain ⟨e1,ho1⟩ : ∃ e1,(s.heap.update a (Obj.mapSeq fun _ => #[])).get? a = some (seqObj "list" #[] e1):=⟨_,get?_update_seq ho (fun _ => #[])⟩)
 refine wpAny_bind (seqEpoch_at ho1 rfl (wpAny_bind (wpAny_newTuple (wpAny_bind (wpAny_newList (wpAny_holding ?_))) (hsz:=hlen))))
 have ho6 : (((s.heap.update a (Obj.mapSeq fun _ => #[])).push (seqObj "tuple" vs.toArray 0)).push (seqObj "list" #[] 0)).get? a = some (seqObj "list" #[] e1):=Heap.get?_push_of_some _ (Heap.get?_push_of_some _ ho1)
 have hk6 : ∀ b o,b ≠ a → s.heap.get? b = some o → (((s.heap.update a (Obj.mapSeq fun _ => #[])).push (seqObj "tuple" vs.toArray 0)).push (seqObj "list" #[] 0)).get? b = some o:=fun b o hb e => Heap.get?_push_of_some _ (Heap.get?_push_of_some _ ((Heap.get?_update_ne _ _ _ _ hb).trans e))
 (show wpAny (model prog w) A _ P E { s with heap:=((s.heap.update a (Obj.mapSeq fun _ => #[])).push (seqObj "tuple" vs.toArray 0)).push (seqObj "list" #[] 0) })
 dsimp only
 have hcm:=hcmp _ hk6
 have fin : ∀ st' : SortSt,SB κ (pairsOf vs) st' ∨ (arrOf st' = pairsOf vs ∧ failedOf st' = none) → SIn val (arrOf st') 0 (pairsOf vs).size →
   P (.done (.ret .none)) { s with heap:=sortedHeap s.heap a vs ((arrOf st').map (·.2)) }:=fun st' hB hs => by
  have hp : (arrOf st').Perm (pairsOf vs):=by
   rcases hB with hB | hB
   ·exact hB.perm
   ·rw [hB.1]
  obtain ⟨b1,b2⟩:=zl7 hp hs
  exact h _ b1 b2
 (by_cases h2 : vs.toArray.size < 2)
 ·rw [if_pos h2,if_pos h2]
  refine wpAny_bind (wpAny_pure ?_); rw [StateT.run_pure]; refine wpAny_bind (wpAny_pure ?_)
  dsimp only
  refine wpAny_bind (seqEpoch_at ho6 rfl (wpAny_bind (listUpdate_at ho6 rfl ?_ (hsz2:=by rw [Array.size_map]; show (pairsOf vs).size ≤ _; rw [pairsOf_size]; omega))))
  (simp only [bne_self_eq_false,Bool.false_eq_true,if_false])
  refine wpAny_pure (fin (SortSt.mk' general' (vs.toArray.zip vs.toArray) #[] 7 none) (.inr ⟨rfl,rfl⟩) fun i j _ hij hj => ?_)
  have e : i = j:=by rw [pairsOf_size] at hj; omega
  rw [e]
  exact Int.le_refl _
 ·rw [if_neg h2,if_neg h2]
  refine wpAny_bind (hkind _ hk6 (by omega) _ _ ?_)
  refine wpAny_bind (wpAny_mono (zl6 (a₀:=pairsOf vs) (κ:=κ) (val:=val) (st:=SortSt.mk' κ (vs.toArray.zip vs.toArray) #[] 7 none) (Q:=fun _ st' => SB κ (pairsOf vs) st' ∧ SIn val (arrOf st') 0 (pairsOf vs).size)
   hcm ⟨Array.Perm.refl _,rfl,rfl⟩ rfl (by rw [pairsOf_size]; omega) fun st' a1 a2 => ⟨a1,a2⟩) ?_ fun _ _ e => e)
  rintro ⟨⟨⟩,st'⟩ s' ⟨rfl,hB,hs⟩
  dsimp only
  refine wpAny_bind (seqEpoch_at ho6 rfl (wpAny_bind (listUpdate_at ho6 rfl ?_ (hsz2:=Nat.le_trans (Nat.le_of_eq ((Array.size_map ..).trans (hB.perm.size_eq.trans (pairsOf_size _)))) (by omega)))))
  rw [hB.failed]
  (simp only [bne_self_eq_false,Bool.false_eq_true,if_false])
  exact wpAny_pure (fin st' (.inl hB) hs)
theorem ziv {v : Value} {vs : List Value} {Q : Value → Shared → Prop} (hlen : vs.length ≤ sizeLine)
  (hcol : ∀ R : List Value → Shared → Prop,(∀ (h' : Heap) (tk : Nat),(∀ b o,s.heap.get? b = some o → h'.get? b = some o) → R vs { s with heap:=h',toks:=tk }) → wpAny (model prog w) A.in1 (collect v) R E s)
  (hkind : ∀ s',(∀ b o,s.heap.get? b = some o → s'.heap.get? b = some o) → 2 ≤ vs.length → ∀ (A' : Around) (Q : SortKind → Shared → Prop) (E : Value → Shared → Prop),Q κ s' → wpAny (model prog w) A' (keyKind' vs.toArray) Q E s')
  (hcmp : ∀ s' A',(∀ b o,s.heap.get? b = some o → s'.heap.get? b = some o) → Cmp prog w A' s' κ val (pairsOf vs))
  (h : ∀ (h' : Heap) (tk : Nat) (out : Array Value) (e : Nat) (D : Addr),(∀ b o,s.heap.get? b = some o → h'.get? b = some o) → (∀ b o,s.heap.get? b = some o → b < D) → h'.get? D = some (seqObj "list" out e) → out.toList.Perm vs → (out.toList.Pairwise fun x y => val (x,x) ≤ val (y,y)) → Q (.ref D) { s with heap:=h',toks:=tk }) :
  wpAny (model prog w) A (call (.builtin "sorted") [v]) Q E s:=by
 refine Calls.call_function_entry kind_sorted plain_sorted entry_sorted (args_sorted1 _) ?_; unfold Builtin.«sorted»
 refine wpAny_bind (m:=checkCount "sorted" 1 1 _) (wpAny_pure (wpAny_bind (wpAny_mono (hcol (fun us s' => us = vs ∧ ∃ (h' : Heap) (tk : Nat),s' = { s with heap:=h',toks:=tk } ∧ ∀ b o,s.heap.get? b = some o → h'.get? b = some o) fun h' tk k => ⟨rfl,h',tk,rfl,k⟩) ?_ fun _ _ e => e)))
 rintro us s' ⟨rfl,h1,tk,rfl,kk⟩
 refine wpAny_bind (wpAny_newList ?_ (hsz:=hlen))
 have hoL : (h1.push (seqObj "list" us.toArray 0)).get? h1.objs.size = some (seqObj "list" us.toArray 0):=Heap.get?_push_size _ rfl
 have kn : ∀ b o,s.heap.get? b = some o → b ≠ h1.objs.size:=fun b o e => Nat.ne_of_lt (Heap.lt_size (kk b o e))
 refine wpAny_bind (wpAny_holding (wpAny_call_entry slot_list_sort ⟨_,hoL,rfl⟩ entry_list_sort (ziu (κ:=κ) (val:=val) hoL hlen (fun h' hk h2 Q E hq => hkind _ (fun b o e => hk b o (kn b o e) (Heap.get?_push_of_some _ (kk b o e))) h2 _ Q E hq) (fun h' hk => hcmp _ _ fun b o e => hk b o (kn b o e) (Heap.get?_push_of_some _ (kk b o e))) fun out a1 a2 => ⟨_,rfl,?_⟩) (args_list_sort _)))
 obtain ⟨e,he⟩:=sortedHeap_at (out:=out) hoL
 refine wpAny_pure ⟨_,rfl,h _ tk out e h1.objs.size (fun b o x => ?_) (fun b o x => Heap.lt_size (kk _ _ x)) he a1 a2⟩
 rw [sortedHeap_old (kn b o x) (by rw [Heap.size_push]; exact Nat.lt_succ_of_lt (Heap.lt_size (kk _ _ x)))]
 exact Heap.get?_push_of_some _ (kk _ _ x)
end
end Srt
end
section
set_option maxHeartbeats 3996000
namespace L2
open PySem PySem.Spec PyProof.Rows PySem.Builtin.Str
end L2
end
section
set_option maxHeartbeats 3996000
namespace L2
open PySem PySem.Spec PyProof.Rows PySem.Builtin.Str
theorem Inv.above {X : Cx} {pins : List (Addr × Obj)} {σ : St} {H : Hp} {s : Shared} {h' : Heap} {tk : Nat} {D : Addr} {o : HO} (I : Inv X pins σ H s) (k : ∀ b o,s.heap.get? b = some o → h'.get? b = some o) (hD : ∀ b o,s.heap.get? b = some o → b < D)
  (new : zab X.prog X.w (upd H D o) h' D o) : H D = none ∧ Inv X pins σ (upd H D o) { s with heap:=h',toks:=tk }:=by
 have hn : H D = none:=by
  cases e : H D with
  | none => rfl
  | some u =>
   obtain ⟨ob,z⟩:=zlZ (I.hok D u e)
   exact absurd (hD D ob z) (Nat.lt_irrefl _)
 have hL : X.env.locals < D:=by
  obtain ⟨m,⟨o,es,ep,ho,_⟩,_⟩:=I.loc
  exact hD _ _ ho
 have I1 : Inv X pins σ H { s with heap:=h',toks:=tk }:=I.kept k
 refine ⟨hn,I1.track hn (Nat.le_of_lt (Nat.lt_of_le_of_lt I.ok.above hL)) (Nat.ne_of_lt hL) (fun x c e z => ?_) (fun p hp z => ?_) new⟩
 ·obtain ⟨v,oc,q,_⟩:=I.cell x c e
  exact absurd (hD c oc q) (by rw [z]; exact Nat.lt_irrefl _)
 ·exact absurd (hD p.1 _ (I.pin p hp).1) (by rw [z]; exact Nat.lt_irrefl _)
end L2
end
section
set_option maxHeartbeats 3994000
namespace L2
open PySem PySem.Spec PyProof.Rows Srt
def zjF (xs : List V) : List Int:=xs.filterMap fun x => match x with
 | .int n => some n
 | _ => none
theorem ziw (ns : List Int) : zjF (ns.map V.int) = ns:=by
 unfold zjF
 rw [List.filterMap_map]
 induction ns with
 | nil => rfl
 | cons n ns ih =>
  rw [List.filterMap_cons]
  simp only [Function.comp]
  rw [ih]
def zcO (H : Hp) (v : Value) : List Int:=match v with
 | .ref a => (match H a with
  | some (.tup xs) => zjF xs
  | _ => [])
 | _ => []
theorem zd3 {H : Hp} {a : Addr} {ns : List Int} (h : H a = some (.tup (ns.map V.int))) : zcO H (.ref a) = ns:=by
 unfold zcO
 simp only [h]
 exact ziw ns
def zkH (H : Hp) (k : Nat) (B : Int) (ps : List (Addr × List Int)) : Prop:=∀ q ∈ ps,H q.1 = some (.tup (q.2.map V.int)) ∧ q.2.length = k ∧ ∀ n ∈ q.2,0 ≤ n ∧ n < B
theorem zcP : ∀ (ps : List (Addr × List Int)),zJ (ps.map fun q => V.ref q.1) (ps.map fun q => Value.ref q.1)
 | [] => .nil
 | q :: ps => .cons rfl (zcP ps)
section
variable {X : Cx} {pins : List (Addr × Obj)} {σ : St} {H : Hp} {s : Shared} {k : Nat} {B : Int} {ps : List (Addr × List Int)}
theorem zfk (I : Inv X pins σ H s) {q : Addr × List Int} (h : H q.1 = some (.tup (q.2.map V.int))) : ∃ o its n,s.heap.get? q.1 = some o ∧ o.cls = .type "tuple" ∧ o.data = .seq its n ∧ IntsAre its.toList q.2:=by
 obtain ⟨its,r,⟨o,ho,hc,n,hd⟩,hz⟩:=I.tuple (SqT.of h)
 exact ⟨o,its.toArray,n,ho,hc,hd,by simpa using intsAre_of r⟩
theorem zl8 (I : Inv X pins σ H s) (hT : zkH H k B ps) (hk : 1 ≤ k) {s' : Shared} (kk : ∀ b o,s.heap.get? b = some o → s'.heap.get? b = some o) : ∃ fs : List Value,PySem.W.KatTups s'.heap (ps.map fun q => Value.ref q.1) fs ∧ fs.length = ps.length ∧ ∀ v ∈ fs,∃ n t,v = Value.int n t:=by
 induction ps with
 | nil => exact ⟨[],trivial,rfl,fun v hv => by cases hv⟩
 | cons q ps ih =>
  obtain ⟨fs,h1,h2,h3⟩:=ih fun q' hq' => hT q' (List.mem_cons_of_mem _ hq')
  obtain ⟨hq,hl,_⟩:=hT q (by simp)
  obtain ⟨o,its,n,ho,hc,hd,hi⟩:=zfk I hq
  have hlen:=hi.length
  obtain ⟨m,ms,e⟩ : ∃ m ms,q.2 = m :: ms:=by
   cases e : q.2 with
   | nil => rw [e] at hl; simp at hl; omega
   | cons m ms => exact ⟨m,ms,rfl⟩
  rw [e] at hi
  cases e2 : its.toList with
  | nil => rw [e2] at hi; cases hi
  | cons f fr =>
   rw [e2] at hi
   cases hi with
   | cons _ t hi =>
    refine ⟨.int m t :: fs,PySem.W.KatTups.cons (kk _ _ ho) hc hd ?_ h1,by simp [h2],fun v hv => ?_⟩
    ·rw [← Array.getElem?_toList,e2]
     rfl
    ·rcases (List.mem_cons.mp hv) with rfl | hv
     ·exact ⟨m,t,rfl⟩
     ·exact h3 v hv
theorem zeS : ∀ ms : List Int,zgb ms ms = false
 | [] => rfl
 | m :: ms => by rw [zcd,if_pos rfl,zeS ms]
theorem zl9 (I : Inv X pins σ H s) (hT : zkH H k B ps) (hB : 1 ≤ B) {s' : Shared} {A' : Around} (kk : ∀ b o,s.heap.get? b = some o → s'.heap.get? b = some o) :
  Cmp X.prog X.w A' s' (tuples' true) (fun p => num B (zcO H p.1)) (pairsOf (ps.map fun q => Value.ref q.1)):=by
 intro x y hx hy Q E hQ
 obtain ⟨qx,mx,ex⟩:=List.mem_map.mp (zc2 hx).1
 obtain ⟨qy,my,ey⟩:=List.mem_map.mp (zc2 hy).1
 obtain ⟨hx1,hx2,hx3⟩:=hT qx mx
 obtain ⟨hy1,hy2,hy3⟩:=hT qy my
 obtain ⟨ox,ix,nx,gx,cx,dx,ax⟩:=zfk I hx1
 obtain ⟨oy,iy,ny,gy,cy,dy,ay⟩:=zfk I hy1
 have ev : decide ((fun p : Keyed => num B (zcO H p.1)) x < (fun p : Keyed => num B (zcO H p.1)) y) = zgb qx.2 qy.2:=by
  rw [zhx hB (hx2.trans hy2.symm) hx3 hy3,← zd3 hx1,← zd3 hy1]
  simp only [ex,ey]
 rw [ev] at hQ
 rw [← ex,← ey]
 refine PySem.W.kat_lt (kk _ _ gx) dx (kk _ _ gy) dy (zhy 0 ax ay (hx2.trans hy2.symm) ?_)
 have hsz : decide (ix.size < iy.size) = false:=by
  have e1:=ax.length
  have e2:=ay.length
  rw [Array.length_toList] at e1 e2
  exact decide_eq_false (by omega)
 rw [hsz]
 by_cases e : qx.2 = qy.2
 ·rw [if_pos e]
  rw [e,zeS] at hQ
  exact hQ
 ·rw [if_neg e]
  exact hQ
theorem zjG (hT : zkH H k B ps) {out : Array Value} (hp : out.toList.Perm (ps.map fun q => Value.ref q.1)) (hs : out.toList.Pairwise fun x y => num B (zcO H x) ≤ num B (zcO H y)) :
  ∃ ps' : List (Addr × List Int),ps'.Perm ps ∧ (ps'.Pairwise fun a b => num B a.2 ≤ num B b.2) ∧ out.toList = ps'.map fun q => Value.ref q.1:=by
 let g : Value → Addr × List Int:=fun v => match v with
  | .ref a => (a,zcO H (.ref a))
  | _ => (0,[])
 have hg : ∀ q ∈ ps,g (.ref q.1) = q:=fun q hq => Prod.ext rfl (zd3 (hT q hq).1)
 have hv : ∀ v ∈ out.toList,∃ q ∈ ps,v = .ref q.1:=fun v hv => by
  obtain ⟨q,hq,e⟩:=List.mem_map.mp (hp.mem_iff.mp hv)
  exact ⟨q,hq,e.symm⟩
 refine ⟨out.toList.map g,?_,?_,?_⟩
 ·refine (hp.map g).trans ?_
  rw [List.map_map]
  have : ps.map (g ∘ fun q => Value.ref q.1) = ps:=by
   conv => rhs; rw [← List.map_id ps]
   exact List.map_congr_left fun q hq => hg q hq
  rw [this]
 ·rw [List.pairwise_map]
  refine List.Pairwise.imp_of_mem (fun {x y} hx hy h => ?_) hs
  obtain ⟨q,hq,rfl⟩:=hv x hx
  obtain ⟨q',hq',rfl⟩:=hv y hy
  exact h
 ·rw [List.map_map]
  conv => lhs; rw [← List.map_id out.toList]
  refine List.map_congr_left fun v hv' => ?_
  obtain ⟨q,hq,rfl⟩:=hv v hv'
  rfl
end
theorem zix {M : Model} {h : Heap} {n : Int} {t : Tok} : PySem.W.Looks M h (typeOf (.int n t)) (.type "int"):=PySem.W.Looks.of_pure rfl
theorem zkI {X : Cx} {pins : List (Addr × Obj)} {σ : St} {H : Hp} {s : Shared} {d : Addr} {kvs : List (List Key × V)} {mss : List (List Int)} (I : Inv X pins σ H s) (hd : H d = some (.dT kvs)) (hk : kvs.map (·.1) = mss.map (·.map Sum.inl)) :
  (d == sysModules) = false ∧ kvs.length ≤ sizeLine ∧ ∃ (ps : List (Addr × List Int)) (es : Array DictEntry) (ep : Nat),zd2 s.heap d es ep ∧ es.toList.map (·.key) = (ps.map fun q => Value.ref q.1) ∧ ps.map (·.2) = mss ∧ ∀ q ∈ ps,H q.1 = some (.tup (q.2.map V.int)):=by
 obtain ⟨hz,hs,xs,hp,o,es,ep,ho,hx,he,hes,hnd⟩:=I.hok d _ hd
 refine ⟨hs,hz,?_⟩
 have key : ∀ {kvs : List (List Key × V)} {xs : List (List Key × Addr × Value)} {mss : List (List Int)},Paired (fun (p : List Key × V) (q : List Key × Addr × Value) => p.1 = q.1 ∧ H q.2.1 = some (.tup (p.1.map kV)) ∧ RelV p.2 q.2.2) kvs xs → kvs.map (·.1) = mss.map (·.map Sum.inl) →
   ∃ ps : List (Addr × List Int),xs.map (fun x => Value.ref x.2.1) = (ps.map fun q => Value.ref q.1) ∧ ps.map (·.2) = mss ∧ ∀ q ∈ ps,H q.1 = some (.tup (q.2.map V.int)):=by
  intro kvs xs mss hp
  induction hp generalizing mss with
  | nil =>
   intro e
   cases mss with
   | nil => exact ⟨[],rfl,rfl,fun q hq => by cases hq⟩
   | cons m mss => simp at e
  | @cons x y l1 l2 h1 h2 ih =>
   intro e
   cases mss with
   | nil => simp at e
   | cons m mss =>
    rw [List.map_cons,List.map_cons] at e
    obtain ⟨e1,e2⟩:=List.cons.inj e
    obtain ⟨ps,a1,a2,a3⟩:=ih e2
    obtain ⟨_,h12,_⟩:=h1
    refine ⟨(y.2.1,m) :: ps,by rw [List.map_cons,List.map_cons,a1],by rw [List.map_cons,a2],fun q hq => ?_⟩
    rcases (List.mem_cons.mp hq) with rfl | hq
    ·rw [h12,e1,List.map_map]
     rfl
    ·exact a3 q hq
 obtain ⟨ps,a1,a2,a3⟩:=key hp hk
 refine ⟨ps,es,ep,⟨o,ho,hx,he⟩,?_,a2,a3⟩
 rw [hes,List.map_map,← a1]
 rfl
theorem zfl {X : Cx} (hc : X.calm = true) : zbR X (.builtin "sorted") (fun xs H Q => ∃ (d : Addr) (k : Nat) (B : Int) (kvs : List (List Key × V)) (mss : List (List Int)),xs = [.ref d] ∧ H d = some (.dT kvs) ∧ kvs.map (·.1) = mss.map (·.map Sum.inl) ∧ (∀ ms ∈ mss,ms.length = k ∧ ∀ n ∈ ms,0 ≤ n ∧ n < B) ∧ 1 ≤ k ∧ 1 ≤ B ∧
  ∀ (l : Addr) (ps' : List (Addr × List Int)),H l = none → (ps'.map (·.2)).Perm mss → (ps'.Pairwise fun a b => num B a.2 ≤ num B b.2) → (∀ q ∈ ps',H q.1 = some (.tup (q.2.map V.int))) → Q (.ref l) (upd H l (.lst (ps'.map fun q => V.ref q.1)))):=by
 intro pins s σ H xs us Q I r h
 obtain ⟨d,k,B,kvs,mss,rfl,hd,hkm,hrg,hk,hB,q⟩:=h
 obtain ⟨u,rfl,rx⟩:=vals1 r
 cases rx
 obtain ⟨hs,hz,ps,es,ep,hraw,hek,hps,hH⟩:=zkI I hd hkm
 have hT : zkH H k B ps:=fun q' hq' => ⟨hH q' hq',hrg q'.2 (by rw [← hps]; exact List.mem_map_of_mem hq')⟩
 have hlp : ps.length = kvs.length:=by
  have e1:=congrArg List.length hps
  have e2:=congrArg List.length hkm
  rw [List.length_map] at e1
  rw [List.length_map,List.length_map] at e2
  omega
 have hes : es.size = ps.length:=by
  have:=congrArg List.length hek
  rw [List.length_map,List.length_map,Array.length_toList] at this
  exact this
 refine ziv (vs:=ps.map fun q => Value.ref q.1) (κ:=tuples' true) (val:=fun p => num B (zcO H p.1)) (by rw [List.length_map]; omega) (fun R hR => ?_) (fun s' kk h2 A' Q' E' hq' => ?_) (fun s' A' kk => zl9 I hT hB kk) fun h' tk out e D kk hD hlst hp hs => ?_
 ·refine PySem.W.kdu_collect (zkG (es:=es) (ep:=ep) hs) (by simp [I.ok.hd hc]) hraw (by omega) fun h' tk acc kk hacc => ?_
  have : acc.toList = ps.map fun q => Value.ref q.1:=by
   rw [← hek]
   refine List.ext_getElem? fun j => ?_
   by_cases hj : j < es.size
   ·have hja : j < acc.size:=by rw [hacc.1]; exact hj
    obtain ⟨e',h1,h2⟩:=hacc.2 j acc[j] (getElem?_pos acc j hja)
    rw [Array.getElem?_toList,getElem?_pos acc j hja,List.getElem?_map,Array.getElem?_toList,h1,h2]
    rfl
   ·rw [List.getElem?_eq_none (by rw [Array.length_toList,hacc.1]; omega),List.getElem?_eq_none (by rw [List.length_map,Array.length_toList]; omega)]
  rw [this]
  exact hR h' tk kk
 ·obtain ⟨fs,k1,k2,k3⟩:=zl8 I hT hk kk
  exact PySem.W.kat_kind (T:=.type "int") k1 (by rw [List.length_map] at h2; omega) (fun v hv => by obtain ⟨n,t,rfl⟩:=k3 v hv; exact zix) rfl hq'
 ·obtain ⟨ps',p1,p2,p3⟩:=zjG hT hp hs
  have hl:=p1.length_eq
  obtain ⟨hn,I2⟩:=I.above (tk:=tk) (D:=D) (o:=.lst (ps'.map fun q => V.ref q.1)) kk hD ⟨by rw [List.length_map]; omega,ps'.map fun q => Value.ref q.1,e,zcP ps',by rw [← p3]; exact hlst⟩
  exact ⟨.ref D,_,I2,rfl,q D ps' hn (by rw [← hps]; exact p1.map _) p2 fun q' hq' => (hT q' (p1.mem_iff.mp hq')).1⟩
end L2
end
section
set_option maxHeartbeats 3999000
namespace L2
open PySem PySem.Spec PyProof.Rows
section
variable {X : Cx} {elt t1 i1 t2 i2 : Expr} {f1 f2 : List Expr} {scope : Scope} {pos : Pos} {N' : List Str} {ix : List (Option Nat)} {js1 js2 : List Nat} {g1 g2 : TG} {ts1 ts2 : TT} {te : TE} {wi1 wi2 : TI}
theorem zjH (hc : X.calm = true) (gs2 : GS js2 g2) (hi2 : ∀ s₃ H₃ ex pins,PI (zG X N' scope s₃ H₃ ex pins) t2 i2 wi2)
  (hg2 : ∀ s₃ H₃ ex pins,PG (zG X N' scope s₃ H₃ ex pins) t2 g2) (ht2 : ∀ s₃ H₃ ex pins,zcE (zG X N' scope s₃ H₃ ex pins) f2 ts2) (he : ∀ s₃ H₃ ex pins,PE (zG X N' scope s₃ H₃ ex pins) elt te)
  (hs2 : ∀ s₃ H₃ ex pins x,foldedSetIterable i2 (zG X N' scope s₃ H₃ ex pins).env x = pure x) :
  ∀ s₃ H₃ ex pins D,PM (zG X N' scope s₃ H₃ ex pins) D js2 ((fun D env => zhm (.ListComp elt [⟨t1,i1,f1,0⟩,⟨t2,i2,f2,0⟩] scope pos) i2 1 (.ref D) env) D (zG X N' scope s₃ H₃ ex pins).env) (zho wi2 g2 ts2 (zhn te)):=by
 intro s₃ H₃ ex pins D
 have h:=zl2 (Y:=zG X N' scope s₃ H₃ ex pins) (D:=D) (js:=js2) (js':=[]) (elt:=elt) (gens:=[⟨t1,i1,f1,0⟩,⟨t2,i2,f2,0⟩]) (scope:=scope) (pos:=pos) (d:=1) (p:=i2.pos) hc rfl gs2 (fun _ _ z => by cases z) (hi2 s₃ H₃ ex pins) (hg2 s₃ H₃ ex pins) (ht2 s₃ H₃ ex pins) (zgN rfl (he s₃ H₃ ex pins)) rfl (fun it => zl3 it D _) (hs2 s₃ H₃ ex pins)
 rw [List.append_nil] at h
 exact h
theorem zkJ (SC : CompSc X N' ix scope) (hc : X.calm = true) (gs1 : GS js1 g1) (gs2 : GS js2 g2) (hdis : ∀ j ∈ js1,j ∉ js2) (hjs : ∀ j ∈ js1 ++ js2,ix[j]? = some none) (hi1 : PI X t1 i1 wi1)
  (hg1 : ∀ s₃ H₃ ex pins,PG (zG X N' scope s₃ H₃ ex pins) t1 g1) (ht1 : ∀ s₃ H₃ ex pins,zcE (zG X N' scope s₃ H₃ ex pins) f1 ts1) (hi2 : ∀ s₃ H₃ ex pins,PI (zG X N' scope s₃ H₃ ex pins) t2 i2 wi2)
  (hg2 : ∀ s₃ H₃ ex pins,PG (zG X N' scope s₃ H₃ ex pins) t2 g2) (ht2 : ∀ s₃ H₃ ex pins,zcE (zG X N' scope s₃ H₃ ex pins) f2 ts2) (he : ∀ s₃ H₃ ex pins,PE (zG X N' scope s₃ H₃ ex pins) elt te)
  (hs : ∀ x,foldedSetIterable i1 X.env x = pure x:=by intro _; rfl) (hs2 : ∀ s₃ H₃ ex pins x,foldedSetIterable i2 (zG X N' scope s₃ H₃ ex pins).env x = pure x:=by intros; rfl) :
  PE X (.ListComp elt [⟨t1,i1,f1,0⟩,⟨t2,i2,f2,0⟩] scope pos) (zfg ix wi1 g1 ts1 (zho wi2 g2 ts2 (zhn te))) :=
 zf5 SC hc gs1 hdis hjs hi1 hg1 ht1 (zjH hc gs2 hi2 hg2 ht2 he hs2) (fun it D env => zjs it D env) hs
theorem zgP {i : Nat} {x : Str} {pos' spos : Pos} (hN : X.N.Nodup) (hxi : X.N[i]? = some x) (hx : Loc X.env.scope x) (SC : CompSc X N' ix scope) (hc : X.calm = true) (gs1 : GS js1 g1) (gs2 : GS js2 g2) (hdis : ∀ j ∈ js1,j ∉ js2) (hjs : ∀ j ∈ js1 ++ js2,ix[j]? = some none) (hi1 : PI X t1 i1 wi1)
  (hg1 : ∀ s₃ H₃ ex pins,PG (zG X N' scope s₃ H₃ ex pins) t1 g1) (ht1 : ∀ s₃ H₃ ex pins,zcE (zG X N' scope s₃ H₃ ex pins) f1 ts1) (hi2 : ∀ s₃ H₃ ex pins,PI (zG X N' scope s₃ H₃ ex pins) t2 i2 wi2)
  (hg2 : ∀ s₃ H₃ ex pins,PG (zG X N' scope s₃ H₃ ex pins) t2 g2) (ht2 : ∀ s₃ H₃ ex pins,zcE (zG X N' scope s₃ H₃ ex pins) f2 ts2) (he : ∀ s₃ H₃ ex pins,PE (zG X N' scope s₃ H₃ ex pins) elt te)
  (hsw : swapsWith (.ListComp elt [⟨t1,i1,f1,0⟩,⟨t2,i2,f2,0⟩] scope pos) (some (.Name x pos')) spos.line X.env = pure true:=by rfl)
  (hs : ∀ x,foldedSetIterable i1 X.env x = pure x:=by intro _; rfl) (hs2 : ∀ s₃ H₃ ex pins x,foldedSetIterable i2 (zG X N' scope s₃ H₃ ex pins).env x = pure x:=by intros; rfl) (hf : X.fn x = true ∨ X.env.scope.names.lookup x = some .local:=by first | exact .inl rfl | exact .inr rfl | assumption) :
  PS X (.Assign [.Name x pos'] (.ListComp elt [⟨t1,i1,f1,0⟩,⟨t2,i2,f2,0⟩] scope pos) spos) (zgv (zfg ix wi1 g1 ts1 (zho wi2 g2 ts2 (zhn te))) (zaC i)) :=
 zdk hN hxi hx SC hc gs1 hdis hjs hi1 hg1 ht1 (zjH hc gs2 hi2 hg2 ht2 he hs2) (fun it D env => zjs it D env) hsw hs hf
end
theorem zhz {J : It} {n : Nat} {g : TG} {ts : TT} {tm : TM} {σ0 : St} {Q : List V → Hp → Prop} {ys : List V} {H : Hp} (Pv : Nat → List V → Hp → Prop) (h0 : Pv 0 ys H) (hgo : ∀ i ys H,i < n → Pv i ys H → J.go i H) (hst : ∀ ys H,Pv n ys H → J.stop n H)
  (hs : ∀ i x ys H H',i < n → Pv i ys H → J.yld i H x H' → g x σ0 H' fun σ2 H2 => ts σ2 H2 fun b H3 => if b = true then tm ys σ2 H3 (Pv (i + 1)) else Pv (i + 1) ys H3)
  (hd : ∀ ys H,Pv n ys H → Q ys H) : cIn g ts tm σ0 J Q ys H:=by
 refine ⟨fun i m ys H => m = n - i ∧ i ≤ n ∧ Pv i ys H,⟨n,by simp,Nat.zero_le _,h0⟩,?_⟩
 rintro i m ys H ⟨rfl,hi,p⟩
 by_cases hlt : i < n
 ·exact .inr ⟨hgo i ys H hlt p,Pv (i + 1),fun ys' H' p' => ⟨n - (i + 1),by omega,rfl,hlt,p'⟩,fun x H' y => hs i x ys H H' hlt p y⟩
 ·have e : i = n:=by omega
  subst e
  exact .inl ⟨hst ys H p,hd ys H p⟩
end L2
end
section
set_option maxHeartbeats 3999000
namespace L2
open PySem PySem.Spec PyProof.Rows
section
variable {X : Cx} {x : Str} {S : Addr} {body suite : List Stmt} {b₀ : Stmt} {tb : XK → TS} {th : TS} {np hpos pos : Pos}
end
end L2
end
section
namespace L2
open PySem PySem.Spec PyProof.Rows
def zma (sc : Scope) (x : Str) : Bool:=match sc.names.lookup x with
 | some .local => true
 | some .cell => true
 | some .free => true
 | _ => false
theorem zkK {sc : Scope} {x : Str} (h : zma sc x = true) : Vis sc x:=by
 unfold zma at h
 unfold Vis
 cases e : sc.names.lookup x with
 | none => rw [e] at h; cases h
 | some k => cases k <;> simp_all
def pvB (N : List Str) (sc : Scope) (i : Nat) (x : Str) : Bool:=decide (N[i]? = some x) && zma sc x && !(x == ("__debug__" : Str)) && !(x == ("__classdict__" : Str))
theorem pvx {X : Cx} (i : Nat) {x : Str} {pos : Pos} (h : pvB X.N X.env.scope i x = true) : PE X (.Name x pos) (zmm i):=by
 unfold pvB at h
 simp only [Bool.and_eq_true,Bool.not_eq_true',decide_eq_true_eq] at h
 exact zlx h.1.1.1 (zkK h.1.1.2) h.1.2 h.2
end L2
end
section
set_option maxHeartbeats 3999000
namespace My
open PySem L2 PyProof.Rows
def nxt {α : Type} (xs : List α) (c : Nat × List α) : List (Nat × List α):=(List.range (xs.length - c.1)).map fun j => (c.1 + j + 1,c.2 ++ xs[c.1 + j]?.toList)
def chs {α : Type} (xs : List α) : Nat → List (Nat × List α)
 | 0 => [(0,[])]
 | m + 1 => (chs xs m).flatMap (nxt xs)
theorem zfm {α : Type} (xs : List α) (c : Nat × List α) : (nxt xs c).length = xs.length - c.1:=by unfold nxt; rw [List.length_map,List.length_range]
theorem zkL {α : Type} {xs : List α} {c : Nat × List α} {j : Nat} {x : α} (h : xs[c.1 + j]? = some x) : (nxt xs c)[j]? = some (c.1 + j + 1,c.2 ++ [x]):=by
 have hj : j < xs.length - c.1:=by
  have:=(List.getElem?_eq_some_iff.mp h).1
  omega
 unfold nxt
 rw [List.getElem?_map,List.getElem?_range hj]
 simp [h]
theorem zhA : ∀ r : Nat,((List.range r).map fun j => 2 ^ (r - j - 1)).sum + 1 = 2 ^ r
 | 0 => rfl
 | r + 1 => by
  rw [List.range_succ_eq_map,List.map_cons,List.sum_cons,List.map_map]
  have e : ((List.range r).map ((fun j => 2 ^ (r + 1 - j - 1)) ∘ Nat.succ)) = (List.range r).map fun j => 2 ^ (r - j - 1):=List.map_congr_left fun j _ => by
   show 2 ^ (r + 1 - (j + 1) - 1) = 2 ^ (r - j - 1)
   congr 1
   omega
  rw [e]
  have:=zhA r
  rw [Nat.pow_succ]
  show 2 ^ (r + 1 - 0 - 1) + _ + 1 = _
  rw [show r + 1 - 0 - 1 = r from by omega]
  omega
def pot {α : Type} (n : Nat) (cs : List (Nat × List α)) : Nat:=(cs.map fun c => 2 ^ (n - c.1)).sum
theorem zkM {α : Type} (xs : List α) (c : Nat × List α) : pot xs.length (nxt xs c) ≤ 2 ^ (xs.length - c.1):=by
 unfold pot nxt
 rw [List.map_map]
 have e : ((List.range (xs.length - c.1)).map ((fun c : Nat × List α => 2 ^ (xs.length - c.1)) ∘ fun j => (c.1 + j + 1,c.2 ++ xs[c.1 + j]?.toList))) = (List.range (xs.length - c.1)).map fun j => 2 ^ (xs.length - c.1 - j - 1):=List.map_congr_left fun j _ => by
  show 2 ^ (xs.length - (c.1 + j + 1)) = _
  congr 1
  omega
 rw [e]
 have:=zhA (xs.length - c.1)
 omega
theorem zgc {α : Type} (xs : List α) : ∀ cs : List (Nat × List α),pot xs.length (cs.flatMap (nxt xs)) ≤ pot xs.length cs
 | [] => Nat.le_refl _
 | c :: cs => by
  have h1:=zkM xs c
  have h2:=zgc xs cs
  rw [List.flatMap_cons]
  unfold pot at h1 h2 ⊢
  rw [List.map_append,List.sum_append,List.map_cons,List.sum_cons]
  omega
theorem zhB {α : Type} (n : Nat) : ∀ cs : List (Nat × List α),cs.length ≤ pot n cs
 | [] => Nat.le_refl _
 | c :: cs => by
  have h:=zhB n cs
  have : 0 < 2 ^ (n - c.1):=Nat.pos_of_ne_zero (by simp)
  unfold pot at h ⊢
  rw [List.map_cons,List.sum_cons,List.length_cons]
  omega
theorem zhC {α : Type} (xs : List α) : ∀ m,pot xs.length (chs xs m) ≤ 2 ^ xs.length
 | 0 => by
  unfold chs pot
  simp
 | m + 1 => Nat.le_trans (zgc xs (chs xs m)) (zhC xs m)
theorem zkN {α : Type} (xs : List α) (m : Nat) : (chs xs m).length ≤ 2 ^ xs.length:=Nat.le_trans (zhB _ _) (zhC xs m)
theorem zc3 {α : Type} {xs : List α} (m : Nat) (h : xs.length ≤ 16) : (chs xs m).length ≤ 65536:=Nat.le_trans (zkN xs m) (Nat.le_trans (Nat.pow_le_pow_right (by decide) h) (by decide))
theorem ziy {α β : Type} {f : α → List β} {l : List α} {i j : Nat} {c : α} (hc : l[i]? = some c) (hj : j < (f c).length) : ((l.take i).flatMap f).length + j < (l.flatMap f).length:=by
 have e : l.flatMap f = (l.take i).flatMap f ++ (f c ++ (l.drop (i + 1)).flatMap f):=by
  conv => lhs; rw [zct hc]
  rw [List.flatMap_append,List.flatMap_cons]
 rw [e,List.length_append,List.length_append]
 omega
theorem ziz {α β : Type} {f : α → List β} {l : List α} {i : Nat} {c : α} (hc : l[i]? = some c) : (l.take (i + 1)).flatMap f = (l.take i).flatMap f ++ f c:=by
 rw [take_snoc hc,List.flatMap_append,List.flatMap_cons,List.flatMap_nil,List.append_nil]
theorem zmb {α : Type} {xs : List α} : ∀ {m : Nat} {c : Nat × List α},c ∈ chs xs m → c.1 ≤ xs.length
 | 0,c,h => by
  unfold chs at h
  rw [List.mem_singleton] at h
  subst h
  exact Nat.zero_le _
 | m + 1,c,h => by
  unfold chs at h
  obtain ⟨c',_,hc⟩:=List.mem_flatMap.mp h
  unfold nxt at hc
  obtain ⟨j,hj,rfl⟩:=List.mem_map.mp hc
  have:=List.mem_range.mp hj
  show c'.1 + j + 1 ≤ xs.length
  omega
theorem zgd {α : Type} {xs : List α} : ∀ {m : Nat} {c : Nat × List α},c ∈ chs xs m → c.2.length ≤ m
 | 0,c,h => by
  unfold chs at h
  rw [List.mem_singleton] at h
  subst h
  exact Nat.le_refl _
 | m + 1,c,h => by
  unfold chs at h
  obtain ⟨c',hm,hc⟩:=List.mem_flatMap.mp h
  have:=zgd hm
  unfold nxt at hc
  obtain ⟨j,hj,rfl⟩:=List.mem_map.mp hc
  show (c'.2 ++ xs[c'.1 + j]?.toList).length ≤ m + 1
  rw [List.length_append]
  have : xs[c'.1 + j]?.toList.length ≤ 1:=by cases xs[c'.1 + j]? <;> simp
  omega
theorem Paired.get {α β : Type} {F : α → β → Prop} : ∀ {l₁ : List α} {l₂ : List β},Paired F l₁ l₂ → ∀ {i : Nat} {a : α},l₁[i]? = some a → ∃ b,l₂[i]? = some b ∧ F a b
 | _,_,.nil,i,a,h => by simp at h
 | _,_,.cons r t,0,a,h => by
  (simp only [List.getElem?_cons_zero,Option.some.injEq] at h)
  subst h
  exact ⟨_,rfl,r⟩
 | _,_,.cons r t,i + 1,a,h => by
  rw [List.getElem?_cons_succ] at h
  obtain ⟨b,hb,f⟩:=Paired.get t h
  exact ⟨b,by rw [List.getElem?_cons_succ]; exact hb,f⟩
def zkO (H : Hp) (t : Addr) (c : Nat × List V) : Prop:=∃ L,H t = some (.tup [.int (c.1 : Int),.ref L]) ∧ H L = some (.lst c.2)
theorem zkO.same {H H' : Hp} (s : zy H H') {t : Addr} {c : Nat × List V} (h : zkO H t c) : zkO H' t c:=let ⟨L,h1,h2⟩:=h; ⟨L,s _ _ h1,s _ _ h2⟩
def zd4 (H : Hp) : List Addr → List (Nat × List V) → Prop:=Paired (zkO H)
theorem zd4.same {H H' : Hp} (s : zy H H') {ts : List Addr} {cs : List (Nat × List V)} (h : zd4 H ts cs) : zd4 H' ts cs:=Paired.mono (fun _ _ z => z.same s) h
def zge (H : Hp) : List Addr → List (List V) → Prop:=Paired fun l pk => H l = some (.lst pk)
theorem zge.same {H H' : Hp} (s : zy H H') {ts : List Addr} {cs : List (List V)} (h : zge H ts cs) : zge H' ts cs:=Paired.mono (fun _ _ z => s _ _ z) h
def zgQ (K : PySem.W.Frag) : Sp:=fun vs H Q _ => ∃ (a : Addr) (m : Nat) (xs : List V),vs = [.ref a,.int (m : Int)] ∧ SqL K H a xs ∧ xs.length ≤ 16 ∧ m ≤ 1000 ∧
 ∀ (l : Addr) (ls : List Addr) (H' : Hp),H l = none → zy H H' → H' l = some (.lst (ls.map V.ref)) → zge H' ls ((chs xs m).map (·.2)) → Q (.ref l) H'
end My
end
section
set_option maxHeartbeats 3999000
namespace My
open PySem L2 PyProof.Rows
def quo (p r : Int) : List Int → List Int
 | [] => []
 | [_] => []
 | _ :: d :: cs => zi p r (d :: cs) :: quo p r (d :: cs)
theorem zhD (p r : Int) : ∀ (c : Int) (cs : List Int),(quo p r (c :: cs)).length = cs.length
 | _,[] => rfl
 | _,d :: cs => by
  show (quo p r (d :: cs)).length + 1 = cs.length + 1
  rw [zhD p r d cs]
theorem zjI {p r x : Int} : ∀ d : List Int,Cg p (zi p x d - zi p r d) ((x - r) * zi p x (quo p r d))
 | [] => Cg.of_eq (by show (0 : Int) - 0 = (x - r) * 0; omega)
 | [c] => by
  have h1 : Cg p (zi p x [c]) (c + x * 0):=zL p x c []
  have h2 : Cg p (zi p r [c]) (c + r * 0):=zL p r c []
  refine (h1.sub h2).trans (Cg.of_eq ?_)
  show c + x * 0 - (c + r * 0) = (x - r) * 0
  omega
 | c :: d :: cs => by
  have h1:=zL p x c (d :: cs)
  have h2:=zL p r c (d :: cs)
  have ih:=zjI (p:=p) (r:=r) (x:=x) (d :: cs)
  have h3 : Cg p (zi p x (quo p r (c :: d :: cs))) (zi p r (d :: cs) + x * zi p x (quo p r (d :: cs))):=zL p x _ _
  have h4:=(Cg.refl p (x - r)).mul h3
  have h5:=(Cg.refl p x).mul ih
  refine (h1.sub h2).trans (Cg.symm (h4.trans ?_))
  refine (Cg.of_eq (show _ = (x - r) * zi p r (d :: cs) + x * ((x - r) * zi p x (quo p r (d :: cs))) by grind)).trans ?_
  refine ((Cg.refl p ((x - r) * zi p r (d :: cs))).add h5.symm).trans (Cg.of_eq (by grind))
theorem zgf {p r : Int} : ∀ d : List Int,Cg p (zi p r d) 0 → (∀ c ∈ quo p r d,Cg p c 0) → ∀ c ∈ d,Cg p c 0
 | [],_,_,c,hc => by cases hc
 | [a],h,_,c,hc => by
  obtain rfl : c = a:=by simpa using hc
  have h1 : Cg p (zi p r [c]) (c + r * 0):=zL p r c []
  exact ((Cg.of_eq (by omega)).trans h1.symm).trans h
 | a :: d :: cs,h,hq,c,hc => by
  have h0 : Cg p (zi p r (d :: cs)) 0:=hq _ List.mem_cons_self
  rcases (List.mem_cons.mp hc) with rfl | hc
  ·have h1:=zL p r c (d :: cs)
   have h2:=(Cg.refl p r).mul h0
   have h3:=(h1.symm.trans h).sub h2
   exact (Cg.of_eq (by omega)).trans (h3.trans (Cg.of_eq (by omega)))
  ·exact zgf (d :: cs) h0 (fun c hc => hq c (List.mem_cons_of_mem _ hc)) c hc
theorem zc4 {p a y : Int} (hp : p ∈ zm) (ha0 : a % p ≠ 0) (h : Cg p (a * y) 0) : Cg p y 0:=by
 have rp:=zo hp
 have g0:=Int.emod_nonneg a (show p ≠ 0 by omega)
 have g1:=Int.emod_lt_of_pos a (show 0 < p by omega)
 have hi:=zfa hp (h:=a % p) (by omega) g1
 have h1 : Cg p (inv p (a % p) * (a % p) * y) (1 * y):=hi.mul (Cg.refl p y)
 have h2 : Cg p (inv p (a % p) * (a % p) * y) (inv p (a % p) * (a * y)):=by
  have:=((Cg.refl p (inv p (a % p))).mul (Cg.emod p a)).mul (Cg.refl p y)
  exact this.trans (Cg.of_eq (by grind))
 have h3:=(Cg.refl p (inv p (a % p))).mul h
 exact (Cg.of_eq (by omega)).trans (h1.symm.trans (h2.trans (h3.trans (Cg.of_eq (by omega)))))
theorem zbL {p : Int} (hp : p ∈ zm) : ∀ (n : Nat) (d xs : List Int),d.length = n → n ≤ xs.length → xs.Nodup → (∀ x ∈ xs,0 ≤ x ∧ x < p) → (∀ x ∈ xs,Cg p (zi p x d) 0) → ∀ c ∈ d,Cg p c 0
 | 0,d,xs,hd,_,_,_,_,c,hc => by
  rw [List.length_eq_zero_iff] at hd
  subst hd
  cases hc
 | n + 1,d,[],hd,hx,_,_,_,c,hc => by simp at hx
 | n + 1,[],r :: xs,hd,hx,_,_,_,c,hc => by cases hc
 | n + 1,a :: cs,r :: xs,hd,hx,hnd,hrg,hz,c,hc => by
  have rp:=zo hp
  obtain ⟨r0,r1⟩:=hrg r List.mem_cons_self
  have hr:=hz r List.mem_cons_self
  refine zgf (a :: cs) hr (zbL hp n (quo p r (a :: cs)) xs (by rw [zhD]; simpa using hd) (by simpa using hx) (List.nodup_cons.mp hnd).2 (fun x h => hrg x (List.mem_cons_of_mem _ h)) fun x h => ?_) c hc
  obtain ⟨x0,x1⟩:=hrg x (List.mem_cons_of_mem _ h)
  have hne : x ≠ r:=fun e => (List.nodup_cons.mp hnd).1 (e ▸ h)
  have he:=zjI (p:=p) (r:=r) (x:=x) (a :: cs)
  have h0:=(hz x (List.mem_cons_of_mem _ h)).sub hr
  refine zc4 hp (a:=x - r) (fun e => ?_) (he.symm.trans (h0.trans (Cg.of_eq (by omega))))
  have : Cg p x r:=by
   have h1 : Cg p (x - r) 0:=Cg.of_mod (by rw [e]; simp)
   have h2:=h1.add (Cg.refl p r)
   exact (Cg.of_eq (by omega)).trans (h2.trans (Cg.of_eq (by omega)))
  exact hne (this.eq x0 x1 r0 r1)
theorem zcQ {p x : Int} : ∀ {a b : List Int},a.length = b.length → Cg p (zi p x (List.zipWith (· - ·) a b)) (zi p x a - zi p x b)
 | [],[],_ => Cg.of_eq rfl
 | c :: a,d :: b,h => by
  have ih:=zcQ (p:=p) (x:=x) (a:=a) (b:=b) (by simpa using h)
  have h1:=zL p x c a
  have h2:=zL p x d b
  have h3 : Cg p (zi p x (List.zipWith (· - ·) (c :: a) (d :: b))) (c - d + x * zi p x (List.zipWith (· - ·) a b)):=zL p x (c - d) _
  refine h3.trans (((Cg.refl p (c - d)).add ((Cg.refl p x).mul ih)).trans (Cg.symm ((h1.sub h2).trans (Cg.of_eq (by grind)))))
 | [],_ :: _,h => by simp at h
 | _ :: _,[],h => by simp at h
theorem zgg {p : Int} : ∀ {a b : List Int},a.length = b.length → (∀ c ∈ a,0 ≤ c ∧ c < p) → (∀ c ∈ b,0 ≤ c ∧ c < p) → (∀ c ∈ List.zipWith (· - ·) a b,Cg p c 0) → a = b
 | [],[],_,_,_,_ => rfl
 | c :: a,d :: b,h,ha,hb,hz => by
  obtain ⟨c0,c1⟩:=ha c List.mem_cons_self
  obtain ⟨d0,d1⟩:=hb d List.mem_cons_self
  have h1 : Cg p (c - d) 0:=hz _ List.mem_cons_self
  have h2 : Cg p c d:=(Cg.of_eq (by omega)).trans ((h1.add (Cg.refl p d)).trans (Cg.of_eq (by omega)))
  rw [h2.eq c0 c1 d0 d1,zgg (by simpa using h) (fun c hc => ha c (List.mem_cons_of_mem _ hc)) (fun c hc => hb c (List.mem_cons_of_mem _ hc)) (fun c hc => hz c (List.mem_cons_of_mem _ hc))]
 | [],_ :: _,h,_,_,_ => by simp at h
 | _ :: _,[],h,_,_,_ => by simp at h
theorem zdl {p : Int} (hp : p ∈ zm) {a b xs : List Int} (hl : a.length = b.length) (hx : a.length ≤ xs.length) (hnd : xs.Nodup) (hrg : ∀ x ∈ xs,0 ≤ x ∧ x < p) (ha : ∀ c ∈ a,0 ≤ c ∧ c < p) (hb : ∀ c ∈ b,0 ≤ c ∧ c < p)
  (he : ∀ x ∈ xs,zi p x a = zi p x b) : a = b:=by
 refine zgg hl ha hb (zbL hp a.length _ xs (by rw [List.length_zipWith]; omega) hx hnd hrg fun x h => ?_)
 refine (zcQ hl).trans (Cg.of_eq ?_)
 rw [he x h]
 omega
theorem zfn {p : Int} (hp : p ∈ zm) {pk : List (Int × Int)} (hP : Pts p pk) {q : List Int} (hl : q.length = pk.length) (hq : ∀ c ∈ q,0 ≤ c ∧ c < p) (hh : ∀ a ∈ pk,zi p a.1 q = a.2) : q = thr p pk:=by
 obtain ⟨h1,h2,h3⟩:=zcZ hp hP
 refine zdl hp (xs:=pk.map (·.1)) (by omega) (by rw [List.length_map]; omega) hP.nd (fun x hx => ?_) hq h2 fun x hx => ?_
 ·obtain ⟨a,ha,rfl⟩:=List.mem_map.mp hx
  exact ⟨(hP.rg a ha).1,(hP.rg a ha).2.1⟩
 ·obtain ⟨a,ha,rfl⟩:=List.mem_map.mp hx
  rw [hh a ha,h3 a ha]
theorem Pts.sub {p : Int} {pk pts : List (Int × Int)} (h : Pts p pts) (hs : pk.Sublist pts) : Pts p pk:=⟨(hs.map _).nodup h.nd,fun q hq => h.rg q (hs.subset hq)⟩
theorem zhE {α : Type} {xs : List α} : ∀ {m : Nat} {c : Nat × List α},c ∈ chs xs m → c.2.Sublist (xs.take c.1) ∧ c.2.length = m ∧ c.1 ≤ xs.length
 | 0,c,h => by
  unfold chs at h
  rw [List.mem_singleton] at h
  subst h
  exact ⟨List.nil_sublist _,rfl,Nat.zero_le _⟩
 | m + 1,c,h => by
  unfold chs at h
  obtain ⟨c',hm,hc⟩:=List.mem_flatMap.mp h
  obtain ⟨h1,h2,h3⟩:=zhE hm
  unfold nxt at hc
  obtain ⟨j,hj,rfl⟩:=List.mem_map.mp hc
  (have hj':=List.mem_range.mp hj)
  have hlt : c'.1 + j < xs.length:=by omega
  have e : xs[c'.1 + j]? = some xs[c'.1 + j]:=List.getElem?_eq_getElem hlt
  dsimp only
  rw [e]
  refine ⟨?_,by rw [List.length_append,h2]; rfl,by omega⟩
  rw [take_snoc e]
  refine List.Sublist.append (h1.trans ?_) (List.Sublist.refl _)
  have : xs.take c'.1 = (xs.take (c'.1 + j)).take c'.1:=by rw [List.take_take]; congr 1; omega
  rw [this]
  exact List.take_sublist _ _
theorem sub_one {α : Type} {l : List α} {x : α} (h : l.Sublist [x]) : l = [] ∨ l = [x]:=by
 cases h with
 | cons _ h => exact .inl (List.sublist_nil.mp h)
 | cons_cons _ h => exact .inr (by rw [List.sublist_nil.mp h])
theorem zdA {α : Type} {xs : List α} : ∀ {m n : Nat} {pk : List α},pk.Sublist (xs.take n) → pk.length = m → ∃ s,s ≤ n ∧ (s,pk) ∈ chs xs m
 | 0,n,pk,h,hl => by
  rw [List.length_eq_zero_iff] at hl
  subst hl
  exact ⟨0,Nat.zero_le _,by unfold chs; exact List.mem_singleton.mpr rfl⟩
 | m + 1,0,pk,h,hl => by
  rw [List.take_zero] at h
  rw [List.sublist_nil.mp h] at hl
  simp at hl
 | m + 1,n + 1,pk,h,hl => by
  cases e : xs[n]? with
  | none =>
   have : xs.take (n + 1) = xs.take n:=by
    have:=List.getElem?_eq_none_iff.mp e
    rw [List.take_of_length_le (by omega),List.take_of_length_le this]
   rw [this] at h
   obtain ⟨s,h1,h2⟩:=zdA (m:=m + 1) (n:=n) h hl
   exact ⟨s,by omega,h2⟩
  | some x =>
   rw [take_snoc e] at h
   obtain ⟨l1,l2,rfl,h1,h2⟩:=List.sublist_append_iff.mp h
   rcases (sub_one h2) with rfl | rfl
   ·rw [List.append_nil] at hl ⊢
    obtain ⟨s,a1,a2⟩:=zdA (m:=m + 1) (n:=n) h1 hl
    exact ⟨s,by omega,a2⟩
   ·obtain ⟨s,a1,a2⟩:=zdA (m:=m) (n:=n) h1 (by simpa using hl)
    refine ⟨n + 1,Nat.le_refl _,?_⟩
    unfold chs
    refine List.mem_flatMap.mpr ⟨(s,l1),a2,?_⟩
    have hlt:=(List.getElem?_eq_some_iff.mp e).1
    unfold nxt
    refine List.mem_map.mpr ⟨n - s,List.mem_range.mpr (by show n - s < xs.length - s; omega),?_⟩
    have es : s + (n - s) = n:=by omega
    dsimp only
    rw [es,e]
    rfl
theorem zfo {α : Type} {xs pk : List α} {m : Nat} : pk ∈ (chs xs m).map (·.2) ↔ pk.Sublist xs ∧ pk.length = m:=by
 constructor
 ·intro h
  obtain ⟨c,hc,rfl⟩:=List.mem_map.mp h
  obtain ⟨h1,h2,h3⟩:=zhE hc
  exact ⟨h1.trans (List.take_sublist _ _),h2⟩
 ·rintro ⟨h1,h2⟩
  obtain ⟨s,_,hs⟩:=zdA (xs:=xs) (n:=xs.length) (by rw [List.take_length]; exact h1) h2
  exact List.mem_map.mpr ⟨_,hs,rfl⟩
def hit (p : Int) (q : List Int) (a : Int × Int) : Bool:=decide (zi p a.1 q = a.2)
def hits (p : Int) (q : List Int) (pts : List (Int × Int)) : Nat:=(pts.filter (hit p q)).length
def IsP (p : Int) (k : Nat) (q : List Int) : Prop:=q.length = k ∧ ∀ c ∈ q,0 ≤ c ∧ c < p
theorem zgR {p : Int} (hp : p ∈ zm) {pts : List (Int × Int)} (hP : Pts p pts) {q : List Int} {k t n : Nat} (hq : IsP p k q) (hk : k ≤ t) (hn : pts.length ≤ n + (t - k)) (ht : t ≤ hits p q pts) :
  ∃ pk,pk ∈ (chs (pts.take n) k).map (·.2) ∧ q = thr p pk:=by
 have hsplit : hits p q pts = ((pts.take n).filter (hit p q)).length + ((pts.drop n).filter (hit p q)).length:=by
  unfold hits
  conv => lhs; rw [← List.take_append_drop n pts]
  rw [List.filter_append,List.length_append]
 have hd:=List.length_filter_le (hit p q) (pts.drop n)
 rw [List.length_drop] at hd
 have hk' : k ≤ ((pts.take n).filter (hit p q)).length:=by omega
 have hs : (((pts.take n).filter (hit p q)).take k).Sublist (pts.take n):=(List.take_sublist _ _).trans (List.filter_sublist)
 have hl : (((pts.take n).filter (hit p q)).take k).length = k:=by rw [List.length_take]; omega
 refine ⟨_,zfo.mpr ⟨hs,hl⟩,zfn hp (hP.sub (hs.trans (List.take_sublist _ _))) (by rw [hl]; exact hq.1) hq.2 fun a ha => ?_⟩
 have:=(List.mem_filter.mp ((List.take_sublist _ _).subset ha)).2
 simpa [hit] using this
theorem zhF {p : Int} (hp : p ∈ zm) {pts pk : List (Int × Int)} (hP : Pts p pts) {k : Nat} (h : pk ∈ (chs pts k).map (·.2)) : IsP p k (thr p pk):=by
 obtain ⟨h1,h2⟩:=zfo.mp h
 obtain ⟨a,b,_⟩:=zcZ hp (hP.sub h1)
 exact ⟨a.trans h2,b⟩
def hps : List Int → List (Option Int) → List (Int × Int)
 | x :: pl,some y :: rw => (x,y) :: hps pl rw
 | _ :: pl,none :: rw => hps pl rw
 | _,_ => []
theorem zd5 : ∀ {pl : List Int} {rw : List (Option Int)} {i : Nat} {x : Int} {o : Option Int},pl[i]? = some x → rw[i]? = some o → hps (pl.take (i + 1)) (rw.take (i + 1)) = hps (pl.take i) (rw.take i) ++ (match o with | some y => [(x,y)] | none => [])
 | [],_,i,x,o,h,_ => by simp at h
 | _ :: _,[],i,x,o,_,h => by simp at h
 | a :: pl,b :: rw,0,x,o,h1,h2 => by
  simp only [List.getElem?_cons_zero,Option.some.injEq] at h1 h2
  subst h1 h2
  cases b <;> rfl
 | a :: pl,b :: rw,i + 1,x,o,h1,h2 => by
  rw [List.getElem?_cons_succ] at h1 h2
  have ih:=zd5 h1 h2
  cases b with
  | none => exact ih
  | some y =>
   show (a,y) :: hps (pl.take (i + 1)) (rw.take (i + 1)) = (a,y) :: hps (pl.take i) (rw.take i) ++ _
   rw [ih]
   rfl
theorem zbM : ∀ (pl : List Int) (rw : List (Option Int)),(hps pl rw).length ≤ pl.length
 | [],rw => by unfold hps; simp
 | a :: pl,[] => by unfold hps; simp
 | a :: pl,none :: rw => by
  have:=zbM pl rw
  show (hps pl rw).length ≤ pl.length + 1
  omega
 | a :: pl,some y :: rw => by
  have:=zbM pl rw
  show (hps pl rw).length + 1 ≤ pl.length + 1
  omega
theorem zce : ∀ {pl : List Int} {rw : List (Option Int)} {a : Int × Int},a ∈ hps pl rw → a.1 ∈ pl ∧ some a.2 ∈ rw
 | [],_,a,h => by unfold hps at h; cases h
 | _ :: _,[],a,h => by unfold hps at h; cases h
 | x :: pl,none :: rw,a,h => by
  obtain ⟨h1,h2⟩:=zce (pl:=pl) (rw:=rw) h
  exact ⟨List.mem_cons_of_mem _ h1,List.mem_cons_of_mem _ h2⟩
 | x :: pl,some y :: rw,a,h => by
  rcases (List.mem_cons.mp h) with rfl | h
  ·exact ⟨List.mem_cons_self,List.mem_cons_self⟩
  ·obtain ⟨h1,h2⟩:=zce (pl:=pl) (rw:=rw) h
   exact ⟨List.mem_cons_of_mem _ h1,List.mem_cons_of_mem _ h2⟩
theorem zfp : ∀ (pl : List Int) (rw : List (Option Int)),((hps pl rw).map (·.1)).Sublist pl
 | [],_ => by unfold hps; exact List.nil_sublist _
 | _ :: _,[] => by unfold hps; exact List.nil_sublist _
 | x :: pl,none :: rw => (zfp pl rw).cons _
 | x :: pl,some y :: rw => (zfp pl rw).cons_cons _
theorem zdB {p : Int} {pl : List Int} {rw : List (Option Int)} (h1 : pl.Nodup) (h2 : ∀ x ∈ pl,0 ≤ x ∧ x < p) (h3 : ∀ z,some z ∈ rw → 0 ≤ z ∧ z < p) : Pts p (hps pl rw) :=
 ⟨(zfp pl rw).nodup h1,fun q hq => ⟨(h2 _ (zce hq).1).1,(h2 _ (zce hq).1).2,(h3 _ (zce hq).2).1,(h3 _ (zce hq).2).2⟩⟩
theorem zgh {p : Int} {pl : List Int} {rw : List (Option Int)} {q : List Int} (hl : rw.length = pl.length) : ∀ n,n ≤ pl.length → (zcm p pl rw q n).length = hits p q (hps (pl.take n) (rw.take n))
 | 0,_ => by simp [zcm,hits,hps]
 | n + 1,hn => by
  have ih:=zgh (p:=p) (q:=q) hl n (by omega)
  have e1 : pl[n]? = some pl[n]:=List.getElem?_eq_getElem (by omega)
  have e2 : rw[n]? = some rw[n]:=List.getElem?_eq_getElem (by omega)
  rw [zeP,List.length_append,ih,zd5 e1 e2]
  unfold hits
  rw [List.filter_append,List.length_append]
  congr 1
  unfold zbT
  rw [e1,e2]
  cases rw[n] with
  | none => rfl
  | some y =>
   show (if decide (y = zi p pl[n] q) = true then [(n : Int)] else []).length = ([(pl[n],y)].filter (hit p q)).length
   by_cases e : y = zi p pl[n] q
   ·rw [List.filter_cons_of_pos (by simp [hit,e])]
    simp [e]
   ·rw [List.filter_cons_of_neg (by simp [hit]; exact fun z => e z.symm)]
    simp [e]
theorem zdC {p : Int} {pl : List Int} {rw : List (Option Int)} {q : List Int} (hl : rw.length = pl.length) : (zcm p pl rw q pl.length).length = hits p q (hps pl rw):=by
 have:=zgh (p:=p) (q:=q) hl pl.length (Nat.le_refl _)
 rw [List.take_length,List.take_of_length_le (by omega)] at this
 exact this
def zd6 (p : Int) (k : Nat) (qs : List (List Int)) : Prop:=(∀ q ∈ qs,IsP p k q) ∧ qs.Pairwise fun a b => Srt.num p a < Srt.num p b
theorem zhG {B : Int} (hB : 1 ≤ B) : ∀ {a b : List Int},a.length = b.length → (∀ n ∈ a,0 ≤ n ∧ n < B) → (∀ n ∈ b,0 ≤ n ∧ n < B) → Srt.num B a = Srt.num B b → a = b
 | [],[],_,_,_,_ => rfl
 | c :: a,d :: b,h,ha,hb,e => by
  have h' : a.length = b.length:=by simpa using h
  have ra:=Srt.num_rng hB (ns:=a) fun n hn => ha n (List.mem_cons_of_mem _ hn)
  have rb:=Srt.num_rng hB (ns:=b) fun n hn => hb n (List.mem_cons_of_mem _ hn)
  have e' : c * B ^ a.length + Srt.num B a = d * B ^ b.length + Srt.num B b:=e
  rw [← h'] at e' rb
  generalize B ^ a.length = M at e' ra rb
  have hM : 0 < M:=by omega
  have hcd : c = d:=by
   have e2 : (c - d) * M = Srt.num B b - Srt.num B a:=by
    rw [Int.sub_mul]
    omega
   rcases (Int.lt_trichotomy c d) with hlt | heq | hgt
   ·have : (c - d) * M ≤ (-1) * M:=Int.mul_le_mul_of_nonneg_right (by omega) (by omega)
    omega
   ·exact heq
   ·have : 1 * M ≤ (c - d) * M:=Int.mul_le_mul_of_nonneg_right (by omega) (by omega)
    omega
  subst hcd
  rw [zhG hB h' (fun n hn => ha n (List.mem_cons_of_mem _ hn)) (fun n hn => hb n (List.mem_cons_of_mem _ hn)) (by omega)]
 | [],_ :: _,h,_,_,_ => by simp at h
 | _ :: _,[],h,_,_,_ => by simp at h
theorem zkP {p : Int} (hp : 1 ≤ p) {k : Nat} {qs : List (List Int)} (h1 : ∀ q ∈ qs,IsP p k q) (h2 : qs.Nodup) (h3 : qs.Pairwise fun a b => Srt.num p a ≤ Srt.num p b) : zd6 p k qs:=by
 refine ⟨h1,?_⟩
 have h4:=h3.and h2
 refine List.Pairwise.imp_of_mem (fun {a b} ha hb h => ?_) h4
 have hne : Srt.num p a ≠ Srt.num p b:=fun e => h.2 (zhG hp ((h1 a ha).1.trans (h1 b hb).1.symm) (h1 a ha).2 (h1 b hb).2 e)
 have:=h.1
 omega
theorem zd6.tail {p : Int} {k : Nat} {q : List Int} {qs : List (List Int)} (h : zd6 p k (q :: qs)) : zd6 p k qs:=⟨fun x hx => h.1 x (List.mem_cons_of_mem _ hx),(List.pairwise_cons.mp h.2).2⟩
theorem zhH {p : Int} {k : Nat} : ∀ {as bs : List (List Int)},zd6 p k as → zd6 p k bs → (∀ q,q ∈ as ↔ q ∈ bs) → as = bs
 | [],[],_,_,_ => rfl
 | [],b :: bs,_,_,h => by
  have:=(h b).mpr List.mem_cons_self
  cases this
 | a :: as,[],_,_,h => by
  have:=(h a).mp List.mem_cons_self
  cases this
 | a :: as,b :: bs,ha,hb,h => by
  have pa:=(List.pairwise_cons.mp ha.2).1
  have pb:=(List.pairwise_cons.mp hb.2).1
  have e : a = b:=by
   rcases (List.mem_cons.mp ((h a).mp List.mem_cons_self)) with e | ma
   ·exact e
   ·rcases (List.mem_cons.mp ((h b).mpr List.mem_cons_self)) with e | mb
    ·exact e.symm
    ·have:=pb a ma
     have:=pa b mb
     omega
  subst e
  rw [zhH ha.tail hb.tail fun q => ?_]
  have hq:=h q
  rw [List.mem_cons,List.mem_cons] at hq
  constructor
  ·intro m
   rcases (hq.mp (.inr m)) with rfl | z
   ·exact absurd (pa q m) (by omega)
   ·exact z
  ·intro m
   rcases (hq.mpr (.inr m)) with rfl | z
   ·exact absurd (pb q m) (by omega)
   ·exact z
theorem zd6.filter {p : Int} {k : Nat} {qs : List (List Int)} (f : List Int → Bool) (h : zd6 p k qs) : zd6 p k (qs.filter f):=⟨fun q hq => h.1 q (List.mem_filter.mp hq).1,h.2.filter f⟩
end My
end
section
set_option maxHeartbeats 3999000
namespace My
open PySem L2 PyProof.Rows
def sm : Nat → (Nat → Int) → Int
 | 0,_ => 0
 | n + 1,f => sm n f + f n
theorem zaj {f g : Nat → Int} : ∀ {n : Nat},(∀ i,i < n → f i = g i) → sm n f = sm n g
 | 0,_ => rfl
 | n + 1,h => by
  show sm n f + f n = sm n g + g n
  rw [zaj (n:=n) fun i hi => h i (by omega),h n (by omega)]
theorem zeT {p : Int} {f g : Nat → Int} : ∀ {n : Nat},(∀ i,i < n → Cg p (f i) (g i)) → Cg p (sm n f) (sm n g)
 | 0,_ => Cg.refl _ _
 | n + 1,h => (zeT (n:=n) fun i hi => h i (by omega)).add (h n (by omega))
theorem zfq {f g : Nat → Int} : ∀ n : Nat,sm n (fun i => f i + g i) = sm n f + sm n g
 | 0 => rfl
 | n + 1 => by
  show sm n (fun i => f i + g i) + (f n + g n) = sm n f + f n + (sm n g + g n)
  rw [zfq n]
  omega
theorem zbN {c : Int} {f : Nat → Int} : ∀ n : Nat,sm n (fun i => c * f i) = c * sm n f
 | 0 => by show (0 : Int) = c * 0; omega
 | n + 1 => by
  show sm n (fun i => c * f i) + c * f n = c * (sm n f + f n)
  rw [zbN n,Int.mul_add]
theorem zbe {f : Nat → Int} : ∀ {n : Nat},(∀ i,i < n → f i = 0) → sm n f = 0
 | 0,_ => rfl
 | n + 1,h => by
  show sm n f + f n = 0
  rw [zbe (n:=n) fun i hi => h i (by omega),h n (by omega)]
  rfl
theorem zfr {f : Nat → Int} {j : Nat} : ∀ {n : Nat},j < n → (∀ i,i < n → i ≠ j → f i = 0) → sm n f = f j
 | 0,hj,_ => by omega
 | n + 1,hj,h => by
  show sm n f + f n = f j
  by_cases e : j = n
  ·subst e
   rw [zbe fun i hi => h i (by omega) (by omega)]
   omega
  ·rw [zfr (n:=n) (by omega) fun i hi hne => h i (by omega) hne,h n (by omega) (by omega)]
   omega
theorem zhI {f : Nat → Int} : ∀ n : Nat,sm (n + 1) f = f 0 + sm n (fun i => f (i + 1))
 | 0 => by show (0 : Int) + f 0 = f 0 + 0; omega
 | n + 1 => by
  show sm (n + 1) f + f (n + 1) = f 0 + (sm n (fun i => f (i + 1)) + f (n + 1))
  rw [zhI n]
  omega
theorem zfs {f : Nat → Nat → Int} (m : Nat) : ∀ n : Nat,sm n (fun i => sm m (fun j => f i j)) = sm m (fun j => sm n fun i => f i j)
 | 0 => (zbe fun _ _ => rfl).symm
 | n + 1 => by
  show sm n (fun i => sm m (fun j => f i j)) + sm m (fun j => f n j) = sm m (fun j => sm n (fun i => f i j) + f n j)
  rw [zfs m n,← zfq]
theorem zhJ {f : Nat → Int} {m : Nat} : ∀ {n : Nat},m ≤ n → (∀ i,m ≤ i → i < n → f i = 0) → sm n f = sm m f
 | 0,h,_ => by rw [show m = 0 by omega]
 | n + 1,h,hz => by
  by_cases e : m = n + 1
  ·rw [e]
  ·show sm n f + f n = _
   rw [zhJ (n:=n) (by omega) fun i h1 h2 => hz i h1 (by omega),hz n (by omega) (by omega)]
   omega
def gl (w : List Int) (y : Nat) : Int:=w.getD y 0
theorem zbw {w : List Int} {y : Nat} {c : Int} (h : w[y]? = some c) : gl w y = c:=by
 unfold gl
 rw [List.getD_eq_getElem?_getD,h]
 rfl
theorem zaK {w : List Int} {y : Nat} (h : w.length ≤ y) : gl w y = 0:=by
 unfold gl
 rw [List.getD_eq_getElem?_getD,List.getElem?_eq_none h]
 rfl
theorem zaV {w : List Int} {y : Nat} (h : y < w.length) : w[y]? = some (gl w y):=by
 rw [List.getElem?_eq_getElem h,zbw (List.getElem?_eq_getElem h)]
theorem zcw {w : List Int} {p : Int} (hp : 0 < p) (h : ∀ c ∈ w,0 ≤ c ∧ c < p) (y : Nat) : 0 ≤ gl w y ∧ gl w y < p:=by
 by_cases hy : y < w.length
 ·exact h _ (List.mem_of_getElem? (zaV hy))
 ·rw [zaK (by omega)]
  omega
theorem zmc {f : Int → Int} {w : List Int} {y : Nat} (h : y < w.length) : gl (w.map f) y = f (gl w y):=zbw (by rw [List.getElem?_map,zaV h]; rfl)
theorem zmd {f : Int → Int → Int} {v w : List Int} {y : Nat} (h : y < v.length) (h' : y < w.length) : gl (List.zipWith f v w) y = f (gl v y) (gl w y):=zbw (by rw [List.getElem?_zipWith,zaV h,zaV h'])
theorem zcR {p x : Int} : ∀ q : List Int,Cg p (zi p x q) (sm q.length fun i => gl q i * x ^ i)
 | [] => Cg.refl _ _
 | c :: q => by
  refine (zL p x c q).trans ?_
  rw [List.length_cons,zhI]
  have e : sm q.length (fun i => gl (c :: q) (i + 1) * x ^ (i + 1)) = x * sm q.length (fun i => gl q i * x ^ i):=by
   rw [← zbN]
   refine zaj fun i _ => ?_
   show gl q i * x ^ (i + 1) = _
   rw [Int.pow_succ]
   grind
  rw [e]
  refine Cg.add (Cg.of_eq ?_) ((Cg.refl p x).mul (zcR q))
  show c = c * x ^ 0
  rw [Int.pow_zero,Int.mul_one]
theorem zaE {p x : Int} {q : List Int} {n : Nat} (h : q.length ≤ n) : Cg p (zi p x q) (sm n fun i => gl q i * x ^ i):=by
 rw [zhJ h fun i h1 _ => by rw [zaK h1,Int.zero_mul]]
 exact zcR q
def vx (vs : List (List Int)) (i x : Nat) : Int:=gl (vs.getD i []) x
def Rel (p : Int) (L N : Nat) (vs : List (List Int)) (u : Nat → Int) : Prop:=∀ x,x < L → Cg p (u x) (sm N fun i => u (L + i) * vx vs i x)
theorem Rel.sub {p : Int} {L N : Nat} {vs : List (List Int)} {u w r : Nat → Int} (hu : Rel p L N vs u) (hw : Rel p L N vs w) (t : Int) (hr : ∀ y,y < L + N → Cg p (r y) (u y - t * w y)) : Rel p L N vs r:=fun x hx => by
 refine (hr x (by omega)).trans (((hu x hx).sub ((Cg.refl p t).mul (hw x hx))).trans ?_)
 have e : sm N (fun i => u (L + i) * vx vs i x) - t * sm N (fun i => w (L + i) * vx vs i x) = sm N (fun i => (u (L + i) - t * w (L + i)) * vx vs i x):=by
  rw [show ∀ a b : Int,a - t * b = a + (-t) * b by intros; grind,← zbN,← zfq]
  exact zaj fun i _ => by grind
 rw [e]
 exact zeT fun i hi => (hr (L + i) (by omega)).symm.mul (Cg.refl _ _)
structure Ech (p : Int) (L N m : Nat) (vs : List (List Int)) (cl : List (Nat × List Int)) : Prop where
 ln : cl.length = m
 one : ∀ (j : Nat) (a : Nat × List Int),cl[j]? = some a → a.1 < L ∧ a.2.length = L + N ∧ (∀ c ∈ a.2,0 ≤ c ∧ c < p) ∧ Rel p L N vs (gl a.2) ∧ gl a.2 a.1 = 1 ∧ ∀ i,j < i → i < N → gl a.2 (L + i) = 0
 up : ∀ (j j' : Nat) (a a' : Nat × List Int),cl[j]? = some a → cl[j']? = some a' → j < j' → gl a'.2 a.1 = 0
 ii : ∀ u : Nat → Int,Rel p L N vs u → (∀ i,m ≤ i → i < N → Cg p (u (L + i)) 0) → (∀ a ∈ cl,Cg p (u a.1) 0) → ∀ i,i < N → Cg p (u (L + i)) 0
theorem Ech.start (p : Int) (L N : Nat) (vs : List (List Int)) : Ech p L N 0 vs [] where
 ln:=rfl
 one:=fun _ _ h => by simp at h
 up:=fun _ _ _ _ h => by simp at h
 ii:=fun u _ h _ i hi => h i (Nat.zero_le _) hi
structure Wh (p : Int) (L N m : Nat) (vs : List (List Int)) (cl : List (Nat × List Int)) (w : List Int) : Prop where
 ln : w.length = L + N
 rg : ∀ c ∈ w,0 ≤ c ∧ c < p
 rel : Rel p L N vs (gl w)
 top : gl w (L + m) = 1
 up : ∀ j,m < j → j < N → gl w (L + j) = 0
 z : ∀ a ∈ cl,gl w a.1 = 0
theorem zjJ {p : Int} (hp : p ∈ zm) {L N m : Nat} {vs : List (List Int)} {v : List Int} (hm : m < N) (hv : vs[m]? = some v) (hl : v.length = L) (hr : ∀ c ∈ v,0 ≤ c ∧ c < p) : Wh p L N m vs [] ((v ++ List.replicate N 0).set (L + m) 1):=by
 have rp:=zo hp
 have hlow : ∀ y,y < L → gl ((v ++ List.replicate N 0).set (L + m) 1) y = gl v y:=fun y hy => zbw (by
  rw [List.getElem?_set_ne (by omega),List.getElem?_append_left (by omega),zaV (by omega)])
 have htop : gl ((v ++ List.replicate N 0).set (L + m) 1) (L + m) = 1:=zbw (by
  rw [List.getElem?_set_self (by rw [List.length_append,List.length_replicate]; omega)])
 have hz : ∀ j,j < N → j ≠ m → gl ((v ++ List.replicate N 0).set (L + m) 1) (L + j) = 0:=fun j hj hne => zbw (by
  rw [List.getElem?_set_ne (by omega),List.getElem?_append_right (by omega),List.getElem?_replicate]
  rw [if_pos (by omega)])
 refine ⟨by rw [List.length_set,List.length_append,List.length_replicate,hl],fun c hc => ?_,fun x hx => ?_,htop,fun j h1 h2 => hz j h2 (by omega),fun a ha => by cases ha⟩
 ·rcases List.mem_or_eq_of_mem_set hc with h | rfl
  ·rcases (List.mem_append.mp h) with h | h
   ·exact hr c h
   ·rw [List.eq_of_mem_replicate h]; omega
  ·omega
 ·rw [hlow x hx,zfr (j:=m) hm fun i hi hne => by rw [hz i hi hne,Int.zero_mul],htop,Int.one_mul]
  unfold vx
  rw [List.getD_eq_getElem?_getD,hv]
  exact Cg.refl _ _
theorem zkQ {p : Int} (hp : p ∈ zm) {L N m i : Nat} {vs : List (List Int)} {cl : List (Nat × List Int)} {w : List Int} {a : Nat × List Int} (E : Ech p L N m vs cl) (hm : m < N) (ha : cl[i]? = some a) (W : Wh p L N m vs (cl.take i) w) :
  Wh p L N m vs (cl.take (i + 1)) (List.zipWith (fun x y => (x - gl w a.1 * y) % p) w a.2):=by
 have rp:=zo hp
 obtain ⟨a1,a2,a3,a4,a5,a6⟩:=E.one i a ha
 have him : i < m:=by rw [← E.ln]; exact (List.getElem?_eq_some_iff.mp ha).1
 have hg : ∀ y,y < L + N → gl (List.zipWith (fun x y => (x - gl w a.1 * y) % p) w a.2) y = (gl w y - gl w a.1 * gl a.2 y) % p:=fun y hy => zmd (by rw [W.ln]; exact hy) (by omega)
 refine ⟨by rw [List.length_zipWith,W.ln,a2,Nat.min_self],fun c hc => ?_,W.rel.sub a4 (gl w a.1) fun y hy => by rw [hg y hy]; exact Cg.emod _ _,?_,fun j h1 h2 => ?_,fun b hb => ?_⟩
 ·obtain ⟨x,y,rfl⟩:=zdQ hc
  exact ⟨Int.emod_nonneg _ (by omega),Int.emod_lt_of_pos _ (by omega)⟩
 ·rw [hg _ (by omega),W.top,a6 m him hm,Int.mul_zero,Int.sub_zero]
  exact Int.emod_eq_of_lt (by omega) (by omega)
 ·rw [hg _ (by omega),W.up j h1 h2,a6 j (by omega) h2,Int.mul_zero]
  rfl
 ·rw [take_snoc ha] at hb
  rcases (List.mem_append.mp hb) with hb | hb
  ·obtain ⟨j,hj⟩:=List.getElem?_of_mem hb
   have hji : j < i:=by
    have:=(List.getElem?_eq_some_iff.mp hj).1
    rw [List.length_take] at this
    omega
   have hj' : cl[j]? = some b:=by rw [List.getElem?_take_of_lt hji] at hj; exact hj
   have hb1:=(E.one j b hj').1
   rw [hg _ (by omega),W.z b hb,E.up j i b a hj' ha hji,Int.mul_zero]
   rfl
  ·obtain rfl : b = a:=by simpa using hb
   rw [hg _ (by omega),a5,Int.mul_one,Int.sub_self]
   rfl
theorem zjK {p : Int} (hp : p ∈ zm) {L N m : Nat} {vs : List (List Int)} {cl : List (Nat × List Int)} {w : List Int} {ld : Nat} (E : Ech p L N m vs cl) (hm : m < N) (W : Wh p L N m vs cl w) (hld : ld < L) (h0 : gl w ld ≠ 0) :
  Ech p L N (m + 1) vs (cl ++ [(ld,w.map fun x => x * inv p (gl w ld) % p)]):=by
 have rp:=zo hp
 obtain ⟨g0,g1⟩:=zcw (show 0 < p by omega) W.rg ld
 have hi:=zfa hp (h:=gl w ld) (by omega) g1
 have hg : ∀ y,y < L + N → gl (w.map fun x => x * inv p (gl w ld) % p) y = gl w y * inv p (gl w ld) % p:=fun y hy => zmc (f:=fun x => x * inv p (gl w ld) % p) (by rw [W.ln]; exact hy)
 have hat : ∀ j a,(cl ++ [(ld,w.map fun x => x * inv p (gl w ld) % p)])[j]? = some a → (j < m ∧ cl[j]? = some a) ∨ (j = m ∧ a = (ld,w.map fun x => x * inv p (gl w ld) % p)):=fun j a h => by
  by_cases hj : j < m
  ·rw [List.getElem?_append_left (by rw [E.ln]; exact hj)] at h
   exact .inl ⟨hj,h⟩
  ·rw [List.getElem?_append_right (by rw [E.ln]; omega),E.ln] at h
   have hj0 : j - m = 0:=by
    have:=(List.getElem?_eq_some_iff.mp h).1
    simp at this
    omega
   rw [hj0] at h
   exact .inr ⟨by omega,(by simpa using h.symm)⟩
 refine ⟨by rw [List.length_append,E.ln]; rfl,fun j a h => ?_,fun j j' a a' h h' hlt => ?_,fun u hu hup hz i hi' => ?_⟩
 ·rcases hat j a h with ⟨_,h⟩ | ⟨rfl,rfl⟩
  ·exact E.one j a h
  ·refine ⟨hld,by rw [List.length_map,W.ln],fun c hc => ?_,?_,?_,fun i h1 h2 => ?_⟩
   ·obtain ⟨x,_,rfl⟩:=List.mem_map.mp hc
    exact ⟨Int.emod_nonneg _ (by omega),Int.emod_lt_of_pos _ (by omega)⟩
   ·refine Rel.sub (u:=fun _ => 0) (fun x _ => Cg.of_eq (zbe fun i _ => Int.zero_mul _).symm) W.rel (-inv p (gl w ld)) fun y hy => ?_
    rw [hg y hy]
    exact (Cg.emod _ _).trans (Cg.of_eq (by grind))
   ·rw [hg ld (by omega)]
    have h2 : Cg p (gl w ld * inv p (gl w ld)) 1:=(Cg.of_eq (Int.mul_comm _ _)).trans hi
    rw [h2.mod_eq]
    exact Int.emod_eq_of_lt (by omega) (by omega)
   ·rw [hg _ (by omega),W.up i h1 h2,Int.zero_mul]
    rfl
 ·rcases hat j' a' h' with ⟨hj',h'⟩ | ⟨rfl,rfl⟩
  ·rcases hat j a h with ⟨_,h⟩ | ⟨rfl,_⟩
   ·exact E.up j j' a a' h h' hlt
   ·omega
  ·rcases hat j a h with ⟨_,h⟩ | ⟨rfl,_⟩
   ·have:=(E.one j a h).1
    rw [hg _ (by omega),W.z a (List.mem_of_getElem? h),Int.zero_mul]
    rfl
   ·omega
 ·have hru : Rel p L N vs (fun y => u y - u (L + m) * gl w y):=hu.sub W.rel (u (L + m)) fun y _ => Cg.refl _ _
  have hall:=E.ii (fun y => u y - u (L + m) * gl w y) hru (fun i h1 h2 => by
   by_cases e : i = m
   ·subst e
    show Cg p (u (L + i) - u (L + i) * gl w (L + i)) 0
    rw [W.top]
    exact Cg.of_eq (by omega)
   ·show Cg p (u (L + i) - u (L + m) * gl w (L + i)) 0
    rw [W.up i (by omega) h2,Int.mul_zero,Int.sub_zero]
    exact hup i (by omega) h2) (fun a ha => by
   show Cg p (u a.1 - u (L + m) * gl w a.1) 0
   rw [W.z a ha,Int.mul_zero,Int.sub_zero]
   exact hz a (List.mem_append_left _ ha))
  have hlead : Cg p (u ld - u (L + m) * gl w ld) 0:=(hru ld hld).trans ((zeT (g:=fun _ => 0) fun i hi => ((hall i hi).mul (Cg.refl _ _)).trans (Cg.of_eq (Int.zero_mul _))).trans (Cg.of_eq (zbe fun _ _ => rfl)))
  have hul:=hz (ld,_) (List.mem_append_right _ (List.mem_singleton.mpr rfl))
  have hc : Cg p (gl w ld * u (L + m)) 0:=by
   have:=hul.sub hlead
   exact (Cg.of_eq (by show gl w ld * u (L + m) = u ld - (u ld - u (L + m) * gl w ld); grind)).trans (this.trans (Cg.of_eq (by omega)))
  have hc0 : Cg p (u (L + m)) 0:=zc4 hp (by rw [Int.emod_eq_of_lt g0 g1]; exact h0) hc
  have:=hall i hi'
  have h3:=this.add (hc0.mul (Cg.refl p (gl w (L + i))))
  exact (Cg.of_eq (by show u (L + i) = u (L + i) - u (L + m) * gl w (L + i) + u (L + m) * gl w (L + i); omega)).trans (h3.trans (Cg.of_eq (by omega)))
def Indep (p : Int) (L : Nat) (vs : List (List Int)) : Prop:=∀ u : Nat → Int,(∀ x,x < L → Cg p (sm vs.length fun i => u i * vx vs i x) 0) → ∀ i,i < vs.length → Cg p (u i) 0
def Dep (p : Int) (L : Nat) (vs : List (List Int)) (c : List Int) : Prop:=∀ x,x < L → Cg p (sm vs.length fun i => gl c i * vx vs i x) 0
theorem zjL {p : Int} {L : Nat} {vs : List (List Int)} {cl : List (Nat × List Int)} (E : Ech p L vs.length vs.length vs cl) : Indep p L vs:=fun u hu i hi => by
 have h:=E.ii (fun y => if y < L then sm vs.length (fun i => u i * vx vs i y) else u (y - L)) (fun x hx => ?_) (fun i h1 h2 => by omega) (fun a ha => ?_) i hi
 ·rw [if_neg (by omega),Nat.add_sub_cancel_left] at h
  exact h
 ·dsimp only
  rw [if_pos hx]
  refine Cg.of_eq (zaj fun i _ => ?_)
  rw [if_neg (by omega),Nat.add_sub_cancel_left]
 ·obtain ⟨j,hj⟩:=List.getElem?_of_mem ha
  have:=(E.one j a hj).1
  rw [if_pos this]
  exact hu _ this
theorem zme {p : Int} {L m : Nat} {vs : List (List Int)} {cl : List (Nat × List Int)} {w : List Int} (W : Wh p L vs.length m vs cl w) (hm : m < vs.length) (hz : ∀ x,x < L → gl w x = 0) :
  IsP p (m + 1) ((w.drop L).take (m + 1)) ∧ gl ((w.drop L).take (m + 1)) m = 1 ∧ Dep p L vs ((w.drop L).take (m + 1)):=by
 have hg : ∀ i,i ≤ m → gl ((w.drop L).take (m + 1)) i = gl w (L + i):=fun i hi => zbw (by
  rw [List.getElem?_take_of_lt (by omega),List.getElem?_drop]
  exact zaV (by rw [W.ln]; omega))
 have hl : ((w.drop L).take (m + 1)).length = m + 1:=by
  rw [List.length_take,List.length_drop,W.ln]
  omega
 refine ⟨⟨hl,fun c hc => W.rg c (List.mem_of_mem_drop (List.mem_of_mem_take hc))⟩,by rw [hg m (Nat.le_refl _)]; exact W.top,fun x hx => ?_⟩
 have h:=W.rel x hx
 rw [hz x hx] at h
 refine Cg.trans (Cg.of_eq (zaj fun i hi => ?_)) h.symm
 by_cases e : i ≤ m
 ·rw [hg i e]
 ·rw [W.up i (by omega) hi,zaK (by omega)]
end My
end
section
set_option maxHeartbeats 3999000
namespace My
open PySem L2 PyProof.Rows
theorem zkR {α β : Type} (f : α → β) (xs : List α) (c : Nat × List α) : nxt (xs.map f) (c.1,c.2.map f) = (nxt xs c).map fun d => (d.1,d.2.map f):=by
 unfold nxt
 rw [List.map_map,List.length_map]
 refine List.map_congr_left fun j _ => ?_
 show (c.1 + j + 1,c.2.map f ++ (xs.map f)[c.1 + j]?.toList) = (c.1 + j + 1,(c.2 ++ xs[c.1 + j]?.toList).map f)
 rw [List.getElem?_map,List.map_append]
 cases xs[c.1 + j]? <;> rfl
theorem zhK {α β : Type} (f : α → β) (xs : List α) : ∀ m,chs (xs.map f) m = (chs xs m).map fun d => (d.1,d.2.map f)
 | 0 => rfl
 | m + 1 => by
  show (chs (xs.map f) m).flatMap (nxt (xs.map f)) = ((chs xs m).flatMap (nxt xs)).map _
  rw [zhK f xs m,List.map_flatMap,List.flatMap_map]
  congr 1
  funext c
  exact zkR f xs c
theorem zeU {α β : Type} (f : α → β) (xs : List α) (m : Nat) : (chs (xs.map f) m).map (·.2) = ((chs xs m).map (·.2)).map (·.map f):=by
 rw [zhK,List.map_map,List.map_map]
 rfl
def PtB (H : Hp) : List Addr → List (Int × Int) → Prop:=Paired fun b q => H b = some (.tup [.int q.1,.int q.2])
theorem PtB.same {H H' : Hp} (s : zy H H') {bs : List Addr} {pts : List (Int × Int)} (h : PtB H bs pts) : PtB H' bs pts:=Paired.mono (fun _ _ z => s _ _ z) h
theorem PtB.zs {H : Hp} : ∀ {bs : List Addr} {pts : List (Int × Int)},PtB H bs pts → ∃ zs : List (Addr × Int × Int),bs = zs.map (·.1) ∧ pts = zs.map (·.2) ∧ ∀ z ∈ zs,H z.1 = some (.tup [.int z.2.1,.int z.2.2])
 | _,_,.nil => ⟨[],rfl,rfl,by simp⟩
 | _,_,.cons (a:=b) (b:=q) r t => by
  obtain ⟨zs,h1,h2,h3⟩:=PtB.zs t
  refine ⟨(b,q) :: zs,by rw [h1]; rfl,by rw [h2]; rfl,fun z hz => ?_⟩
  rcases (List.mem_cons.mp hz) with rfl | hz
  ·exact r
  ·exact h3 z hz
theorem PtB.take {H : Hp} {bs : List Addr} {pts : List (Int × Int)} (h : PtB H bs pts) (n : Nat) : PtB H (bs.take n) (pts.take n):=by
 induction h generalizing n with
 | nil => rw [List.take_nil,List.take_nil]; exact .nil
 | cons r t ih =>
  cases n with
  | zero => exact .nil
  | succ n => exact .cons r (ih n)
def zbx (H : Hp) : List Addr → List (List Int) → Prop:=Paired fun r q => H r = some (.tup (q.map V.int))
theorem zbx.same {H H' : Hp} (s : zy H H') {rs : List Addr} {qs : List (List Int)} (h : zbx H rs qs) : zbx H' rs qs:=Paired.mono (fun _ _ z => s _ _ z) h
theorem zbx.of {H : Hp} : ∀ {ps : List (Addr × List Int)},(∀ q ∈ ps,H q.1 = some (.tup (q.2.map V.int))) → zbx H (ps.map (·.1)) (ps.map (·.2))
 | [],_ => .nil
 | a :: ps,h => .cons (h a List.mem_cons_self) (zbx.of fun q hq => h q (List.mem_cons_of_mem _ hq))
theorem zjM {κ : Type} [DecidableEq κ] (kvs : List (κ × V)) (k : κ) (v : V) : (putK kvs k v).map (·.1) = if k ∈ kvs.map (·.1) then kvs.map (·.1) else kvs.map (·.1) ++ [k]:=by
 unfold putK
 by_cases h : (kvs.any fun kv => decide (kv.1 = k)) = true
 ·rw [if_pos h]
  obtain ⟨kv,h1,h2⟩:=List.any_eq_true.mp h
  have h2 : kv.1 = k:=by simpa using h2
  rw [if_pos (by rw [← h2]; exact List.mem_map_of_mem h1),List.map_map]
  refine List.map_congr_left fun a _ => ?_
  show (if a.1 = k then (a.1,v) else a).1 = a.1
  split <;> rfl
 ·rw [if_neg h]
  rw [if_neg (fun hm => h ?_),List.map_append]
  ·rfl
  ·obtain ⟨kv,h1,h2⟩:=List.mem_map.mp hm
   exact List.any_eq_true.mpr ⟨kv,h1,by simpa using h2⟩
theorem zkS {a b : List Int} (h : (a.map Sum.inl : List Key) = b.map Sum.inl) : a = b:=by
 induction a generalizing b with
 | nil => cases b with
  | nil => rfl
  | cons _ _ => simp at h
 | cons x a ih => cases b with
  | nil => simp at h
  | cons y b =>
   rw [List.map_cons,List.map_cons] at h
   obtain ⟨h1,h2⟩:=List.cons.inj h
   rw [Sum.inl.inj h1,ih h2]
def KeysAre (kvs : List (List Key × V)) (mss : List (List Int)) : Prop:=kvs.map (·.1) = mss.map (·.map Sum.inl)
theorem zjN {kvs : List (List Key × V)} {mss : List (List Int)} (h : KeysAre kvs mss) (hn : mss.Nodup) (q : List Int) (v : V) : ∃ mss',KeysAre (putK kvs (q.map Sum.inl) v) mss' ∧ mss'.Nodup ∧ mss'.length ≤ mss.length + 1 ∧ ∀ x,x ∈ mss' ↔ x ∈ mss ∨ x = q:=by
 unfold KeysAre at h ⊢
 rw [zjM,h]
 have hm : (q.map Sum.inl : List Key) ∈ mss.map (·.map Sum.inl) ↔ q ∈ mss:=by
  constructor
  ·intro hm
   obtain ⟨x,hx,e⟩:=List.mem_map.mp hm
   rw [← zkS e]
   exact hx
  ·intro hm
   exact List.mem_map_of_mem hm
 by_cases hq : q ∈ mss
 ·refine ⟨mss,by rw [if_pos (hm.mpr hq)],hn,by omega,fun x => ⟨.inl,fun z => z.elim id fun e => e ▸ hq⟩⟩
 ·refine ⟨mss ++ [q],by rw [if_neg fun z => hq (hm.mp z),List.map_append]; rfl,?_,by rw [List.length_append]; exact Nat.le_refl _,fun x => by rw [List.mem_append,List.mem_singleton]⟩
  rw [List.nodup_append]
  exact ⟨hn,by simp,fun a ha b hb e => hq (by rw [← List.mem_singleton.mp hb,← e]; exact ha)⟩
def zkT (K : PySem.W.Frag) : Sp:=fun vs H Q _ => ∃ (c tt r : Addr) (p k : Int) (pl : List Int) (rw : List (Option Int)),vs = [.ref c,.ref r] ∧ zaU H c tt p k pl ∧ RowAt K H r pl.length rw ∧ pl.length ≤ 1000 ∧
 ∀ (l : Addr) (bs : List Addr) (H' : Hp),H l = none → zy H H' → H' l = some (.lst (bs.map V.ref)) → PtB H' bs (hps pl rw) → Q (.ref l) H'
def zd7 (K : PySem.W.Frag) : Sp:=fun vs H Q _ => ∃ (c tt a : Addr) (p : Int) (k : Nat) (pl : List Int) (bs : List Addr) (pts : List (Int × Int)),vs = [.ref c,.ref a] ∧ zaU H c tt p k pl ∧ SqL K H a (bs.map V.ref) ∧ PtB H bs pts ∧ pts.length ≤ 16 ∧ p ∈ zm ∧ Pts p pts ∧ 1 ≤ k ∧ k ≤ 100 ∧
 ∀ (l : Addr) (rs : List Addr) (qs : List (List Int)) (H' : Hp),H l = none → zy H H' → H' l = some (.lst (rs.map V.ref)) → zbx H' rs qs → qs.length ≤ 65536 → zd6 p k qs → (∀ q,q ∈ qs ↔ ∃ pk ∈ (chs pts k).map (·.2),q = thr p pk) → Q (.ref l) H'
end My
end
section
set_option maxHeartbeats 3999000
namespace My
open PySem L2 PyProof.Rows
end My
end
section
set_option maxHeartbeats 3999000
namespace L2
open PySem PySem.Spec PyProof.Rows
def zmf (K : PySem.W.Frag) : R2:=fun x y H Q => ∃ a b xs ys,x = .ref a ∧ y = .ref b ∧ SqT K H a xs ∧ SqT K H b ys ∧ ys ≠ [] ∧ xs.length + ys.length ≤ sizeLine ∧
 (xs = [] → Q (.ref b) H) ∧ (xs ≠ [] → ∀ p,H p = none → Q (.ref p) (upd H p (.tup (xs ++ ys))))
theorem zeV {X : Cx} {K : PySem.W.Frag} (hK : X.K = K) : OpR X (binaryOp .Add) (zmf K):=by
 subst hK
 intro pins s σ H x y v u Q I rx ry h
 obtain ⟨a,b,xs,ys,rfl,rfl,ha,hb,hy,hz,q1,q2⟩:=h
 by_cases hx : xs = []
 ·cases rx
  cases ry
  obtain ⟨its,r1,p1,_⟩:=I.tuple ha
  obtain ⟨its2,r2,p2,_⟩:=I.tuple hb
  obtain ⟨⟨cls,dd,data,sl⟩,ho,hc,n,hd⟩:=id p1
  obtain ⟨⟨cls2,dd2,data2,sl2⟩,ho2,hc2,n2,hd2⟩:=id p2
  simp only at hc hd hc2 hd2
  subst hc hd hc2 hd2
  exact concat_meets ⟨_,ho,rfl⟩ ⟨_,ho2,rfl⟩ noFill_tuple_add seq_tuple_add PySem.F.slot_tuple_add PySem.F.entry_tuple_add (PySem.F.args_tuple_add_2 _ _)
   (tuple_addW0 a b its.toArray its2.toArray n n2 dd dd2 sl sl2 (by simp [r1.nil_iff.mpr hx])) ⟨ho,ho2,⟨.ref b,H,I,rfl,q1 hx⟩⟩
 ·exact zkl pins s σ H _ _ v u Q I rx ry ⟨a,b,xs,ys,rfl,rfl,ha,hb,hx,hz,fun z => absurd z hy,fun _ => q2 hx⟩
end L2
end
section
set_option maxHeartbeats 3999000
namespace My
open PySem L2 PyProof.Rows
theorem zft {X : Cx} {st : Stmt} {ts : TS} (h : PS X st ts) : PS X st (fun D σ H => ∃ Pv : L2.St → Hp → Prop,ts { D with nx:=Pv } σ H ∧ ∀ σ' H',Pv σ' H' → D.nx σ' H'):=by
 intro pins s σ H D I hq
 obtain ⟨Pv,h1,h2⟩:=hq
 refine thn (h pins s σ H _ I h1) fun f s1 q => ?_
 cases f with
 | next =>
  obtain ⟨σ',H',I',p⟩:=q
  exact ⟨σ',H',I',h2 _ _ p⟩
 | ret v => exact q
 | brk => exact q
 | cont => exact q
theorem PtB.pts {K : PySem.W.Frag} {H : Hp} {a : Addr} {bs : List Addr} {pts : List (Int × Int)} (ha : H a = some (.lst (bs.map V.ref))) (h : PtB H bs pts) : zjf K H a pts:=by
 refine ⟨bs,SqL.of ha,h.length,fun i b q h1 h2 => ?_⟩
 obtain ⟨q',h3,h4⟩:=Paired.get h h1
 rw [h2] at h3
 cases h3
 exact h4
end My
end
section
set_option maxHeartbeats 3999000
namespace L2
open PySem PySem.Spec PyProof.Rows
theorem zc5 : fillsNumberSlot (.type "tuple") "mul" = pure false :=
 PySem.fillsNumberSlot_seq (id:="tuple.__mul__") (r:=some (.builtin "tuple.__rmul__")) PySem.F.slot_tuple_mul.lookup (by decide +kernel) PySem.F.slot_tuple_rmul.lookup (by decide +kernel)
theorem zfu : seqRepeat? (.type "tuple") = pure (some (.builtin "tuple.__mul__")):=by
 unfold seqRepeat?
 rw [PySem.seqSlot_of (T:="tuple") (name:="__mul__") (id:="tuple.__mul__") PySem.F.slot_tuple_mul.lookup (by decide +kernel),PySem.seqSlot_of (T:="tuple") (name:="__rmul__") (id:="tuple.__rmul__") PySem.F.slot_tuple_rmul.lookup (by decide +kernel)]
 rfl
theorem zd8 (a : Int) (t : Tok) (l : Addr) (items : Array Value) (n : Nat) (dd : Option Addr) (sl : Array (Option Value)) :
  Meets (Builtin.«int.__rmul__» ⟨[.int a t,.ref l],[]⟩) (fun _ R s => s.heap.get? l = some { cls:=.type "tuple",dict:=dd,data:=.seq items n,slots:=sl } ∧ R (.ok (.ret Value.notImplemented)) s) :=
 .of_wp fun prog w A R s h => by (obtain ⟨hp,g,d,tk,os⟩:=s; obtain ⟨hl,h⟩:=h; wp_walk using wpAny_loadPart' hl; exact ⟨_,rfl,h⟩)
theorem zjO (l : Addr) (items : Array Value) (n : Nat) (dd : Option Addr) (sl : Array (Option Value)) (u : Tok) :
  Meets (Builtin.«tuple.__mul__» ⟨[.ref l,.int 1 u],[]⟩) (fun _ R s => s.heap.get? l = some { cls:=.type "tuple",dict:=dd,data:=.seq items n,slots:=sl } ∧ R (.ok (.ret (.ref l))) s) :=
 .of_wp fun prog w A R s h => by
  (obtain ⟨hp,g,d,tk,os⟩:=s)
  obtain ⟨hl,h⟩:=h
  have f1:=AutoSeq1.idx_int
  have f2:=AutoSeq1.sub_tuple_tuple
  wp_walk using wpAny_loadPart' hl; exact ⟨_,rfl,h⟩
theorem zjP (l : Addr) (items : Array Value) (n : Nat) (dd : Option Addr) (sl : Array (Option Value)) (k : Int) (u : Tok) (hc0 : (decide (k < -(2 ^ 63)) || decide (k ≥ 2 ^ 63)) = false) (hc1 : (items.isEmpty || k == 1) = false) (hc2 : (decide (k ≤ 0) || items.isEmpty) = true) :
  Meets (Builtin.«tuple.__mul__» ⟨[.ref l,.int k u],[]⟩) (fun _ R s => s.heap.get? l = some { cls:=.type "tuple",dict:=dd,data:=.seq items n,slots:=sl } ∧ R (.ok (.ret (Value.ref s.heap.objs.size))) { s with heap:=s.heap.push { cls:=Value.type "tuple",data:=Data.seq #[] },toks:=s.toks }) :=
 .of_wp fun prog w A R s h => by
  (obtain ⟨hp,g,d,tk,os⟩:=s)
  obtain ⟨hl,h⟩:=h
  have f1:=AutoSeq1.idx_int
  have f2:=AutoSeq1.sub_tuple_tuple
  wp_walk using wpAny_loadPart' hl; refine wpAny_ite_false (by rw [hc0]; rfl) ?_
  wp_walk using wpAny_loadPart' hl; exact ⟨_,rfl,h⟩
theorem zjQ (l : Addr) (items : Array Value) (n : Nat) (dd : Option Addr) (sl : Array (Option Value)) (k : Int) (u : Tok) (hc0 : (decide (k < -(2 ^ 63)) || decide (k ≥ 2 ^ 63)) = false) (hc1 : (items.isEmpty || k == 1) = false) (hc2 : (decide (k ≤ 0) || items.isEmpty) = false)
  (hc3 : ¬(items.size : Int) * k > (2 ^ 63 - 1) / 8) (hc4 : Builtin.Tuple.tupleTooMany (items.size * k) = false) (hsz : (List.foldl (fun x1 x2 => x1 ++ x2) #[] (List.replicate k.toNat items)).size ≤ sizeLine) :
  Meets (Builtin.«tuple.__mul__» ⟨[.ref l,.int k u],[]⟩) (fun _ R s => s.heap.get? l = some { cls:=.type "tuple",dict:=dd,data:=.seq items n,slots:=sl } ∧ R (.ok (.ret (Value.ref s.heap.objs.size))) { s with heap:=s.heap.push { cls:=Value.type "tuple",data:=Data.seq (List.foldl (fun x1 x2 => x1 ++ x2) #[] (List.replicate k.toNat items)) },toks:=s.toks }) :=
 .of_wp fun prog w A R s h => by
  (obtain ⟨hp,g,d,tk,os⟩:=s)
  obtain ⟨hl,h⟩:=h
  have f1:=AutoSeq1.idx_int
  have f2:=AutoSeq1.sub_tuple_tuple
  wp_walk using wpAny_loadPart' hl; refine wpAny_ite_false (by rw [hc0]; rfl) ?_
  wp_walk using wpAny_loadPart' hl; refine wpAny_ite_false (decide_eq_false hc3) ?_
  wp_walk using wpAny_loadPart' hl; exact ⟨_,rfl,h⟩
def zmS (K : PySem.W.Frag) : R2:=fun x y H Q => ∃ a k xs,x = .ref a ∧ y = .int k ∧ SqT K H a xs ∧ xs ≠ [] ∧ -(2 ^ 63) ≤ k ∧ k < 2 ^ 63 ∧ xs.length * k.toNat ≤ sizeLine ∧
 (k = 1 → Q (.ref a) H) ∧ (k ≠ 1 → ∀ p,H p = none → Q (.ref p) (upd H p (.tup (List.replicate k.toNat xs).flatten)))
theorem zhL {X : Cx} : OpR X (binaryOp .Mult) (zmS X.K):=by
 intro pins s σ H x y v u Q I rx ry h
 obtain ⟨a,k,xs,rfl,rfl,hx,hne,h1,h2,hz,q,q2⟩:=h
 cases rx
 obtain ⟨t,rfl⟩:=ry
 obtain ⟨its,r,p1,_⟩:=I.tuple hx
 obtain ⟨⟨cls,dd,data,sl⟩,ho,hc,n,hd⟩:=id p1
 simp only at hc hd
 subst hc hd
 have hl : xs.length = its.length:=r.length
 have hne' : its ≠ []:=fun e => hne (r.nil_iff.mp e)
 have he : its.toArray.isEmpty = false:=by simpa using hne'
 have hc0 : (decide (k < -(2 ^ 63)) || decide (k ≥ 2 ^ 63)) = false:=by
  rw [decide_eq_false (by omega),decide_eq_false (by omega)]; rfl
 refine wpAny_binaryOp_repeat_ref (T:="tuple") (U:="int") (by decide) ⟨_,ho,rfl⟩ (fun s' => typeIs_int s' k t) zc5 F.fills_int_mul F.slot_int_rmul zfu F.slot_int_index.lookup
  (call_meets F.slot_int_rmul (typeIs_int s k t) F.entry_int_rmul (F.args_int_rmul_2 _ _) (zd8 k t a its.toArray n dd sl) ⟨ho,rfl,⟨_,ho,rfl⟩,?_⟩)
 by_cases e1 : k = 1
 ·subst e1
  refine call_meets F.slot_tuple_mul ⟨_,ho,rfl⟩ F.entry_tuple_mul (F.args_tuple_mul_2 _ _) (zjO a its.toArray n dd sl t) ⟨ho,?_⟩
  exact ⟨.ref a,H,I,rfl,q rfl⟩
 have hc1 : (its.toArray.isEmpty || k == 1) = false:=by rw [he]; simpa using e1
 by_cases e0 : k ≤ 0
 ·refine call_meets F.slot_tuple_mul ⟨_,ho,rfl⟩ F.entry_tuple_mul (F.args_tuple_mul_2 _ _) (zjP a its.toArray n dd sl k t hc0 hc1 (by rw [decide_eq_true e0]; rfl)) ⟨ho,?_⟩
  have hf:=I.hok.fresh (Nat.le_refl _)
  have e : (List.replicate k.toNat xs).flatten = []:=by rw [show k.toNat = 0 by omega]; rfl
  refine ⟨.ref s.heap.objs.size,_,I.laid (t':=s.toks) (o:=.tup []) (fun b ob q => Heap.get?_push_of_some _ q) (Nat.le_refl _) ?_,rfl,by rw [← e]; exact q2 e1 _ hf⟩
  exact ⟨Nat.zero_le _,[],.nil,IsTup.new _ _⟩
 ·have hm : (its.toArray.size : Int) * k = ((xs.length * k.toNat : Nat) : Int):=by
   rw [List.size_toArray,← hl,Int.natCast_mul,Int.toNat_of_nonneg (by omega)]
  have hsl : (sizeLine : Nat) ≤ 16777216:=by decide
  have hnew : List.foldl (fun x1 x2 => x1 ++ x2) #[] (List.replicate k.toNat its.toArray) = (List.replicate k.toNat its).flatten.toArray:=by
   have:=foldl_rep its k.toNat []
   rw [List.nil_append] at this
   exact this
  refine call_meets F.slot_tuple_mul ⟨_,ho,rfl⟩ F.entry_tuple_mul (F.args_tuple_mul_2 _ _) (zjQ a its.toArray n dd sl k t hc0 hc1 (by rw [decide_eq_false e0,he]; rfl) (by rw [hm]; omega) (by rw [hm]; unfold Builtin.Tuple.tupleTooMany; exact decide_eq_false (by omega)) (by rw [hnew,List.size_toArray,len_rep,Nat.mul_comm,← hl]; exact hz)) ⟨ho,?_⟩
  have hf:=I.hok.fresh (Nat.le_refl _)
  rw [hnew]
  refine ⟨.ref s.heap.objs.size,_,I.laid (t':=s.toks) (o:=.tup (List.replicate k.toNat xs).flatten) (fun b ob q => Heap.get?_push_of_some _ q) (Nat.le_refl _) ?_,rfl,q2 e1 _ hf⟩
  exact ⟨by rw [len_rep,Nat.mul_comm]; exact hz,_,r.rep k.toNat,IsTup.new _ _⟩
def zmT (K : PySem.W.Frag) : R2:=fun x y H Q => ∃ a k xs,x = .ref a ∧ y = .int k ∧ SqT K H a xs ∧ xs ≠ [] ∧ -(2 ^ 63) ≤ k ∧ k < 2 ^ 63 ∧ xs.length * k.toNat ≤ sizeLine ∧
 ∀ p H',zy H H' → SqT K H' p (List.replicate k.toNat xs).flatten → Q (.ref p) H'
theorem zkU {X : Cx} : OpR X (binaryOp .Mult) (zmT X.K):=by
 intro pins s σ H x y v u Q I rx ry h
 obtain ⟨a,k,xs,rfl,rfl,hx,hne,h1,h2,hz,q⟩:=h
 exact zhL pins s σ H _ _ v u Q I rx ry ⟨a,k,xs,rfl,rfl,hx,hne,h1,h2,hz,fun e => q a H (fun _ _ e => e) (by rw [e]; simpa using hx),fun _ p hp => q p _ (fun b o z => by rw [zr (fun e => by rw [e,hp] at z; cases z)]; exact z) (SqT.of zc)⟩
theorem zkV {X : Cx} {K : PySem.W.Frag} {tg l : Expr} {tl : TE} (hK : X.K = K) (hl : PE X l tl) : PI X tg l (zms K tl):=by subst hK; exact ziS hl
end L2
end
section
set_option maxHeartbeats 3999000
namespace HT
open PySem PySem.Spec PyProof.Rows
section
variable {prog : Program} {w : World} {A : Around} {E : Value → Shared → Prop} {s : Shared}
theorem getItem_tuple_whole {t sl : Addr} {items : Array Value} {vl vu : Value} {lo hi : Option Int} {Q : Value → Shared → Prop} (ht : IsTup s.heap t items) (hs : s.heap.IsSliceOf sl vl vu .none) (pl : IsPart vl lo) (pu : IsPart vu hi)
  (hw : sIx items.size 0 lo = 0 ∧ sIx items.size items.size hi = items.size) (h : Q (.ref t) s) : wpAny (model prog w) A (getItem (.ref t) (.ref sl)) Q E s:=by
 obtain ⟨os,hos,hcs,hds⟩:=id hs
 have hTs : s.TypeIs (.ref sl) "slice":=⟨os,hos,hcs⟩
 unfold getItem
 try with_reducible refine wpAny_holding ?_
 first | refine wpAny_bind (wpAny_pure ?_) | skip
 refine wpAny_bind (wpAny_sequenceKey ht.typeIs (by decide) ?_)
 refine wpAny_bind (wpAny_callSpecial?_slot (name:=Str.ofString "__getitem__") ht.typeIs PyProof.Rows.slot_tuple_getitem
  (wpAny_call_entry PyProof.Rows.slot_tuple_getitem ht.typeIs entry_tuple_getitem ?_ (args_tuple_getitem _ _)))
 show wpAny _ _ (Builtin.Tuple.tupleItemsOf (.ref t) >>= _) _ _ s
 refine wpAny_bind (tupleItemsOf_ ht ?_)
 refine wpAny_bind (wpAny_typeOf hTs ?_)
 rw [if_pos (by decide)]
 refine wpAny_bind (zbt hs pl pu ?_)
 have hyes : (((sIx items.size 0 lo : Nat) : Int) == 0 && (1 : Int) == 1 && (sIx items.size items.size hi - sIx items.size 0 lo) == items.size) = true:=by
  rw [hw.1,hw.2]
  simp
 show wpAny _ _ (if (((sIx items.size 0 lo : Nat) : Int) == 0 && (1 : Int) == 1 && (sIx items.size items.size hi - sIx items.size 0 lo) == items.size) = true then _ else _) _ _ s
 rw [if_pos hyes]
 refine wpAny_bind (m:=Builtin.Tuple.tupleIsExact _) (wpAny_bind (wpAny_typeOf ht.typeIs (wpAny_pure ?_)))
 rw [if_pos (by decide)]
 first
  | exact wpAny_bind (wpAny_rule (wpAny_pure ⟨_,rfl,wpAny_pure h⟩))
  | exact wpAny_bind (wpAny_bind (wpAny_rule (wpAny_pure ⟨_,rfl,wpAny_pure h⟩)))
end
end HT
namespace L2
open PySem PySem.Spec PyProof.Rows
def zmU (K : PySem.W.Frag) : V → Option Int → Option Int → Hp → VK → Prop:=fun x lo hi H Q => ∃ a xs,x = .ref a ∧ SqT K H a xs ∧ ∀ p H',zy H H' → SqT K H' p (za2 xs lo hi) → Q (.ref p) H'
theorem zkW {X : Cx} : SlR X (zmU X.K):=by
 intro pins s σ H x v vl vu lo hi sl Q I rx hs pl pu h
 obtain ⟨a,xs,rfl,hx,q⟩:=h
 by_cases hw : HT.sIx xs.length 0 lo = 0 ∧ HT.sIx xs.length xs.length hi = xs.length
 ·have rx':=rx
  cases rx
  obtain ⟨its,r,ht,hz⟩:=I.tuple hx
  have hlen : its.toArray.size = xs.length:=by rw [List.size_toArray]; exact r.length.symm
  refine ⟨"tuple",_,PyProof.Rows.slot_tuple_getitem.lookup,ht.typeIs,?_⟩
  refine HT.getItem_tuple_whole ht hs pl pu (by rw [hlen]; exact hw) ⟨.ref a,H,I,rfl,q a H (fun _ _ e => e) ?_⟩
  have e : za2 xs lo hi = xs:=by
   unfold za2
   rw [hw.1,hw.2,List.drop_zero,Nat.sub_zero,List.take_length]
  rw [e]
  exact hx
 ·exact zi0 pins s σ H (.ref a) v vl vu lo hi sl Q I rx hs pl pu ⟨a,xs,rfl,hx,hw,fun p hp => q p _ (fun b o z => by rw [zr (fun e => by rw [e,hp] at z; cases z)]; exact z) (SqT.of zc)⟩
theorem zjR {X : Cx} {K : PySem.W.Frag} (hK : X.K = K) : SlR X (zmU K):=by subst hK; exact zkW
def znk : V → Option Int → Option Int → Hp → VK → Prop:=fun x lo hi H Q => ∃ a xs,x = .ref a ∧ H a = some (.tup xs) ∧ ∀ p H',zy H H' → H' p = some (.tup (za2 xs lo hi)) → Q (.ref p) H'
theorem zkX {X : Cx} : SlR X znk:=by
 intro pins s σ H x v vl vu lo hi sl Q I rx hs pl pu h
 obtain ⟨a,xs,rfl,hx,q⟩:=h
 have hX : SqT X.K H a xs:=SqT.of hx
 by_cases hw : HT.sIx xs.length 0 lo = 0 ∧ HT.sIx xs.length xs.length hi = xs.length
 ·cases rx
  obtain ⟨its,r,ht,hz⟩:=I.tuple hX
  have hlen : its.toArray.size = xs.length:=by rw [List.size_toArray]; exact r.length.symm
  refine ⟨"tuple",_,PyProof.Rows.slot_tuple_getitem.lookup,ht.typeIs,?_⟩
  refine HT.getItem_tuple_whole ht hs pl pu (by rw [hlen]; exact hw) ⟨.ref a,H,I,rfl,q a H (fun _ _ e => e) ?_⟩
  have e : za2 xs lo hi = xs:=by
   unfold za2
   rw [hw.1,hw.2,List.drop_zero,Nat.sub_zero,List.take_length]
  rw [e]
  exact hx
 ·exact zi0 pins s σ H (.ref a) v vl vu lo hi sl Q I rx hs pl pu ⟨a,xs,rfl,hX,hw,fun p hp => q p _ (fun b o z => by rw [zr (fun e => by rw [e,hp] at z; cases z)]; exact z) zc⟩
def zmV : R2:=fun x y H Q => ∃ a b xs ys,x = .ref a ∧ y = .ref b ∧ H a = some (.tup xs) ∧ H b = some (.tup ys) ∧ xs.length + ys.length ≤ sizeLine ∧ ys ≠ [] ∧ ∀ p H',zy H H' → H' p = some (.tup (xs ++ ys)) → Q (.ref p) H'
theorem zkY {X : Cx} : OpR X (binaryOp .Add) zmV:=by
 intro pins s σ H x y v u Q I rx ry h
 obtain ⟨a,b,xs,ys,rfl,rfl,ha,hb,hz,hy,q⟩:=h
 refine zeV rfl pins s σ H _ _ v u Q I rx ry ⟨a,b,xs,ys,rfl,rfl,SqT.of ha,SqT.of hb,hy,hz,fun e => ?_,fun _ p hp => q p _ (fun b o z => by rw [zr (fun e => by rw [e,hp] at z; cases z)]; exact z) zc⟩
 subst e
 exact q b H (fun _ _ e => e) hb
def zmW : R2:=fun x y H Q => ∃ a k xs,x = .ref a ∧ y = .int k ∧ H a = some (.tup xs) ∧ xs ≠ [] ∧ -(2 ^ 63) ≤ k ∧ k < 2 ^ 63 ∧ xs.length * k.toNat ≤ sizeLine ∧ ∀ p H',zy H H' → H' p = some (.tup (List.replicate k.toNat xs).flatten) → Q (.ref p) H'
theorem zkZ {X : Cx} : OpR X (binaryOp .Mult) zmW:=by
 intro pins s σ H x y v u Q I rx ry h
 obtain ⟨a,k,xs,rfl,rfl,hx,hne,h1,h2,hz,q⟩:=h
 refine zhL pins s σ H _ _ v u Q I rx ry ⟨a,k,xs,rfl,rfl,SqT.of hx,hne,h1,h2,hz,fun e => q a H (fun _ _ e => e) (by rw [e]; simpa using hx),fun _ p hp => q p _ (fun b o z => by rw [zr (fun e => by rw [e,hp] at z; cases z)]; exact z) zc⟩
end L2
end
section
set_option maxHeartbeats 3999000
namespace My
open PySem L2 PyProof.Rows
def md (p : Int) (q : Int × Int) : Int × Int:=(q.1,q.2 % p)
theorem zgi (p : Int) (s : List Int × List Int) (q : Int × Int) : zb2 p s (md p q) = zb2 p s q:=by
 unfold zb2 md
 have : (q.2 % p - zi p q.1 s.1) * inv p (zi p q.1 s.2) % p = (q.2 - zi p q.1 s.1) * inv p (zi p q.1 s.2) % p:=(((Cg.emod p q.2).sub (Cg.refl p _)).mul (Cg.refl p _)).mod_eq
 dsimp only
 rw [this]
theorem zhM (p : Int) : ∀ (pts : List (Int × Int)) (s : List Int × List Int),(pts.map (md p)).foldl (zb2 p) s = pts.foldl (zb2 p) s
 | [],s => rfl
 | q :: pts,s => by
  rw [List.map_cons,List.foldl_cons,List.foldl_cons,zgi,zhM p pts]
theorem zmg (p : Int) (pts : List (Int × Int)) : thr p (pts.map (md p)) = thr p pts:=by
 unfold thr zmI
 rw [zhM,List.length_map]
def zgj (K : PySem.W.Frag) : Sp:=fun vs H Q _ => ∃ (p : Int) (a : Addr) (pts : List (Int × Int)),vs = [.int p,.ref a] ∧ zjf K H a pts ∧ pts.length ≤ 100 ∧ p ∈ zm ∧ Pts p (pts.map (md p)) ∧ (∀ q ∈ pts,0 ≤ q.2 ∧ q.2 < 10000) ∧
 ∀ (l : Addr) (H' : Hp),H l = none → zy H H' → H' l = some (.tup ((thr p (pts.map (md p))).map V.int)) → Q (.ref l) H'
def zgS (K : PySem.W.Frag) : Sp:=fun vs H Q _ => ∃ (p tm : Int) (a b : Addr) (as bs : List Int),vs = [.int p,.ref a,.int tm,.ref b] ∧ H a = some (.lst (as.map V.int)) ∧ H b = some (.lst (bs.map V.int)) ∧ as.length = bs.length ∧ as.length ≤ 1000 ∧ 0 < p ∧ 0 ≤ tm ∧ tm < 1000 ∧
 ∀ (l : Addr) (H' : Hp),H l = none → zy H H' → H' l = some (.lst ((List.zipWith (fun x y => (x - tm * y) % p) as bs).map V.int)) → Q (.ref l) H'
def LsA (H : Hp) : List Addr → List (List Int) → Prop:=Paired fun b v => H b = some (.lst (v.map V.int))
theorem LsA.same {H H' : Hp} (s : zy H H') {bs : List Addr} {vv : List (List Int)} (h : LsA H bs vv) : LsA H' bs vv:=Paired.mono (fun _ _ z => s _ _ z) h
def ClA (ca : Addr) (H : Hp) : List Addr → List (Nat × List Int) → Prop:=Paired fun b a => ∃ wa,H b = some (.tup [.int (a.1 : Int),.ref wa]) ∧ H wa = some (.lst (a.2.map V.int)) ∧ wa ≠ ca
theorem ClA.same {ca : Addr} {H H' : Hp} (s : zy H H') {bs : List Addr} {cl : List (Nat × List Int)} (h : ClA ca H bs cl) : ClA ca H' bs cl:=Paired.mono (fun _ _ ⟨wa,z1,z2,z3⟩ => ⟨wa,s _ _ z1,s _ _ z2,z3⟩) h
theorem ClA.put {ca : Addr} {H : Hp} {bs : List Addr} {cl : List (Nat × List Int)} {xs : List V} {o : HO} (h : ClA ca H bs cl) (hf : H ca = some (.lst xs)) : ClA ca (upd H ca o) bs cl:=Paired.mono (fun b _ ⟨wa,z1,z2,z3⟩ => ⟨wa,by
 rw [zr (fun e => by rw [e,hf] at z1; cases z1)]; exact z1,by rw [zr z3]; exact z2,z3⟩) h
theorem zk0 {xs : List V} {a b : Nat} (h : b ≤ xs.length) : za2 xs (some (a : Int)) (some (b : Int)) = (xs.drop a).take (b - a):=by
 unfold za2
 rw [HT.sIx_nat,HT.sIx_nat]
 by_cases ha : a ≤ xs.length
 ·rw [Nat.min_eq_left ha,Nat.min_eq_left h]
 ·rw [show min a xs.length = xs.length by omega,Nat.min_eq_left h,List.drop_of_length_le (Nat.le_refl _),List.drop_of_length_le (show xs.length ≤ a by omega),List.take_nil,List.take_nil]
def zcS (K : PySem.W.Frag) : Sp:=fun vs H Q _ => ∃ (p : Int) (a : Addr) (ls : List Addr) (vv : List (List Int)) (L : Nat),vs = [.int p,.ref a] ∧ H a = some (.lst (ls.map V.ref)) ∧ LsA H ls vv ∧ vv ≠ [] ∧ vv.length ≤ 100 ∧ L ≤ 800 ∧ (∀ v ∈ vv,v.length = L ∧ ∀ c ∈ v,0 ≤ c ∧ c < p) ∧ p ∈ zm ∧
 (∀ H',zy H H' → Indep p L vv → Q .non H') ∧ (∀ (l : Addr) (c : List Int) (m : Nat) (H' : Hp),H l = none → zy H H' → H' l = some (.lst (c.map V.int)) → IsP p (m + 1) c → m < vv.length → gl c m = 1 → Dep p L vv c → Q (.ref l) H')
theorem zfv {K : PySem.W.Frag} {H H' : Hp} {a : Addr} {xs : List V} (e : zy H H') (h : SqT K H a xs) : SqT K H' a xs:=by
 rcases h with (h | ⟨o,h⟩) | h
 ·exact .inl (.inl (e _ _ h))
 ·exact .inl (.inr ⟨o,e _ _ h⟩)
 ·exact .inr h
def tmP (p : Int) (l : List Int) (pts : List (Int × Int)) : List (Int × Int):=pts.map fun a => (a.1,zi p a.1 l * a.2 % p)
theorem zcf {p : Int} (p0 : 0 < p) {l : List Int} {pts : List (Int × Int)} (hP : Pts p pts) : Pts p (tmP p l pts):=by
 refine ⟨?_,fun q hq => ?_⟩
 ·unfold tmP
  rw [List.map_map]
  exact hP.nd
 ·obtain ⟨a,ha,rfl⟩:=List.mem_map.mp hq
  obtain ⟨h1,h2,_⟩:=hP.rg a ha
  exact ⟨h1,h2,Int.emod_nonneg _ (by omega),Int.emod_lt_of_pos _ p0⟩
theorem zjS (p : Int) (l : List Int) (pts : List (Int × Int)) : (pts.map fun a => (a.1,zi p a.1 l * a.2)).map (md p) = tmP p l pts:=by
 rw [List.map_map]
 rfl
def zc6 (K : PySem.W.Frag) : Sp:=fun vs H Q _ => ∃ (p : Int) (la a : Addr) (l : List Int) (bs : List Addr) (pts : List (Int × Int)),vs = [.int p,.ref la,.ref a] ∧ SqT K H la (l.map V.int) ∧ SqL K H a (bs.map V.ref) ∧ PtB H bs pts ∧ pts.length ≤ 100 ∧ p ∈ zm ∧ Pts p pts ∧
 ∀ (z : Addr) (H' : Hp),H z = none → zy H H' → H' z = some (.tup ((thr p (tmP p l pts)).map V.int)) → Q (.ref z) H'
def bey (m : Nat) (rs : List (List Int)) : List Int:=rs.flatMap fun r => r.drop m
theorem zgk (m : Nat) {rs : List (List Int)} {i : Nat} {r : List Int} (h : rs[i]? = some r) : bey m (rs.take (i + 1)) = bey m (rs.take i) ++ r.drop m:=by
 unfold bey
 rw [take_snoc h,List.flatMap_append]
 simp
def ziA (K : PySem.W.Frag) : Sp:=fun vs H Q _ => ∃ (a : Addr) (m : Nat) (bs : List Addr) (rs : List (List Int)),vs = [.ref a,.int (m : Int)] ∧ SqL K H a (bs.map V.ref) ∧ zbx H bs rs ∧ (∀ i,(bey m (rs.take i)).length ≤ 10000) ∧
 ∀ (z : Addr) (H' : Hp),H z = none → zy H H' → H' z = some (.lst ((bey m rs).map V.int)) → Q (.ref z) H'
def szd (q : List Int) (m : Nat) : List Int:=(q ++ List.replicate m 0).take m
def zjT (K : PySem.W.Frag) : Sp:=fun vs H Q _ => ∃ (a : Addr) (m : Nat) (q : List Int),vs = [.ref a,.int (m : Int)] ∧ H a = some (.tup (q.map V.int)) ∧ 1 ≤ m ∧ q.length + m ≤ 10000 ∧
 ∀ (z : Addr) (H' : Hp),zy H H' → H' z = some (.tup ((szd q m).map V.int)) → Q (.ref z) H'
def unit (i : Nat) : List Int:=List.replicate i 0 ++ [1]
theorem zhN (i j : Nat) : gl (unit i) j = if j = i then 1 else 0:=by
 unfold unit
 by_cases h : j < i
 ·rw [if_neg (by omega)]
  exact zbw (by rw [List.getElem?_append_left (by rw [List.length_replicate]; exact h),List.getElem?_replicate,if_pos h])
 ·by_cases e : j = i
  ·rw [if_pos e]
   exact zbw (by rw [List.getElem?_append_right (by rw [List.length_replicate]; omega),List.length_replicate,e,Nat.sub_self]; rfl)
  ·rw [if_neg e]
   exact zaK (by rw [List.length_append,List.length_replicate]; show i + 1 ≤ j; omega)
theorem ziB {p x : Int} (i : Nat) : Cg p (zi p x (unit i)) (x ^ i):=by
 refine (zaE (n:=i + 1) (by unfold unit; rw [List.length_append,List.length_replicate]; exact Nat.le_refl _)).trans ?_
 rw [zfr (j:=i) (by omega) fun j _ hne => by rw [zhN,if_neg hne,Int.zero_mul],zhN,if_pos rfl,Int.one_mul]
 exact Cg.refl _ _
def Tp (p : Int) (pts : List (Int × Int)) (i : Nat) : List Int:=thr p (tmP p (unit i) pts)
theorem zcx {p : Int} (hp : p ∈ zm) {pts : List (Int × Int)} (hP : Pts p pts) (l : List Int) : (thr p (tmP p l pts)).length = pts.length:=by
 have rp:=zo hp
 rw [(zcZ hp (zcf (l:=l) (by omega) hP)).1]
 unfold tmP
 rw [List.length_map]
theorem zjU {p : Int} (hp : p ∈ zm) {pts : List (Int × Int)} (hP : Pts p pts) (l : List Int) : ∀ c ∈ thr p (tmP p l pts),0 ≤ c ∧ c < p:=by
 have rp:=zo hp
 exact (zcZ hp (zcf (l:=l) (by omega) hP)).2.1
theorem zlq {p : Int} (hp : p ∈ zm) {pts : List (Int × Int)} (hP : Pts p pts) (l : List Int) {a : Int × Int} (ha : a ∈ pts) : zi p a.1 (thr p (tmP p l pts)) = zi p a.1 l * a.2 % p:=by
 have rp:=zo hp
 exact (zcZ hp (zcf (l:=l) (by omega) hP)).2.2 _ (List.mem_map.mpr ⟨a,ha,rfl⟩)
theorem zhO {p : Int} (hp : p ∈ zm) {pts : List (Int × Int)} (hP : Pts p pts) {l : List Int} {N : Nat} (hl : l.length ≤ N) (x : Nat) : Cg p (gl (thr p (tmP p l pts)) x) (sm N fun i => gl l i * gl (Tp p pts i) x):=by
 have rp:=zo hp
 have p0 : 0 < p:=by omega
 obtain ⟨C,hC⟩ : ∃ C,C = (List.range pts.length).map fun x => (sm N fun i => gl l i * gl (Tp p pts i) x) % p:=⟨_,rfl⟩
 have hCl : C.length = pts.length:=by rw [hC,List.length_map,List.length_range]
 have hCg : ∀ x,x < pts.length → gl C x = (sm N fun i => gl l i * gl (Tp p pts i) x) % p:=fun x hx => zbw (by rw [hC,List.getElem?_map,List.getElem?_range hx]; rfl)
 have hCr : ∀ c ∈ C,0 ≤ c ∧ c < p:=fun c hc => by
  rw [hC] at hc
  obtain ⟨x,_,rfl⟩:=List.mem_map.mp hc
  exact ⟨Int.emod_nonneg _ (by omega),Int.emod_lt_of_pos _ p0⟩
 have hev : ∀ a ∈ pts,zi p a.1 C = zi p a.1 l * a.2 % p:=fun a ha => by
  refine Cg.eq ?_ (z9 p0 _) (zaa p0 _) (Int.emod_nonneg _ (by omega)) (Int.emod_lt_of_pos _ p0)
  refine (zaE (n:=pts.length) (by omega)).trans ?_
  have h1 : Cg p (sm pts.length fun x => gl C x * a.1 ^ x) (sm pts.length fun x => sm N fun i => gl l i * (gl (Tp p pts i) x * a.1 ^ x)):=zeT fun x hx => by
   rw [hCg x hx]
   refine ((Cg.emod _ _).mul (Cg.refl p _)).trans (Cg.of_eq ?_)
   rw [Int.mul_comm,← zbN]
   exact zaj fun i _ => by grind
  refine h1.trans ?_
  rw [zfs]
  have h2 : Cg p (sm N fun i => sm pts.length fun x => gl l i * (gl (Tp p pts i) x * a.1 ^ x)) (sm N fun i => a.2 * (gl l i * a.1 ^ i)):=zeT fun i _ => by
   rw [zbN]
   have e1 : Cg p (sm pts.length fun x => gl (Tp p pts i) x * a.1 ^ x) (zi p a.1 (Tp p pts i)):=(zaE (by unfold Tp; rw [zcx hp hP]; exact Nat.le_refl _)).symm
   have e2 : Cg p (zi p a.1 (Tp p pts i)) (a.1 ^ i * a.2):=by
    unfold Tp
    rw [zlq hp hP (unit i) ha]
    exact (Cg.emod _ _).trans ((ziB i).mul (Cg.refl p _))
   exact ((Cg.refl p (gl l i)).mul (e1.trans e2)).trans (Cg.of_eq (by grind))
  refine h2.trans ?_
  rw [zbN]
  refine ((Cg.refl p a.2).mul (zaE hl).symm).trans ((Cg.of_eq (Int.mul_comm _ _)).trans (Cg.emod _ _).symm)
 have hthr : C = thr p (tmP p l pts):=zfn hp (zcf p0 hP) (by unfold tmP; rw [List.length_map]; exact hCl) hCr fun a ha => by
  obtain ⟨b,hb,rfl⟩:=List.mem_map.mp ha
  exact hev b hb
 rw [← hthr]
 by_cases hx : x < pts.length
 ·rw [hCg x hx]
  exact Cg.emod _ _
 ·rw [zaK (by omega)]
  refine Cg.of_eq (zbe fun i _ => ?_).symm
  rw [zaK (w:=Tp p pts i) (by unfold Tp; rw [zcx hp hP]; omega),Int.mul_zero]
theorem zgT {a b : List Int} (x : Nat) : gl (a ++ b) x = if x < a.length then gl a x else gl b (x - a.length):=by
 unfold gl
 rw [List.getD_eq_getElem?_getD,List.getD_eq_getElem?_getD,List.getD_eq_getElem?_getD]
 by_cases h : x < a.length
 ·rw [if_pos h,List.getElem?_append_left h]
 ·rw [if_neg h,List.getElem?_append_right (by omega)]
theorem zk1 {a : List Int} (m x : Nat) : gl (a.drop m) x = gl a (m + x):=by
 unfold gl
 rw [List.getD_eq_getElem?_getD,List.getD_eq_getElem?_getD,List.getElem?_drop]
theorem zhP {p : Int} (hp : p ∈ zm) {c : Nat → Int} {N m : Nat} : ∀ {ptss : List (List (Int × Int))},(∀ pts ∈ ptss,Pts p pts) →
  ((∀ x,Cg p (sm N fun i => c i * gl (bey m (ptss.map fun pts => Tp p pts i)) x) 0) ↔ ∀ pts ∈ ptss,∀ y,m ≤ y → Cg p (sm N fun i => c i * gl (Tp p pts i) y) 0)
 | [],_ => by
  refine ⟨fun _ pts h => by (cases h),fun _ x => Cg.of_eq (zbe fun i _ => ?_)⟩
  show c i * gl [] x = 0
  rw [zaK (Nat.zero_le _),Int.mul_zero]
 | pts :: ptss,hP => by
  have ih:=zhP hp (c:=c) (N:=N) (m:=m) (ptss:=ptss) fun q hq => hP q (List.mem_cons_of_mem _ hq)
  have hl : ∀ i,((Tp p pts i).drop m).length = pts.length - m:=fun i => by
   rw [List.length_drop]
   unfold Tp
   rw [zcx hp (hP pts List.mem_cons_self)]
  have hb : ∀ i x,gl (bey m ((pts :: ptss).map fun pts => Tp p pts i)) x = if x < pts.length - m then gl (Tp p pts i) (m + x) else gl (bey m (ptss.map fun pts => Tp p pts i)) (x - (pts.length - m)):=fun i x => by
   have : bey m ((pts :: ptss).map fun pts => Tp p pts i) = (Tp p pts i).drop m ++ bey m (ptss.map fun pts => Tp p pts i):=rfl
   rw [this,zgT,hl,zk1]
  constructor
  ·intro h q hq y hy
   rcases (List.mem_cons.mp hq) with rfl | hq
   ·by_cases hyl : y < q.length
    ·have:=h (y - m)
     refine Cg.trans (Cg.of_eq (zaj fun i _ => ?_)) this
     rw [hb,if_pos (by omega),show m + (y - m) = y by omega]
    ·refine Cg.of_eq (zbe fun i _ => ?_)
     rw [zaK (by unfold Tp; rw [zcx hp (hP q List.mem_cons_self)]; omega),Int.mul_zero]
   ·refine ih.mp (fun x => ?_) q hq y hy
    have:=h (pts.length - m + x)
    refine Cg.trans (Cg.of_eq (zaj fun i _ => ?_)) this
    rw [hb,if_neg (by omega),show pts.length - m + x - (pts.length - m) = x by omega]
  ·intro h x
   by_cases hx : x < pts.length - m
   ·have:=h pts List.mem_cons_self (m + x) (by omega)
    refine Cg.trans (Cg.of_eq (zaj fun i _ => ?_)) this
    rw [hb,if_pos hx]
   ·have:=ih.mpr (fun q hq => h q (List.mem_cons_of_mem _ hq)) (x - (pts.length - m))
    refine Cg.trans (Cg.of_eq (zaj fun i _ => ?_)) this
    rw [hb,if_neg hx]
def Good (p : Int) (k e : Nat) (ptss : List (List (Int × Int))) (l : List Int) : Prop:=∀ pts ∈ ptss,∃ right,IsP p (k + e) right ∧ ∀ a ∈ pts,zi p a.1 right = zi p a.1 l * a.2 % p
theorem zjV (q : List Int) (m x : Nat) : gl (szd q m) x = if x < m then gl q x else 0:=by
 unfold szd
 by_cases h : x < m
 ·rw [if_pos h]
  unfold gl
  rw [List.getD_eq_getElem?_getD,List.getElem?_take_of_lt h,← List.getD_eq_getElem?_getD]
  show gl (q ++ List.replicate m 0) x = _
  rw [zgT]
  split
  ·rfl
  ·show gl (List.replicate m 0) _ = q.getD x 0
   rw [show q.getD x 0 = gl q x from rfl,zaK (w:=q) (by omega)]
   unfold gl
   rw [List.getD_eq_getElem?_getD,List.getElem?_replicate]
   split <;> rfl
 ·rw [if_neg h]
  exact zaK (by rw [List.length_take]; omega)
theorem zhQ {p : Int} (p0 : 0 < p) {q : List Int} (hq : ∀ c ∈ q,0 ≤ c ∧ c < p) (m : Nat) : IsP p m (szd q m):=by
 unfold szd
 refine ⟨by rw [List.length_take,List.length_append,List.length_replicate]; omega,fun c hc => ?_⟩
 rcases List.mem_append.mp (List.mem_of_mem_take hc) with h | h
 ·exact hq c h
 ·rw [List.eq_of_mem_replicate h]; omega
theorem zgl {p : Int} (p0 : 0 < p) {q : List Int} {m : Nat} (hz : ∀ y,m ≤ y → gl q y = 0) (x : Int) : zi p x (szd q m) = zi p x q:=by
 refine Cg.eq ?_ (z9 p0 _) (zaa p0 _) (z9 p0 _) (zaa p0 _)
 refine (zaE (n:=q.length + m) (by unfold szd; rw [List.length_take,List.length_append,List.length_replicate]; omega)).trans (Cg.trans (Cg.of_eq (zaj fun i _ => ?_)) (zaE (n:=q.length + m) (by omega)).symm)
 rw [zjV]
 by_cases h : i < m
 ·rw [if_pos h]
 ·rw [if_neg h,hz i (by omega)]
theorem zjW {p : Int} (hp : p ∈ zm) {k e : Nat} {pts : List (Int × Int)} (hP : Pts p pts) {l : List Int} (hz : ∀ y,k + e ≤ y → gl (thr p (tmP p l pts)) y = 0) :
  IsP p (k + e) (szd (thr p (tmP p l pts)) (k + e)) ∧ ∀ a ∈ pts,zi p a.1 (szd (thr p (tmP p l pts)) (k + e)) = zi p a.1 l * a.2 % p:=by
 have rp:=zo hp
 refine ⟨zhQ (by omega) (zjU hp hP l) _,fun a ha => ?_⟩
 rw [zgl (by omega) hz]
 exact zlq hp hP l ha
theorem ziC {p : Int} (hp : p ∈ zm) {k e : Nat} {pts : List (Int × Int)} (hP : Pts p pts) {l right : List Int} (hr : IsP p (k + e) right) (hev : ∀ a ∈ pts,zi p a.1 right = zi p a.1 l * a.2 % p) (y : Nat) (hy : k + e ≤ y) : gl (thr p (tmP p l pts)) y = 0:=by
 have rp:=zo hp
 by_cases hyl : y < pts.length
 ·have e1 : right ++ List.replicate (pts.length - (k + e)) 0 = thr p (tmP p l pts):=zfn hp (zcf (by omega) hP) (by unfold tmP; rw [List.length_map,List.length_append,List.length_replicate,hr.1]; omega) (fun c hc => by
   rcases List.mem_append.mp hc with h | h
   ·exact hr.2 c h
   ·rw [List.eq_of_mem_replicate h]; omega) fun a ha => by
    obtain ⟨b,hb,rfl⟩:=List.mem_map.mp ha
    rw [zfQ]
    exact hev b hb
  rw [← e1,zgT,hr.1,if_neg (by omega)]
  unfold gl
  rw [List.getD_eq_getElem?_getD,List.getElem?_replicate]
  split <;> rfl
 ·exact zaK (by rw [zcx hp hP]; omega)
def zaR (p : Int) (k e : Nat) (ptss : List (List (Int × Int))) : List (List Int):=(List.range (e + 1)).map fun i => bey (k + e) (ptss.map fun pts => Tp p pts i)
theorem zk2 {p : Int} {k e : Nat} {ptss : List (List (Int × Int))} {i : Nat} (hi : i < e + 1) (x : Nat) : vx (zaR p k e ptss) i x = gl (bey (k + e) (ptss.map fun pts => Tp p pts i)) x:=by
 unfold vx zaR
 rw [List.getD_eq_getElem?_getD,List.getElem?_map,List.getElem?_range hi]
 rfl
theorem zdD {p : Int} (hp : p ∈ zm) {m i : Nat} : ∀ {ptss : List (List (Int × Int))},(∀ pts ∈ ptss,Pts p pts) → (bey m (ptss.map fun pts => Tp p pts i)).length = (ptss.map fun pts => pts.length - m).sum
 | [],_ => rfl
 | pts :: ptss,hP => by
  have : bey m ((pts :: ptss).map fun pts => Tp p pts i) = (Tp p pts i).drop m ++ bey m (ptss.map fun pts => Tp p pts i):=rfl
  rw [this,List.length_append,zdD hp fun q hq => hP q (List.mem_cons_of_mem _ hq),List.length_drop,List.map_cons,List.sum_cons]
  unfold Tp
  rw [zcx hp (hP pts List.mem_cons_self)]
def zb5 (k e : Nat) (ptss : List (List (Int × Int))) : Nat:=(ptss.map fun pts => pts.length - (k + e)).sum
theorem zk3 {p : Int} (hp : p ∈ zm) {k e : Nat} {ptss : List (List (Int × Int))} (hP : ∀ pts ∈ ptss,Pts p pts) : ∀ v ∈ zaR p k e ptss,v.length = zb5 k e ptss ∧ ∀ c ∈ v,0 ≤ c ∧ c < p:=fun v hv => by
 obtain ⟨i,_,rfl⟩:=List.mem_map.mp hv
 refine ⟨zdD hp hP,fun c hc => ?_⟩
 obtain ⟨r,hr,hcr⟩:=List.mem_flatMap.mp hc
 obtain ⟨pts,hpts,rfl⟩:=List.mem_map.mp hr
 exact zjU hp (hP pts hpts) _ c (List.mem_of_mem_drop hcr)
theorem zlr {p : Int} (hp : p ∈ zm) {k e : Nat} {ptss : List (List (Int × Int))} (hP : ∀ pts ∈ ptss,Pts p pts) {c : Nat → Int} :
  (∀ x,x < zb5 k e ptss → Cg p (sm (zaR p k e ptss).length fun i => c i * vx (zaR p k e ptss) i x) 0) ↔ ∀ pts ∈ ptss,∀ y,k + e ≤ y → Cg p (sm (e + 1) fun i => c i * gl (Tp p pts i) y) 0:=by
 have hn : (zaR p k e ptss).length = e + 1:=by unfold zaR; rw [List.length_map,List.length_range]
 rw [hn,← zhP hp hP]
 have hs : ∀ x,sm (e + 1) (fun i => c i * vx (zaR p k e ptss) i x) = sm (e + 1) fun i => c i * gl (bey (k + e) (ptss.map fun pts => Tp p pts i)) x:=fun x => zaj fun i hi => by rw [zk2 hi]
 constructor
 ·intro h x
  by_cases hx : x < zb5 k e ptss
  ·rw [← hs]; exact h x hx
  ·refine Cg.of_eq (zbe fun i _ => ?_)
   rw [zaK (by rw [zdD hp hP]; exact Nat.le_of_not_lt hx),Int.mul_zero]
 ·intro h x _
  rw [hs]
  exact h x
theorem zjX {p : Int} (hp : p ∈ zm) {k e : Nat} {ptss : List (List (Int × Int))} (hP : ∀ pts ∈ ptss,Pts p pts) (hI : Indep p (zb5 k e ptss) (zaR p k e ptss)) {l : List Int} (hl : IsP p (e + 1) l) (hg : Good p k e ptss l) : ∀ i,gl l i = 0:=by
 have rp:=zo hp
 have hn : (zaR p k e ptss).length = e + 1:=by unfold zaR; rw [List.length_map,List.length_range]
 intro i
 by_cases hi : i < e + 1
 ·have h:=hI (gl l) ((zlr hp hP).mpr fun pts hpts y hy => ?_) i (by omega)
  ·obtain ⟨g0,g1⟩:=zcw (show 0 < p by omega) hl.2 i
   exact h.eq g0 g1 (Int.le_refl _) (by omega)
  ·obtain ⟨right,h1,h2⟩:=hg pts hpts
   refine (zhO hp (hP pts hpts) (by rw [hl.1]; exact Nat.le_refl _) y).symm.trans (Cg.of_eq ?_)
   exact ziC hp (hP pts hpts) h1 h2 y hy
 ·exact zaK (by rw [hl.1]; omega)
theorem zjY {p : Int} (hp : p ∈ zm) {k e : Nat} {ptss : List (List (Int × Int))} (hP : ∀ pts ∈ ptss,Pts p pts) {c : List Int} (hc : c.length ≤ e + 1) (hD : Dep p (zb5 k e ptss) (zaR p k e ptss) c) : ∀ pts ∈ ptss,∀ y,k + e ≤ y → gl (thr p (tmP p c pts)) y = 0:=fun pts hpts y hy => by
 have rp:=zo hp
 have h:=(zlr hp hP).mp hD pts hpts y hy
 obtain ⟨g0,g1⟩:=zcw (show 0 < p by omega) (zjU hp (hP pts hpts) c) y
 exact ((zhO hp (hP pts hpts) hc y).trans h).eq g0 g1 (Int.le_refl _) (by omega)
theorem zjZ {p : Int} (hp : p ∈ zm) {k e n : Nat} {ptss : List (List (Int × Int))} (hn : ∀ pts ∈ ptss,pts.length ≤ n) (hI : Indep p (zb5 k e ptss) (zaR p k e ptss)) : k + e < n:=by
 have rp:=zo hp
 refine Nat.lt_of_not_le fun h => ?_
 have h0 : zb5 k e ptss = 0:=by
  unfold zb5
  refine List.sum_eq_zero_iff_forall_eq_nat.mpr fun x hx => ?_
  obtain ⟨pts,hpts,rfl⟩:=List.mem_map.mp hx
  have:=hn pts hpts
  omega
 have hl : (zaR p k e ptss).length = e + 1:=by unfold zaR; rw [List.length_map,List.length_range]
 have:=hI (fun _ => 1) (fun x hx => by omega) 0 (by omega)
 have:=this.eq (by omega) (by omega) (Int.le_refl _) (by omega)
 omega
structure LocOk (p : Int) (k : Nat) (ptss : List (List (Int × Int))) (e : Nat) (left : List Int) (rights : List (List Int)) : Prop where
 lf : IsP p (e + 1) left
 nz : ∃ i,gl left i ≠ 0
 rt : rights = ptss.map fun pts => szd (thr p (tmP p left pts)) (k + e)
 ok : ∀ pts ∈ ptss,IsP p (k + e) (szd (thr p (tmP p left pts)) (k + e)) ∧ ∀ a ∈ pts,zi p a.1 (szd (thr p (tmP p left pts)) (k + e)) = zi p a.1 left * a.2 % p
 mn : ∀ e',e' < e → ∀ l,IsP p (e' + 1) l → Good p k e' ptss l → ∀ i,gl l i = 0
theorem zk4 {p : Int} (p0 : 0 < p) {c : List Int} {m : Nat} (hc : c.length ≤ m) (pts : List (Int × Int)) : tmP p (szd c m) pts = tmP p c pts:=by
 unfold tmP
 refine List.map_congr_left fun a _ => ?_
 rw [zgl p0 fun y hy => zaK (by omega)]
theorem zmh {p : Int} (hp : p ∈ zm) {k e : Nat} {ptss : List (List (Int × Int))} (hP : ∀ pts ∈ ptss,Pts p pts) {c : List Int} {m : Nat} (hc : IsP p (m + 1) c) (hm : m < e + 1) (h1 : gl c m = 1) (hD : Dep p (zb5 k e ptss) (zaR p k e ptss) c)
  (hmin : ∀ e',e' < e → Indep p (zb5 k e' ptss) (zaR p k e' ptss)) : LocOk p k ptss e (szd c (e + 1)) (ptss.map fun pts => szd (thr p (tmP p (szd c (e + 1)) pts)) (k + e)):=by
 have rp:=zo hp
 have hcl : c.length ≤ e + 1:=by rw [hc.1]; omega
 refine ⟨zhQ (by omega) hc.2 _,⟨m,by rw [zjV,if_pos hm,h1]; decide⟩,rfl,fun pts hpts => ?_,fun e' he' l hl hg => zjX hp hP (hmin e' he') hl hg⟩
 refine zjW hp (hP pts hpts) fun y hy => ?_
 rw [zk4 (by omega) hcl]
 exact zjY hp hP hcl hD pts hpts y hy
theorem zbx.put {H : Hp} {rs : List Addr} {qs : List (List Int)} {f : Addr} {xs : List V} {o : HO} (h : zbx H rs qs) (hf : H f = some (.lst xs)) : zbx (upd H f o) rs qs:=Paired.mono (fun a q z => by
 have : a ≠ f:=fun e => by rw [e,hf] at z; cases z
 show upd H f o a = _
 rw [zr this]
 exact z) h
def znl (n : Nat) (H : Hp) : List Addr → List (List (Option Int)) → Prop:=Paired fun b rw => H b = some (.lst (rw.map enc)) ∧ rw.length = n
def zfw (H : Hp) : List Addr → List (List (Int × Int)) → Prop:=Paired fun b pts => ∃ bs,H b = some (.lst (bs.map V.ref)) ∧ PtB H bs pts
theorem zfw.same {H H' : Hp} (s : zy H H') {bs : List Addr} {ptss : List (List (Int × Int))} (h : zfw H bs ptss) : zfw H' bs ptss:=Paired.mono (fun _ _ ⟨bs,z,z'⟩ => ⟨bs,s _ _ z,z'.same s⟩) h
def NdA (p : Int) (ptss : List (List (Int × Int))) (na : Addr) (H : Hp) : List Addr → List Nat → Prop:=Paired fun b i => ∃ us,H b = some (.lst (us.map V.ref)) ∧ b ≠ na ∧ zbx H us (ptss.map fun pts => Tp p pts i)
theorem NdA.same {p : Int} {ptss : List (List (Int × Int))} {na : Addr} {H H' : Hp} (s : zy H H') {bs : List Addr} {is : List Nat} (h : NdA p ptss na H bs is) : NdA p ptss na H' bs is:=Paired.mono (fun _ _ ⟨us,z,z',z2⟩ => ⟨us,s _ _ z,z',z2.same s⟩) h
theorem NdA.put {p : Int} {ptss : List (List (Int × Int))} {na : Addr} {H : Hp} {bs : List Addr} {is : List Nat} {xs : List V} {o : HO} (h : NdA p ptss na H bs is) (hf : H na = some (.lst xs)) : NdA p ptss na (upd H na o) bs is:=Paired.mono (fun _ _ ⟨us,z,z',z2⟩ => ⟨us,by rw [zr z']; exact z,z',z2.put hf⟩) h
theorem zgU {α : Type} {f : α → Nat} {b : Nat} : ∀ {l : List α},(∀ x ∈ l,f x ≤ b) → (l.map f).sum ≤ l.length * b
 | [],_ => by simp
 | x :: l,h => by
  have ih:=zgU (f:=f) (b:=b) (l:=l) fun y hy => h y (List.mem_cons_of_mem _ hy)
  have:=h x List.mem_cons_self
  rw [List.map_cons,List.sum_cons,List.length_cons,Nat.succ_mul]
  omega
def zc7 (K : PySem.W.Frag) : Sp:=fun vs H Q _ => ∃ (c tt ra : Addr) (p : Int) (k : Nat) (pl : List Int) (rbs : List Addr) (rws : List (List (Option Int))),vs = [.ref c,.ref ra] ∧ zaU H c tt p k pl ∧ SqL K H ra (rbs.map V.ref) ∧ znl pl.length H rbs rws ∧ rws.length ≤ 10 ∧ pl.length ≤ 16 ∧ p ∈ zm ∧ pl.Nodup ∧ (∀ x ∈ pl,0 ≤ x ∧ x < p) ∧ (∀ rw ∈ rws,∀ z,some z ∈ rw → 0 ≤ z ∧ z < p) ∧ 1 ≤ k ∧ k ≤ 100 ∧
 ∀ (z la l3 : Addr) (us : List Addr) (e : Nat) (left : List Int) (rights : List (List Int)) (H' : Hp),zy H H' → H' z = some (.tup [.int (e : Int),.ref la,.ref l3]) → H' la = some (.tup (left.map V.int)) → H' l3 = some (.lst (us.map V.ref)) → zbx H' us rights → e ≤ 16 → LocOk p k (rws.map (hps pl)) e left rights → Q (.ref z) H'
def zeq (K : PySem.W.Frag) : Sp:=fun vs H Q _ => ∃ (c tt r : Addr) (p : Int) (k : Nat) (pl : List Int) (rw : List (Option Int)),vs = [.ref c,.ref r] ∧ zaU H c tt p k pl ∧ H r = some (.lst (rw.map enc)) ∧ rw.length = pl.length ∧ pl.length ≤ 16 ∧ p ∈ zm ∧ pl.Nodup ∧ (∀ x ∈ pl,0 ≤ x ∧ x < p) ∧ (∀ z,some z ∈ rw → 0 ≤ z ∧ z < p) ∧ 1 ≤ k ∧ k ≤ 100 ∧
 ∀ (z la rb : Addr) (e : Nat) (left right : List Int) (H' : Hp),zy H H' → H' z = some (.tup [.int (e : Int),.ref la,.ref rb]) → H' la = some (.tup (left.map V.int)) → H' rb = some (.tup (right.map V.int)) → e ≤ 16 → LocOk p k [hps pl rw] e left [right] → Q (.ref z) H'
end My
end
section
set_option maxHeartbeats 3996000
namespace L2
open PySem PySem.Spec PyProof.Rows
end L2
end
section
set_option maxHeartbeats 3999000
namespace My
open PySem L2 PyProof.Rows
end My
end
section
set_option maxHeartbeats 3999000
namespace My
open PySem L2 PyProof.Rows
theorem zd9 {p z : Int} (f : List Int) : ∀ i,Cg p (zi p z (List.replicate i 0 ++ f)) (z ^ i * zi p z f)
 | 0 => Cg.of_eq (by rw [Int.pow_zero,Int.one_mul]; rfl)
 | i + 1 => by
  have h : Cg p (zi p z (List.replicate (i + 1) 0 ++ f)) (0 + z * zi p z (List.replicate i 0 ++ f)):=zL p z 0 _
  refine h.trans (((Cg.refl p 0).add ((Cg.refl p z).mul (zd9 f i))).trans (Cg.of_eq ?_))
  rw [Int.pow_succ]
  grind
def zc8 (f left : List Int) (n N : Nat) : List Int:=(List.range n).map fun t => sm N fun i => gl left i * gl (List.replicate i 0 ++ f) t
theorem zj0 {p z : Int} {f left : List Int} {k e : Nat} (hf : f.length ≤ k) (hl : left.length ≤ e + 1) : Cg p (zi p z (zc8 f left (k + e) (e + 1))) (zi p z left * zi p z f):=by
 have hC : (zc8 f left (k + e) (e + 1)).length = k + e:=by unfold zc8; rw [List.length_map,List.length_range]
 have hg : ∀ t,t < k + e → gl (zc8 f left (k + e) (e + 1)) t = sm (e + 1) fun i => gl left i * gl (List.replicate i 0 ++ f) t:=fun t ht => zbw (by unfold zc8; rw [List.getElem?_map,List.getElem?_range ht]; rfl)
 refine (zaE (n:=k + e) (by omega)).trans ?_
 have h1 : sm (k + e) (fun t => gl (zc8 f left (k + e) (e + 1)) t * z ^ t) = sm (k + e) fun t => sm (e + 1) fun i => gl left i * (gl (List.replicate i 0 ++ f) t * z ^ t):=zaj fun t ht => by
  rw [hg t ht,Int.mul_comm,← zbN]
  exact zaj fun i _ => by grind
 rw [h1,zfs]
 have h2 : Cg p (sm (e + 1) fun i => sm (k + e) fun t => gl left i * (gl (List.replicate i 0 ++ f) t * z ^ t)) (sm (e + 1) fun i => zi p z f * (gl left i * z ^ i)):=zeT fun i hi => by
  rw [zbN]
  have e1 : Cg p (sm (k + e) fun t => gl (List.replicate i 0 ++ f) t * z ^ t) (zi p z (List.replicate i 0 ++ f)):=(zaE (by rw [List.length_append,List.length_replicate]; omega)).symm
  exact ((Cg.refl p (gl left i)).mul (e1.trans (zd9 f i))).trans (Cg.of_eq (by grind))
 refine h2.trans ?_
 rw [zbN]
 exact ((Cg.refl p _).mul (zaE hl).symm).trans (Cg.of_eq (Int.mul_comm _ _))
theorem zeW {p z : Int} : ∀ q : List Int,Cg p (zi p z (q.map (· % p))) (zi p z q)
 | [] => Cg.refl _ _
 | c :: q => (zL p z (c % p) _).trans (((Cg.emod p c).add ((Cg.refl p z).mul (zeW q))).trans (zL p z c q).symm)
theorem zea {p z : Int} : ∀ {q : List Int},(∀ c ∈ q,Cg p c 0) → Cg p (zi p z q) 0
 | [],_ => Cg.refl _ _
 | c :: q,h => (zL p z c q).trans (((h c List.mem_cons_self).add ((Cg.refl p z).mul (zea fun d hd => h d (List.mem_cons_of_mem _ hd)))).trans (Cg.of_eq (by omega)))
def zgm (z : Int) : List Int → Int
 | [] => 1
 | x :: xs => (z - x) * zgm z xs
theorem zeb {z : Int} : ∀ {xs : List Int},z ∈ xs → zgm z xs = 0
 | [],h => by cases h
 | x :: xs,h => by
  show (z - x) * zgm z xs = 0
  rcases (List.mem_cons.mp h) with rfl | h
  ·rw [Int.sub_self,Int.zero_mul]
  ·rw [zeb h,Int.mul_zero]
theorem zgn {p z : Int} (hp : p ∈ zm) (hz : 0 ≤ z ∧ z < p) : ∀ {xs : List Int},(∀ x ∈ xs,0 ≤ x ∧ x < p ∧ x ≠ z) → ¬ Cg p (zgm z xs) 0
 | [],_,h => by
  have rp:=zo hp
  have:=Cg.eq (a:=1) (b:=0) h (by omega) (by omega) (by omega) (by omega)
  omega
 | x :: xs,hx,h => by
  have rp:=zo hp
  obtain ⟨x0,x1,xz⟩:=hx x List.mem_cons_self
  rcases zdg hp h with h | h
  ·have h2 : Cg p z x:=by
    have:=h.add (Cg.refl p x)
    exact (Cg.of_eq (by omega)).trans (this.trans (Cg.of_eq (by omega)))
   exact xz (h2.eq hz.1 hz.2 x0 x1).symm
  ·exact zgn hp hz (fun y hy => hx y (List.mem_cons_of_mem _ hy)) h
def zcr (p : Int) : List Int → List Int
 | [] => [1]
 | x :: xs => zb1 p x (zcr p xs)
theorem zfx {p z : Int} : ∀ xs : List Int,Cg p (zi p z (zcr p xs)) (zgm z xs)
 | [] => by
  have h : Cg p (zi p z [1]) (1 + z * 0):=zL p z 1 []
  exact h.trans (Cg.of_eq (by show 1 + z * 0 = 1; omega))
 | x :: xs => (zhb _).trans ((Cg.refl p _).mul (zfx xs))
theorem zec {p : Int} (hp : p ∈ zm) : ∀ xs : List Int,IsP p (xs.length + 1) (zcr p xs)
 | [] => ⟨rfl,fun c hc => by
  have rp:=zo hp
  obtain rfl : c = 1:=by simpa [zcr] using hc
  omega⟩
 | x :: xs => by
  have rp:=zo hp
  exact ⟨by show (zb1 p x (zcr p xs)).length = _; rw [zcY,(zec hp xs).1]; rfl,zja (by omega) _⟩
end My
end
section
set_option maxHeartbeats 3999000
namespace My
open PySem L2 PyProof.Rows
def top (i : Nat) : Stmt:=PySem.Challenge.pw_slipcurve_k08_whole_halves.main.body.getD i (.Pass ⟨0,0,0,0⟩)
abbrev zbO : Stmt:=top 1
abbrev zcg : Stmt:=top 2
abbrev zaS : Stmt:=top 3
abbrev zed : Stmt:=top 4
abbrev zch : Stmt:=top 5
abbrev zaA : Stmt:=top 10
abbrev zee : Stmt:=top 11
abbrev zbg : Stmt:=top 13
abbrev zaF : Stmt:=top 14
abbrev zbk : Stmt:=top 15
abbrev zby : Stmt:=top 17
abbrev zac : Stmt:=top 18
abbrev zas : Stmt:=top 20
abbrev s_beyond : Stmt:=top 21
abbrev zdE : Stmt:=top 22
abbrev zT : Stmt:=top 23
abbrev zbf : Stmt:=top 25
abbrev zef : Stmt:=top 26
abbrev zcT : Stmt:=top 28
abbrev zci : Stmt:=top 29
abbrev zb6 : Stmt:=top 30
abbrev zcj : Stmt:=top 31
abbrev zaB : Stmt:=top 32
abbrev zcU : Stmt:=top 33
abbrev zbz : Stmt:=top 34
abbrev za6 : Stmt:=top 35
abbrev zck : Stmt:=top 36
abbrev zb7 : Stmt:=top 37
structure Adr where
 SlipError : Addr
 TooFew : Addr
 value_at : Addr
 inverse : Addr
 times_root : Addr
 bent : Addr
 through : Addr
 heard_points : Addr
 fits : Addr
 choices : Addr
 all_through : Addr
 all_near : Addr
 without : Addr
 first_relation : Addr
 times_entries : Addr
 beyond : Addr
 sized : Addr
 joint_locator : Addr
 locator_of : Addr
 half : Addr
 l_cell : Addr
 l_draws : Addr
 l_code : Addr
 l_value : Addr
 l_polynomial : Addr
 l_row : Addr
 l_fits : Addr
 l_planted : Addr
 l_times : Addr
 law : Addr
structure Txt (K : PySem.W.Frag) (mg : Str → Option Value) (t : Adr) : Prop where
 len_ : mg "len" = none
 range_ : mg "range" = none
 list_ : mg "list" = none
 tuple_ : mg "tuple" = none
 min_ : mg "min" = none
 max_ : mg "max" = none
 isinstance_ : mg "isinstance" = none
 zip_ : mg "zip" = none
 enumerate_ : mg "enumerate" = none
 reversed_ : mg "reversed" = none
 sorted_ : mg "sorted" = none
 ValueError_ : mg "ValueError" = none
 x_SlipError : mg "SlipError" = some (.ref t.SlipError)
 x_TooFew : mg "TooFew" = some (.ref t.TooFew)
 sb : PySem.W.mroIn K t.SlipError (.type "BaseException") = some true
 m_value_at : mg "value_at" = some (.ref t.value_at)
 m_inverse : mg "inverse" = some (.ref t.inverse)
 m_times_root : mg "times_root" = some (.ref t.times_root)
 m_bent : mg "bent" = some (.ref t.bent)
 m_through : mg "through" = some (.ref t.through)
 m_heard_points : mg "heard_points" = some (.ref t.heard_points)
 m_fits : mg "fits" = some (.ref t.fits)
 m_choices : mg "choices" = some (.ref t.choices)
 m_all_through : mg "all_through" = some (.ref t.all_through)
 m_all_near : mg "all_near" = some (.ref t.all_near)
 m_without : mg "without" = some (.ref t.without)
 m_first_relation : mg "first_relation" = some (.ref t.first_relation)
 m_times_entries : mg "times_entries" = some (.ref t.times_entries)
 m_beyond : mg "beyond" = some (.ref t.beyond)
 m_sized : mg "sized" = some (.ref t.sized)
 m_joint_locator : mg "joint_locator" = some (.ref t.joint_locator)
 m_locator_of : mg "locator_of" = some (.ref t.locator_of)
 m_half : mg "half" = some (.ref t.half)
 m_l_cell : mg "_law_cell" = some (.ref t.l_cell)
 m_l_draws : mg "_law_draws" = some (.ref t.l_draws)
 m_l_code : mg "_law_code" = some (.ref t.l_code)
 m_l_value : mg "_law_value" = some (.ref t.l_value)
 m_l_polynomial : mg "_law_polynomial" = some (.ref t.l_polynomial)
 m_l_row : mg "_law_row" = some (.ref t.l_row)
 m_l_fits : mg "_law_fits" = some (.ref t.l_fits)
 m_l_planted : mg "_law_planted" = some (.ref t.l_planted)
 m_l_times : mg "_law_times" = some (.ref t.l_times)
 f_value_at : ∃ fd,Fun K "value_at" "value_at" zbO t.value_at fd ∧ Binds K fd ["p","polynomial","x"] []
 f_inverse : ∃ fd,Fun K "inverse" "inverse" zcg t.inverse fd ∧ Binds K fd ["p","number"] []
 f_times_root : ∃ fd,Fun K "times_root" "times_root" zaS t.times_root fd ∧ Binds K fd ["p","polynomial","root"] []
 f_bent : ∃ fd,Fun K "bent" "bent" zed t.bent fd ∧ Binds K fd ["p","polynomial","vanishing","point"] []
 f_through : ∃ fd,Fun K "through" "through" zch t.through fd ∧ Binds K fd ["p","points"] []
 f_heard_points : ∃ fd,Fun K "heard_points" "heard_points" zaA t.heard_points fd ∧ Binds K fd ["code","row"] []
 f_fits : ∃ fd,Fun K "fits" "fits" zee t.fits fd ∧ Binds K fd ["code","row","polynomial"] []
 f_choices : ∃ fd,Fun K "choices" "choices" zbg t.choices fd ∧ Binds K fd ["things","many"] []
 f_all_through : ∃ fd,Fun K "all_through" "all_through" zaF t.all_through fd ∧ Binds K fd ["code","points"] []
 f_all_near : ∃ fd,Fun K "all_near" "all_near" zbk t.all_near fd ∧ Binds K fd ["code","row","t"] []
 f_without : ∃ fd,Fun K "without" "without" zby t.without fd ∧ Binds K fd ["p","vector","times","other"] []
 f_first_relation : ∃ fd,Fun K "first_relation" "first_relation" zac t.first_relation fd ∧ Binds K fd ["p","vectors"] []
 f_times_entries : ∃ fd,Fun K "times_entries" "times_entries" zas t.times_entries fd ∧ Binds K fd ["p","left","points"] []
 f_beyond : ∃ fd,Fun K "beyond" "beyond" s_beyond t.beyond fd ∧ Binds K fd ["rights","many"] []
 f_sized : ∃ fd,Fun K "sized" "sized" zdE t.sized fd ∧ Binds K fd ["polynomial","many"] []
 f_joint_locator : ∃ fd,Fun K "joint_locator" "joint_locator" zT t.joint_locator fd ∧ Binds K fd ["code","rows"] []
 f_locator_of : ∃ fd,Fun K "locator_of" "locator_of" zbf t.locator_of fd ∧ Binds K fd ["code","row"] []
 f_half : ∃ fd,Fun K "half" "half" zef t.half fd ∧ Binds K fd ["code","row"] []
 f_l_cell : ∃ fd,Fun K "_law_cell" "_law_cell" zcT t.l_cell fd ∧ Binds K fd ["script","k"] []
 f_l_draws : ∃ fd,Fun K "_law_draws" "_law_draws" zci t.l_draws fd ∧ Binds K fd ["script","k","many","base"] []
 f_l_code : ∃ fd,Fun K "_law_code" "_law_code" zb6 t.l_code fd ∧ Binds K fd ["script","at","most_k","most_n"] []
 f_l_value : ∃ fd,Fun K "_law_value" "_law_value" zcj t.l_value fd ∧ Binds K fd ["p","polynomial","x"] []
 f_l_polynomial : ∃ fd,Fun K "_law_polynomial" "_law_polynomial" zaB t.l_polynomial fd ∧ Binds K fd ["draws","p","k"] []
 f_l_row : ∃ fd,Fun K "_law_row" "_law_row" zcU t.l_row fd ∧ Binds K fd ["script","at","code"] []
 f_l_fits : ∃ fd,Fun K "_law_fits" "_law_fits" zbz t.l_fits fd ∧ Binds K fd ["code","row","polynomial"] []
 f_l_planted : ∃ fd,Fun K "_law_planted" "_law_planted" za6 t.l_planted fd ∧ Binds K fd ["script","at","code"] []
 f_l_times : ∃ fd,Fun K "_law_times" "_law_times" zck t.l_times fd ∧ Binds K fd ["p","one","other"] []
section
variable {P : Program} {w : World} {K : PySem.W.Frag} {mg : Str → Option Value} {base : Heap} {t : Adr}
theorem ziD : FnScope ["script","k"] ["script","k"] (zj zcT):=⟨rfl,rfl,rfl,by decide +kernel,rfl,by decide +kernel,by decide +kernel⟩
theorem ziE {fd : FuncData} (T : Txt K mg t) (F : Fun K "_law_cell" "_law_cell" zcT t.l_cell fd) : FnOk P w K mg base CX0 1 t.l_cell fd ["script","k"] (zie K):=by
 refine F.ok ziD (fun vs H Q E h => ?_) (fun cdv A outer s H vs Q E hr h => ?_)
 ·obtain ⟨a,ns,k,rfl,_⟩:=h; rfl
 ·obtain ⟨a,ns,k,rfl,hS,hlen,k0,k1,q⟩:=h
  refine ⟨_,(@zd _ _ _ _ _ (@zaT _ _ _ _ _ _ _ _ (@zE _ _ _ _ _ _ _ _ (@zfJ _) (@pvx _ 1 _ _ rfl) (@zu _ _ _ _ _ _ _ _ _ (@zq _) (by rfl) T.len_ boot_len (@za _ _ _ _ _ (@pvx _ 0 _ _ rfl) (@ze _) (by rfl)) (by decide) (by decide) (by rfl) (by rfl)) (zM _)) (@zn _ _ _ (@zI _ _ _ _ (@zH _ _ _ _ _ _ _ (@zw _) (@pvx _ 0 _ _ rfl) (@pvx _ 1 _ _ rfl) (fun _ _ => rfl)))) (@zah _)) (by exact (@zd _ _ _ _ _ (@zaT _ _ _ _ _ _ _ _ (@zE _ _ _ _ _ _ _ _ (@zdd _) (@zu _ _ _ _ _ _ _ _ _ (@zq _) (by rfl) T.len_ boot_len (@za _ _ _ _ _ (@pvx _ 0 _ _ rfl) (@ze _) (by rfl)) (by decide) (by decide) (by rfl) (by rfl)) (@zf _ _ _ _) (zM _)) (@zn _ _ _ (@zI _ _ _ _ (@zg _ _ _ _ _ _ _ _ (@zD _) (@zg _ _ _ _ _ _ _ _ (@zS _) (@zf _ _ _ _) (@pvx _ 1 _ _ rfl)) (@zf _ _ _ _)))) (@zah _)) (by exact (@zn _ _ _ (@zI _ _ _ _ (@zg _ _ _ _ _ _ _ _ (@zD _) (@zg _ _ _ _ _ _ _ _ (@zA _) (@zH _ _ _ _ _ _ _ (@zw _) (@pvx _ 0 _ _ rfl) (@zg _ _ _ _ _ _ _ _ (@zA _) (@pvx _ 1 _ _ rfl) (@zu _ _ _ _ _ _ _ _ _ (@zq _) (by rfl) T.len_ boot_len (@za _ _ _ _ _ (@pvx _ 0 _ _ rfl) (@ze _) (by rfl)) (by decide) (by decide) (by rfl) (by rfl))) (fun _ _ => rfl)) (@zf _ _ _ _)) (@zg _ _ _ _ _ _ _ _ (@zS _) (@zf _ _ _ _) (@pvx _ 1 _ _ rfl))))))))),?_⟩
  refine ⟨_,rfl,_,rfl,a,_,rfl,.inl hS,_,_,rfl,rfl,_,rfl,?_⟩; rw [List.length_map]
  refine zay (fun h => ?_) (fun h => ?_)
  ·have h : k < (ns.length : Int):=by simpa using h
   obtain ⟨c,hc⟩:=zcG k0 h
   exact ⟨_,rfl,_,rfl,a,_,k,_,rfl,rfl,hS,hc,q c⟩
  ·have h : ¬ k < (ns.length : Int):=by simpa using h
   refine ⟨_,rfl,a,_,rfl,.inl hS,rfl,_,rfl,?_⟩
   rw [List.length_map]
   refine zay (fun h2 => ?_) (fun h2 => ?_)
   ·exact ⟨_,rfl,_,_,rfl,rfl,.inl ⟨by decide,by decide⟩,_,_,rfl,rfl,q _⟩
   ·have h2 : ¬ V.int (ns.length : Int) = V.int 0:=by simpa using h2
    have hpos : 0 < (ns.length : Int):=by
     have : (ns.length : Int) ≠ 0:=fun z => h2 (by rw [z])
     omega
    have m0:=Int.emod_nonneg k (show (ns.length : Int) ≠ 0 by omega)
    have m1:=Int.emod_lt_of_pos k hpos
    obtain ⟨c,hc⟩:=zcG m0 m1
    refine ⟨_,rfl,_,rfl,_,rfl,a,_,rfl,.inl hS,_,_,rfl,rfl,by rw [List.length_map]; exact hpos,a,_,_,_,rfl,rfl,hS,by rw [List.length_map]; exact hc,_,_,rfl,rfl,(by show (0 : Int) < 1000003; decide),?_⟩
    exact ⟨_,rfl,_,_,rfl,rfl,.inl ⟨by decide,by decide⟩,_,_,rfl,rfl,q _⟩
theorem zY : FnScope ["script","k","many","base","primes","cell","rest","row","j","mash"] ["script","k","many","base"] (zj zci):=⟨rfl,rfl,rfl,by decide +kernel,rfl,by decide +kernel,by decide +kernel⟩
theorem zcy {fd : FuncData} (T : Txt K mg t) (F : Fun K "_law_draws" "_law_draws" zci t.l_draws fd) : FnOk P w K mg base CX0 2 t.l_draws fd ["script","k","many","base"] (zgF K):=by
 obtain ⟨fd_l_cell,F_l_cell,b_l_cell⟩:=T.f_l_cell
 have G_l_cell:=ziE (P:=P) (w:=w) (base:=base) T F_l_cell
 refine F.ok zY (fun vs H Q E h => ?_) (fun cdv A outer s H vs Q E hr h => ?_)
 ·obtain ⟨a,ns,k,many,base,rfl,_⟩:=h
  rfl
 ·obtain ⟨a,ns,k,many,bs,rfl,hS,hlen,k0,k1,m0,m1,b0,b1,q⟩:=h
  refine ⟨_,(@zd _ _ _ _ _ (@zp _ _ (4) _ _ _ _ zY.nd rfl (Or.inl rfl) (@zaH _ _ _ _ _ (@zbZ _ _ _ _ _ _ (by exact (@zbZ _ _ _ _ _ _ (by exact (@zbZ _ _ _ _ _ _ (by exact (@zbZ _ _ _ _ _ _ (by exact (@zbZ _ _ _ _ _ _ (by exact (@za _ _ _ _ _ (@zf _ _ _ _) (@za _ _ _ _ _ (@zf _ _ _ _) (@za _ _ _ _ _ (@zf _ _ _ _) (@ze _) (by rfl)) (by rfl)) (by rfl))))))))))))) (by rfl) (by trivial)) (by exact (@zd _ _ _ _ _ (@zp _ _ (5) _ _ _ _ zY.nd rfl (Or.inl rfl) (@zt _ _ _ _ _ _ _ _ _ _ _ _ _ _ _ _ G_l_cell (hr.mono (by decide)) rfl T.m_l_cell F_l_cell.kp b_l_cell .nil (@zK _) (@za _ _ _ _ _ (@pvx _ 0 _ _ rfl) (@za _ _ _ _ _ (@pvx _ 1 _ _ rfl) (@ze _) (by rfl)) (by rfl)) (by decide) (by rfl) (by rfl)) (by rfl) (by trivial)) (by exact (@zd _ _ _ _ _ (@zp _ _ (6) _ _ _ _ zY.nd rfl (Or.inl rfl) (@zf _ _ _ _) (by rfl) (by trivial)) (by exact (@zd _ _ _ _ _ (@zaT _ _ _ _ _ _ _ _ (@zE _ _ _ _ _ _ _ _ (@zg4 _) (@pvx _ 5 _ _ rfl) (@zg _ _ _ _ _ _ _ _ (@zlE _) (@zf _ _ _ _) (@zf _ _ _ _)) (zM _)) (@zn _ _ _ (@zp _ _ (6) _ _ _ _ zY.nd rfl (Or.inl rfl) (@pvx _ 5 _ _ rfl) (by rfl) (by trivial))) (@zah _)) (by exact (@zd _ _ _ _ _ (@zp _ _ (7) _ _ _ _ zY.nd rfl (Or.inl rfl) (@z0 _ _ _ _ (@ze _)) (by rfl) (by trivial)) (by exact (@zd _ _ _ _ _ (@zaP _ _ _ _ _ _ _ _ PassesOwn.never rfl (@zaf _ _ _ _ _ _ rfl T.range_ (@za _ _ _ _ _ (@pvx _ 2 _ _ rfl) (@ze _) (by rfl)) (by rfl)) (@zh _ _ (8) _ zY.nd rfl (Or.inl rfl) (by trivial)) (@zd _ _ _ _ _ (@zp _ _ (9) _ _ _ _ zY.nd rfl (Or.inl rfl) (@zg _ _ _ _ _ _ _ _ (@zS _) (@zg _ _ _ _ _ _ _ _ (@zA _) (@pvx _ 5 _ _ rfl) (@zH _ _ _ _ _ _ _ (@zbE _) (@pvx _ 4 _ _ rfl) (@zg _ _ _ _ _ _ _ _ (@zA _) (@pvx _ 8 _ _ rfl) (@zf _ _ _ _)) (fun _ _ => rfl))) (@zg _ _ _ _ _ _ _ _ (@zD _) (@zf _ _ _ _) (@zg _ _ _ _ _ _ _ _ (@zS _) (@zg _ _ _ _ _ _ _ _ (@zS _) (@zf _ _ _ _) (@pvx _ 8 _ _ rfl)) (@pvx _ 8 _ _ rfl)))) (by rfl) (by trivial)) (by exact (@zd _ _ _ _ _ (@zp _ _ (9) _ _ _ _ zY.nd rfl (Or.inl rfl) (@zg _ _ _ _ _ _ _ _ (@zD _) (@zg _ _ _ _ _ _ _ _ (@zD _) (@pvx _ 9 _ _ rfl) (@zg _ _ _ _ _ _ _ _ (@zS _) (@zg _ _ _ _ _ _ _ _ (@zS _) (@zf _ _ _ _) (@zg _ _ _ _ _ _ _ _ (@zD _) (@pvx _ 8 _ _ rfl) (@zf _ _ _ _))) (@zg _ _ _ _ _ _ _ _ (@zD _) (@pvx _ 8 _ _ rfl) (@zf _ _ _ _)))) (@zg _ _ _ _ _ _ _ _ (@zS _) (@zf _ _ _ _) (@pvx _ 1 _ _ rfl))) (by rfl) (by trivial)) (by exact (@zd _ _ _ _ _ (@zp _ _ (9) _ _ _ _ zY.nd rfl (Or.inl rfl) (@zg _ _ _ _ _ _ _ _ (@zA _) (@pvx _ 9 _ _ rfl) (@zH _ _ _ _ _ _ _ (@zbE _) (@pvx _ 4 _ _ rfl) (@zg _ _ _ _ _ _ _ _ (@zA _) (@zg _ _ _ _ _ _ _ _ (@zD _) (@zg _ _ _ _ _ _ _ _ (@zS _) (@zf _ _ _ _) (@pvx _ 8 _ _ rfl)) (@pvx _ 1 _ _ rfl)) (@zf _ _ _ _)) (fun _ _ => rfl))) (by rfl) (by trivial)) (by exact (@zd _ _ _ _ _ (@zp _ _ (9) _ _ _ _ zY.nd rfl (Or.inl rfl) (@zg _ _ _ _ _ _ _ _ (@zA _) (@zg _ _ _ _ _ _ _ _ (@zS _) (@zg _ _ _ _ _ _ _ _ (@zS _) (@pvx _ 9 _ _ rfl) (@pvx _ 9 _ _ rfl)) (@pvx _ 9 _ _ rfl)) (@zH _ _ _ _ _ _ _ (@zbE _) (@pvx _ 4 _ _ rfl) (@zg _ _ _ _ _ _ _ _ (@zA _) (@zg _ _ _ _ _ _ _ _ (@zD _) (@pvx _ 8 _ _ rfl) (@zf _ _ _ _)) (@zf _ _ _ _)) (fun _ _ => rfl))) (by rfl) (by trivial)) (by exact (@zd _ _ _ _ _ (@zaT _ _ _ _ _ _ _ _ (@zE _ _ _ _ _ _ _ _ (@zey _) (@pvx _ 6 _ _ rfl) (@zf _ _ _ _) (zM _)) (@zn _ _ _ (@zp _ _ (9) _ _ _ _ zY.nd rfl (Or.inl rfl) (@pvx _ 6 _ _ rfl) (by rfl) (by trivial))) (@zah _)) (by exact (@zd _ _ _ _ _ (@zdp _ _ _ _ (@zdL _ _ _ _ _ _ _ _ _ _ _ _ PySem.F.plainAttrs_list PySem.F.slot_list_append PySem.F.type_list_append (@zb9 _) (@pvx _ 7 _ _ rfl) (@za _ _ _ _ _ (@zg _ _ _ _ _ _ _ _ (@zA _) (@pvx _ 9 _ _ rfl) (@pvx _ 3 _ _ rfl)) (@ze _) (by rfl)) (by rfl) (by rfl) (by rfl) (by rfl) (by rfl)) (by rfl)) (by exact (@zn _ _ _ (@zp _ _ (6) _ _ _ _ zY.nd rfl (Or.inl rfl) (@zg _ _ _ _ _ _ _ _ (@zbC _) (@pvx _ 6 _ _ rfl) (@pvx _ 3 _ _ rfl)) (by rfl) (by trivial))))))))))))))) (by intro _; rfl)) (by exact (@zn _ _ _ (@zI _ _ _ _ (@pvx _ 7 _ _ rfl))))))))))))))),?_⟩
  refine ⟨by show 8 ≤ sizeLine; rw [sizeLine_eq]; decide,fun tp ht => ?_⟩
  have s1 : zy H (upd H tp (.tup zkq)):=zb ht
  refine ⟨_,rfl,_,rfl,a,ns,k,rfl,s1.seq hS,hlen,k0,k1,fun c => ?_⟩
  refine ⟨_,rfl,_,_,rfl,rfl,⟨by decide,by decide,by decide⟩,_,_,rfl,rfl,_,rfl,?_⟩
  refine zay (fun _ => ⟨_,rfl,?_⟩) (fun _ => ?_)
  all_goals
   refine ⟨Nat.zero_le _,fun l hl => ?_⟩
   have hln : H l = none:=zy.free s1 hl
   have htl : tp ≠ l:=zF zc hl
   refine ⟨_,rfl,many,rfl,by omega,by omega,zaO (lo:=0) (n:=many.toNat) (fun i σ H' => ∃ (r : Int) (v8 v9 : Option V) (ds : List Int),σ = [some (.ref a),some (.int k),some (.int many),some (.int bs),some (.ref tp),some (.int c),some (.int r),some (.ref l),v8,v9] ∧ zhf i bs ds ∧ zy H H' ∧ H' tp = some (.tup zkq) ∧ H' l = some (.lst (ds.map V.int)))
    ⟨_,none,none,[],rfl,⟨rfl,by simp⟩,zW s1 hln,by rw [zr htl]; exact zc,zc⟩ ?_ ?_⟩
   ·rintro i σ H2 hi ⟨r,v8,v9,ds,rfl,hd,s2,htp,hrow⟩
    obtain ⟨q1,e1,q1p,q1l⟩:=zdT (0 + (i : Int))
    obtain ⟨q2,e2,q2p,q2l⟩:=zdT (3 * (0 + (i : Int)) + k)
    obtain ⟨q3,e3,q3p,q3l⟩:=zdT (0 + (i : Int) + 5)
    have c1:=Int.emod_nonneg c (show q1 ≠ 0 by omega)
    have c2:=Int.emod_lt_of_pos c q1p
    have hi' : (i : Int) < 1000:=by omega
    refine ⟨_,rfl,_,rfl,_,rfl,_,_,rfl,rfl,(by show (0 : Int) < 8; decide),tp,_,_,_,rfl,rfl,SqT.of htp,e1,_,_,rfl,rfl,q1p,_,rfl,_,_,rfl,rfl,.inl ⟨by decide,by decide⟩,_,rfl,_,_,rfl,rfl,.inl ⟨by omega,by omega⟩,_,_,rfl,rfl,_,_,rfl,rfl,.inl ⟨by omega,by omega⟩,?_⟩
    refine ⟨_,rfl,_,rfl,_,_,rfl,rfl,_,_,rfl,rfl,.inl ⟨by decide,by decide⟩,_,rfl,_,_,rfl,rfl,_,_,rfl,rfl,.inl ⟨by omega,by omega⟩,_,_,rfl,rfl,_,rfl,_,_,rfl,rfl,.inl ⟨by decide,by decide⟩,_,_,rfl,rfl,?_⟩
    refine ⟨_,rfl,_,rfl,_,rfl,_,_,rfl,rfl,.inl ⟨by decide,by decide⟩,_,rfl,_,_,rfl,rfl,_,_,rfl,rfl,(by show (0 : Int) < 8; decide),tp,_,_,_,rfl,rfl,SqT.of htp,e2,_,_,rfl,rfl,q2p,?_⟩
    generalize c % q1 * (48271 + 2 * (0 + (i : Int)) * (0 + (i : Int))) + 7919 * (0 + (i : Int) + 1) * (0 + (i : Int) + 1) + 104729 * k = ms
    have d1:=Int.emod_nonneg ms (show q2 ≠ 0 by omega)
    have d2:=Int.emod_lt_of_pos ms q2p
    refine ⟨_,rfl,_,rfl,_,_,rfl,rfl,.inl ⟨by omega,by omega⟩,_,rfl,_,_,rfl,rfl,.inr ⟨by omega,by omega⟩,_,rfl,_,rfl,_,_,rfl,rfl,_,_,rfl,rfl,(by show (0 : Int) < 8; decide),tp,_,_,_,rfl,rfl,SqT.of htp,e3,_,_,rfl,rfl,q3p,?_⟩
    refine ⟨_,rfl,_,_,rfl,rfl,_,rfl,?_⟩
    have hdl:=hd.1
    refine zay (fun _ => ⟨_,rfl,?_⟩) (fun _ => ?_)
    all_goals
     refine ⟨_,rfl,.inl ⟨rfl,_,SqL.of hrow⟩,_,rfl,_,rfl,_,_,rfl,rfl,b0,l,_,_,rfl,rfl,hrow,zX (by rw [List.length_map]; omega),?_⟩
     refine ⟨_,rfl,_,rfl,_,_,rfl,rfl,⟨b0,b1⟩,?_⟩
     refine ⟨_,_,_,ds ++ [_],rfl,⟨by rw [List.length_append,hdl]; rfl,fun d hm => ?_⟩,zW s2 hln,by rw [zr htl]; exact htp,by rw [zc,List.map_append]; rfl⟩; rcases List.mem_append.mp hm with hm | hm
     ·exact hd.2 d hm
     ·have e:=List.mem_singleton.mp hm
      rw [e]
      exact ⟨Int.emod_nonneg _ (by omega),Int.emod_lt_of_pos _ b0⟩
   ·rintro σ H2 ⟨r,v8,v9,ds,rfl,hd,s2,htp,hrow⟩
    exact ⟨_,rfl,q l ds H2 hln s2 hd hrow⟩
theorem zaW : FnScope ["script","at","most_k","most_n","plan","primes","p","k","many","left"] ["script","at","most_k","most_n"] (zj zb6):=⟨rfl,rfl,rfl,by decide +kernel,rfl,by decide +kernel,by decide +kernel⟩
theorem ziF {fd : FuncData} (T : Txt K mg t) (F : Fun K "_law_code" "_law_code" zb6 t.l_code fd) : FnOk P w K mg base CX0 3 t.l_code fd ["script","at","most_k","most_n"] (zif K):=by
 obtain ⟨fd_l_draws,F_l_draws,b_l_draws⟩:=T.f_l_draws
 have G_l_draws:=zcy (P:=P) (w:=w) (base:=base) T F_l_draws
 refine F.ok zaW (fun vs H Q E h => ?_) (fun cdv A outer s H vs Q E hr h => ?_)
 ·obtain ⟨a,ns,at',mk,mn,rfl,_⟩:=h
  rfl
 ·obtain ⟨a,ns,at',mk,mn,rfl,hS,hlen,a0,a1,k1,k5,kn,n16,q⟩:=h
  refine ⟨_,(@zd _ _ _ _ _ (@zp _ _ (4) _ _ _ _ zaW.nd rfl (Or.inr rfl) (@zt _ _ _ _ _ _ _ _ _ _ _ _ _ _ _ _ G_l_draws (hr.mono (by decide)) rfl T.m_l_draws F_l_draws.kp b_l_draws .nil (@zK _) (@za _ _ _ _ _ (@pvx _ 0 _ _ rfl) (by exact (@za _ _ _ _ _ (@pvx _ 1 _ _ rfl) (@za _ _ _ _ _ (@zf _ _ _ _) (@za _ _ _ _ _ (@zf _ _ _ _) (@ze _) (by rfl)) (by rfl)) (by rfl))) (by rfl)) (by decide) (by rfl) (by rfl)) (by rfl) (by trivial)) (by exact (by exact (@zi7 _ 5 _ _ _ _ _ _ _ [5,7,11,13,17,19,23,29,31,37,41,43,47,53,59,61,67,71,73,79,83,89,97] (by decide +kernel) zaW.nd rfl (Or.inl rfl) (by first | exact .inl rfl | exact .inr rfl) (by exact (@zd _ _ _ _ _ (@zp _ _ (6) _ _ _ _ zaW.nd rfl (Or.inl rfl) (@zH _ _ _ _ _ _ _ (@zw _) (@z0 _ _ _ _ (@za _ _ _ _ _ (@zH _ _ _ _ _ _ _ (@zw _) (@pvx _ 5 _ _ rfl) (@zg _ _ _ _ _ _ _ _ (@zA _) (@zH _ _ _ _ _ _ _ (@zw _) (@pvx _ 4 _ _ rfl) (@zf _ _ _ _) (fun _ _ => rfl)) (@zf _ _ _ _)) (fun _ _ => rfl)) (@za _ _ _ _ _ (@zH _ _ _ _ _ _ _ (@zw _) (@pvx _ 5 _ _ rfl) (@zg _ _ _ _ _ _ _ _ (@zA _) (@zH _ _ _ _ _ _ _ (@zw _) (@pvx _ 4 _ _ rfl) (@zf _ _ _ _) (fun _ _ => rfl)) (@zf _ _ _ _)) (fun _ _ => rfl)) (@ze _) (by rfl)) (by rfl))) (@zg _ _ _ _ _ _ _ _ (@zA _) (@zH _ _ _ _ _ _ _ (@zw _) (@pvx _ 4 _ _ rfl) (@zf _ _ _ _) (fun _ _ => rfl)) (@zf _ _ _ _)) (fun _ _ => rfl)) (by rfl) (by trivial)) (by exact (@zd _ _ _ _ _ (@zp _ _ (7) _ _ _ _ zaW.nd rfl (Or.inl rfl) (@zg _ _ _ _ _ _ _ _ (@zD _) (@zf _ _ _ _) (@zg _ _ _ _ _ _ _ _ (@zA _) (@zH _ _ _ _ _ _ _ (@zw _) (@pvx _ 4 _ _ rfl) (@zf _ _ _ _) (fun _ _ => rfl)) (@zu _ _ _ _ _ _ _ _ _ (@zcX _ rfl) (by rfl) T.min_ boot_min (@za _ _ _ _ _ (@pvx _ 2 _ _ rfl) (@za _ _ _ _ _ (@pvx _ 6 _ _ rfl) (@ze _) (by rfl)) (by rfl)) (by decide) (by decide) (by rfl) (by rfl)))) (by rfl) (by trivial)) (by exact (@zd _ _ _ _ _ (@zp _ _ (8) _ _ _ _ zaW.nd rfl (Or.inl rfl) (@zg _ _ _ _ _ _ _ _ (@zD _) (@pvx _ 7 _ _ rfl) (@zg _ _ _ _ _ _ _ _ (@zA _) (@zH _ _ _ _ _ _ _ (@zw _) (@pvx _ 4 _ _ rfl) (@zf _ _ _ _) (fun _ _ => rfl)) (@zg _ _ _ _ _ _ _ _ (@zD _) (@zg _ _ _ _ _ _ _ _ (@za8 _) (@zu _ _ _ _ _ _ _ _ _ (@zcX _ rfl) (by rfl) T.min_ boot_min (@za _ _ _ _ _ (@pvx _ 3 _ _ rfl) (@za _ _ _ _ _ (@pvx _ 6 _ _ rfl) (@ze _) (by rfl)) (by rfl)) (by decide) (by decide) (by rfl) (by rfl)) (@pvx _ 7 _ _ rfl)) (@zf _ _ _ _)))) (by rfl) (by trivial)) (by exact (@zd _ _ _ _ _ (@zp _ _ (9) _ _ _ _ zaW.nd rfl (Or.inr rfl) (@zat _ _ _ _ _ _ _ _ _ (@zcp _ rfl) (by rfl) T.list_ boot_list (@za _ _ _ _ _ (@zat _ _ _ _ _ _ _ _ _ (@zdf _) (by rfl) T.range_ boot_range (@za _ _ _ _ _ (@pvx _ 6 _ _ rfl) (@ze _) (by rfl)) (by decide) (by decide) (by rfl) (by rfl)) (@ze _) (by rfl)) (by decide) (by decide) (by rfl) (by rfl)) (by rfl) (by trivial)) (by exact (@zn _ _ _ (@zI _ _ _ _ (@zaH _ _ _ _ _ (@za _ _ _ _ _ (@pvx _ 6 _ _ rfl) (@za _ _ _ _ _ (@pvx _ 7 _ _ rfl) (@za _ _ _ _ _ (@zat _ _ _ _ _ _ _ _ _ (@zaD _) (by rfl) T.tuple_ boot_tuple (@za _ _ _ _ _ (@zar _ _ _ _ _ _ _ _ _ _ _ _ _ (CompSc.of (N':=["j","left","plan"]) (ix:=[none,some 9,some 4]) (zj zb6) ["script","at","most_k","most_n","plan","primes","p","k","many","left"] rfl rfl (by decide +kernel)) rfl (@zav _ _ rfl) (@zaf _ _ _ _ _ _ rfl T.range_ (@za _ _ _ _ _ (@pvx _ 8 _ _ rfl) (@ze _) (by rfl)) (by rfl)) (fun _ _ _ _ => (@zh _ _ (0) _ (show (["j","left","plan"] : List Str).Nodup by decide +kernel) rfl (Or.inl rfl) (by trivial))) (fun _ _ _ _ => (@zU _)) (fun _ _ _ _ => (@zlR _ (K) _ _ _ _ _ _ _ _ _ _ _ rfl PySem.F.plainAttrs_list PySem.F.slot_list_pop PySem.F.type_list_pop (@zdM _) (@pvx _ 1 _ _ rfl) (@za _ _ _ _ _ (@zg _ _ _ _ _ _ _ _ (@zA _) (@zH _ _ _ _ _ _ _ (@zb0 _ (K) rfl) (@pvx _ 2 _ _ rfl) (@zg _ _ _ _ _ _ _ _ (@zD _) (@zf _ _ _ _) (@pvx _ 0 _ _ rfl)) (fun _ _ => rfl)) (@zu _ _ _ _ _ _ _ _ _ (@zbr _ (K) rfl) (by rfl) T.len_ boot_len (@za _ _ _ _ _ (@pvx _ 1 _ _ rfl) (@ze _) (by rfl)) (by decide) (by decide) (by rfl) (by rfl))) (@ze _) (by rfl)) (by rfl) (by rfl) (by rfl) (by rfl) (by rfl))) (by intro _; rfl)) (@ze _) (by rfl)) (by decide) (by decide) (by rfl) (by rfl)) (@ze _) (by rfl)) (by rfl)) (by rfl)))))))))))))))))),?_⟩
  refine ⟨_,rfl,_,rfl,a,ns,at',20,27720,rfl,hS,hlen,a0,a1,by decide,by decide,by decide,by decide,fun l ds H1 hl s1 hd hpl => ?_⟩
  have hdl : ds.length = 20:=hd.1
  have dat : ∀ m : Int,0 ≤ m → m < 20 → ∃ c : Int,atI (ds.map V.int) m = some (.int c):=fun m h0 h1 => zcG h0 (by omega)
  refine ⟨by show 23 ≤ sizeLine; rw [sizeLine_eq]; decide,fun pr hpr => ?_⟩
  have hlpr : l ≠ pr:=zF hpl hpr
  obtain ⟨d0,ed0⟩:=dat 0 (by decide) (by decide)
  obtain ⟨d1,ed1⟩:=dat 1 (by decide) (by decide)
  obtain ⟨d2,ed2⟩:=dat 2 (by decide) (by decide)
  obtain ⟨d3,ed3⟩:=dat 3 (by decide) (by decide)
  have hp2 : (upd H1 pr (.lst (zm.map V.int))) l = some (.lst (ds.map V.int)):=by rw [zr hlpr]; exact hpl
  obtain ⟨p1,mp1,ep1⟩:=zje (ns:=zm) (k:=d0 % 23) (Int.emod_nonneg _ (by decide)) (Int.emod_lt_of_pos _ (by decide))
  obtain ⟨p2,mp2,ep2⟩:=zje (ns:=zm) (k:=d0 % 3) (Int.emod_nonneg _ (by decide)) (by have:=Int.emod_lt_of_pos d0 (show (0 : Int) < 3 by decide); have e : (zm.length : Int) = 23:=rfl; omega)
  obtain ⟨p,ep,hpp⟩:=zlS (x:=p1) (y:=p2) (m:=d1 % 2) (Int.emod_nonneg _ (by decide)) (Int.emod_lt_of_pos _ (by decide))
  have mp : p ∈ zm:=by rcases hpp with e | e <;> rw [e] <;> assumption
  have rp:=zo mp
  refine ⟨_,rfl,_,rfl,l,_,_,_,rfl,rfl,SqL.of hp2,ed0,_,_,rfl,rfl,(by show (0 : Int) < 23; decide),pr,_,_,_,rfl,rfl,SqL.of zc,ep1,
   _,rfl,_,rfl,l,_,_,_,rfl,rfl,SqL.of hp2,ed0,_,_,rfl,rfl,(by show (0 : Int) < 3; decide),pr,_,_,_,rfl,rfl,SqL.of zc,ep2,zaz,fun l2 hl2 => ?_⟩
  have hll2 : l ≠ l2:=zF hp2 hl2
  have hp3 : (upd (upd H1 pr (.lst (zm.map V.int))) l2 (.lst [.int p1,.int p2])) l = some (.lst (ds.map V.int)):=by rw [zr hll2]; exact hp2
  refine ⟨_,rfl,l,_,_,_,rfl,rfl,SqL.of hp3,ed1,_,_,rfl,rfl,(by show (0 : Int) < 2; decide),l2,_,_,_,rfl,rfl,SqL.of zc,ep,?_⟩
  have hm1 : (0 : Int) < (if p < mk then p else mk):=by split <;> omega
  have hm2 : (if p < mk then p else mk) ≤ mk:=by split <;> omega
  have hm3 : (if p < mk then p else mk) ≤ p:=by split <;> omega
  refine ⟨_,rfl,l,_,_,_,rfl,rfl,SqL.of hp3,ed2,_,rfl,_,rfl,_,_,rfl,_,_,rfl,rfl,hm1,_,_,rfl,rfl,?_⟩
  generalize (if p < mk then p else mk) = mm at hm1 hm2 hm3 ⊢
  have hk0:=Int.emod_nonneg d2 (show mm ≠ 0 by omega)
  have hk1:=Int.emod_lt_of_pos d2 hm1
  have hn1 : (if p < mn then p else mn) ≤ mn:=by split <;> omega
  have hn2 : (if p < mn then p else mn) ≤ p:=by split <;> omega
  have hn3 : mm ≤ (if p < mn then p else mn):=by split <;> omega
  refine ⟨_,rfl,_,rfl,l,_,_,_,rfl,rfl,SqL.of hp3,ed3,_,rfl,_,rfl,_,_,rfl,_,rfl,_,_,rfl,rfl,_,_,rfl,rfl,_,_,rfl,rfl,(by omega),_,_,rfl,rfl,?_⟩
  generalize (if p < mn then p else mn) = nn at hn1 hn2 hn3 ⊢
  have hq0:=Int.emod_nonneg d3 (show nn - (1 + d2 % mm) + 1 ≠ 0 by omega)
  have hq1:=Int.emod_lt_of_pos d3 (show 0 < nn - (1 + d2 % mm) + 1 by omega)
  refine ⟨_,rfl,p,rfl,fun r hr2 => ⟨r,p,rfl,zc,by omega,by omega,fun lf hlf => ?_⟩⟩
  have hlr : l ≠ r:=zF hp3 hr2
  have hlf1 : l ≠ lf:=by
   refine zF (H:=upd (upd (upd H1 pr (.lst (zm.map V.int))) l2 (.lst [.int p1,.int p2])) r (.rng 0 p)) (o:=.lst (ds.map V.int)) ?_ hlf
   rw [zr hlr]; exact hp3
  have sA : zy H (upd (upd H1 pr (.lst (zm.map V.int))) l2 (.lst [.int p1,.int p2])):=(s1.trans (zb hpr)).trans (zb hl2)
  have sB:=(sA.trans (zb (o:=.rng 0 p) hr2)).trans (zb (o:=.lst ((zaI 0 p.toNat).map V.int)) hlf)
  have hlfH : H lf = none:=(sA.trans (zb (o:=.rng 0 p) hr2)).free hlf
  obtain ⟨nd0,rg0⟩:=zeK p
  refine ⟨_,rfl,_,rfl,_,rfl,_,rfl,by omega,by omega,z8 (n:=(1 + d2 % mm + d3 % (nn - (1 + d2 % mm) + 1)).toNat) (fun i ys H' => ∃ xs ls : List Int,ys = xs.map V.int ∧ xs.length = i ∧ zy H H' ∧ H' l = some (.lst (ds.map V.int)) ∧ H' lf = some (.lst (ls.map V.int)) ∧ ls.length + i = p.toNat ∧ (xs ++ ls).Nodup ∧ ∀ y ∈ xs ++ ls,0 ≤ y ∧ y < p)
   ⟨[],zaI 0 p.toNat,rfl,rfl,sB,by rw [zr hlf1,zr hlr]; exact hp3,zc,by rw [zbq]; rfl,by simpa using nd0,by simpa using rg0⟩ (fun i ys H' hi _ => hi) (fun ys H' _ => Nat.le_refl _) ?_ ?_⟩
  ·rintro i x ys H4 H5 hi ⟨xs,ls,rfl,hxl,s4,hpl4,hlf4,hll,nd,rg⟩ ⟨rfl,rfl⟩
   refine gY ?_
   obtain ⟨c,ec⟩:=dat (4 + (0 + (i : Int))) (by omega) (by omega)
   have lpos : 0 < ls.length:=by omega
   have lm : ((ls.map V.int).length : Int) = (ls.length : Int):=by rw [List.length_map]
   have c0:=Int.emod_nonneg c (show (ls.length : Int) ≠ 0 by omega)
   have c1:=Int.emod_lt_of_pos c (show (0 : Int) < ls.length by omega)
   have hsl:=sizeLine_eq
   obtain ⟨y,ey⟩ : ∃ y,ls[(c % (ls.length : Int)).toNat]? = some y:=⟨ls[(c % (ls.length : Int)).toNat]'(by omega),by simp⟩
   refine ⟨_,rfl,.inl ⟨rfl,_,SqL.of hlf4⟩,_,rfl,_,rfl,_,_,rfl,rfl,l,_,_,_,rfl,rfl,SqL.of hpl4,ec,_,rfl,lf,_,rfl,.inl (SqL.of hlf4),_,_,rfl,rfl,(by rw [lm]; omega),lf,_,_,(c % (ls.length : Int)).toNat,.int y,rfl,rfl,hlf4,?_⟩
   rw [lm]
   refine ⟨by omega,by omega,by rw [List.length_map]; exact seqIndex_of c0 c1,by rw [List.getElem?_map,ey]; rfl,zX (by rw [List.length_map]; omega),xs ++ [y],ls.eraseIdx (c % (ls.length : Int)).toNat,by rw [List.map_append]; rfl,by rw [List.length_append,hxl]; rfl,zW s4 hlfH,by rw [zr hlf1]; exact hpl4,by rw [zc,zcb],?_,zkt ey nd rg⟩
   rw [List.length_eraseIdx]
   split <;> omega
  ·rintro ys H4 D ⟨xs,ls,rfl,hxl,s4,hpl4,hlf4,hll,nd,rg⟩ hD
   refine ⟨D,_,rfl,.inl ⟨SqL.of zc,fun tt htt => ⟨by show 3 ≤ sizeLine; rw [sizeLine_eq]; decide,fun c hc => ?_⟩⟩⟩
   have s5:=(s4.trans (zb (o:=.lst (xs.map V.int)) hD)).trans (zb (o:=.tup (xs.map V.int)) htt)
   refine q c tt p _ xs _ (s5.free hc) (s5.trans (zb hc)) ⟨mp,by omega,by omega,by omega,by omega,(List.nodup_append.mp nd).1,fun y hy => rg y (List.mem_append_left _ hy)⟩ zc ?_
   rw [zr (zF zc hc)]
   exact zc
theorem zaX : FnScope ["p","polynomial","x","total","power","number"] ["p","polynomial","x"] (zj zcj):=⟨rfl,rfl,rfl,by decide +kernel,rfl,by decide +kernel,by decide +kernel⟩
theorem zcz {fd : FuncData} (T : Txt K mg t) (F : Fun K "_law_value" "_law_value" zcj t.l_value fd) : FnOk P w K mg base CX0 1 t.l_value fd ["p","polynomial","x"] (zgG K):=by
 refine F.ok zaX (fun vs H Q E h => ?_) (fun cdv A outer s H vs Q E hr h => ?_)
 ·obtain ⟨p,x,a,cs,rfl,_⟩:=h
  rfl
 ·obtain ⟨p,x,a,cs,rfl,hS,p0,p1,x0,x1,q⟩:=h
  refine ⟨_,(@zd _ _ _ _ _ (@zp _ _ (3) _ _ _ _ zaX.nd rfl (Or.inl rfl) (@zf _ _ _ _) (by rfl) (by trivial)) (by exact (@zd _ _ _ _ _ (@zp _ _ (4) _ _ _ _ zaX.nd rfl (Or.inl rfl) (@zf _ _ _ _) (by rfl) (by trivial)) (by exact (@zd _ _ _ _ _ (@zaP _ _ _ _ _ _ _ _ PassesOwn.never rfl (@zlQ _ _ _ _ (@pvx _ 1 _ _ rfl)) (@zh _ _ (5) _ zaX.nd rfl (Or.inl rfl) (by trivial)) (@zd _ _ _ _ _ (@zp _ _ (3) _ _ _ _ zaX.nd rfl (Or.inl rfl) (@zg _ _ _ _ _ _ _ _ (@zA _) (@zg _ _ _ _ _ _ _ _ (@zD _) (@pvx _ 3 _ _ rfl) (@zg _ _ _ _ _ _ _ _ (@zS _) (@pvx _ 5 _ _ rfl) (@pvx _ 4 _ _ rfl))) (@pvx _ 0 _ _ rfl)) (by rfl) (by trivial)) (by exact (@zn _ _ _ (@zp _ _ (4) _ _ _ _ zaX.nd rfl (Or.inl rfl) (@zg _ _ _ _ _ _ _ _ (@zA _) (@zg _ _ _ _ _ _ _ _ (@zS _) (@pvx _ 4 _ _ rfl) (@pvx _ 2 _ _ rfl)) (@pvx _ 0 _ _ rfl)) (by rfl) (by trivial))))) (by intro _; rfl)) (by exact (@zn _ _ _ (@zI _ _ _ _ (@pvx _ 3 _ _ rfl))))))))),?_⟩
  refine ⟨_,rfl,a,rfl,?_⟩
  rcases hS with hS | hS
  ·refine .inl ⟨⟨_,hS⟩,zcC (K:=K) (a:=a) (xs:=cs.map V.int) (fun i σ H' => H' = H ∧ ∃ (total power : Int) (nb : Option V),σ = [some (.int p),some (.ref a),some (.int x),some (.int total),some (.int power),nb] ∧ 0 ≤ power ∧ power ≤ 97 ∧ lv p x total power (cs.drop i) = lv p x 0 1 cs)
    ⟨rfl,0,1,none,rfl,by decide,by decide,rfl⟩ (fun i σ H' _ ⟨e,_⟩ => by rw [e]; exact hS) ?_ ?_⟩
   ·rintro i y σ H1 hy ⟨rfl,total,power,nb,rfl,w0,w1,hl⟩
    obtain ⟨c,rfl,hc⟩:=zae hy
    have m0:=Int.emod_nonneg (power * x) (show p ≠ 0 by omega)
    have m1:=Int.emod_lt_of_pos (power * x) p0
    refine ⟨_,rfl,_,rfl,_,rfl,_,_,rfl,rfl,.inr ⟨by omega,by omega⟩,_,_,rfl,rfl,_,rfl,_,_,rfl,rfl,p0,?_⟩
    refine ⟨_,rfl,_,rfl,_,_,rfl,rfl,.inl ⟨by omega,by omega⟩,_,rfl,_,_,rfl,rfl,p0,?_⟩
    exact ⟨rfl,_,_,_,rfl,m0,by omega,(zhg hc).symm.trans hl⟩
   ·rintro σ H1 ⟨rfl,total,power,nb,rfl,w0,w1,hl⟩
    rw [List.length_map,List.drop_length] at hl
    have hl : total = lv p x 0 1 cs:=hl
    rw [zha p0] at hl
    rw [← hl] at q
    exact ⟨_,rfl,q⟩
  ·refine .inr ⟨⟨_,hS⟩,zkf (K:=K) (a:=a) (xs:=cs.map V.int) (fun i σ H' => H' = H ∧ ∃ (total power : Int) (nb : Option V),σ = [some (.int p),some (.ref a),some (.int x),some (.int total),some (.int power),nb] ∧ 0 ≤ power ∧ power ≤ 97 ∧ lv p x total power (cs.drop i) = lv p x 0 1 cs)
    ⟨rfl,0,1,none,rfl,by decide,by decide,rfl⟩ (fun i σ H' _ ⟨e,_⟩ => by rw [e]; exact hS) ?_ ?_⟩
   ·rintro i y σ H1 hy ⟨rfl,total,power,nb,rfl,w0,w1,hl⟩
    obtain ⟨c,rfl,hc⟩:=zae hy
    have m0:=Int.emod_nonneg (power * x) (show p ≠ 0 by omega)
    have m1:=Int.emod_lt_of_pos (power * x) p0
    refine ⟨_,rfl,_,rfl,_,rfl,_,_,rfl,rfl,.inr ⟨by omega,by omega⟩,_,_,rfl,rfl,_,rfl,_,_,rfl,rfl,p0,?_⟩
    refine ⟨_,rfl,_,rfl,_,_,rfl,rfl,.inl ⟨by omega,by omega⟩,_,rfl,_,_,rfl,rfl,p0,?_⟩
    exact ⟨rfl,_,_,_,rfl,m0,by omega,(zhg hc).symm.trans hl⟩
   ·rintro σ H1 ⟨rfl,total,power,nb,rfl,w0,w1,hl⟩
    rw [List.length_map,List.drop_length] at hl
    have hl : total = lv p x 0 1 cs:=hl
    rw [zha p0] at hl
    rw [← hl] at q
    exact ⟨_,rfl,q⟩
theorem zgV (xs : List V) (j : Nat) : za2 xs none (some (j : Int)) = xs.take j:=by
 unfold za2
 rw [HT.sIx_nat,HT.sIx_none,Nat.sub_zero,List.drop_zero]
 by_cases h : j ≤ xs.length
 ·rw [Nat.min_eq_left h]
 ·rw [show min j xs.length = xs.length by omega,List.take_of_length_le (Nat.le_refl _),List.take_of_length_le (show xs.length ≤ j by omega)]
def ziG (K : PySem.W.Frag) : Sp:=fun vs H Q _ => ∃ (a : Addr) (ds : List Int) (p k : Int),vs = [.ref a,.int p,.int k] ∧ SqL K H a (ds.map V.int) ∧ ds.length ≤ 1000 ∧ 0 < p ∧
 ∀ (l : Addr) (poly : List Int) (H' : Hp),H l = none → zy H H' → (poly.length ≤ ds.length ∧ ∀ x ∈ poly,0 ≤ x ∧ x < p) → H' l = some (.tup (poly.map V.int)) → (∀ n : Nat,k = (n : Int) → n ≤ ds.length → poly.length = n) → Q (.ref l) H'
theorem zdo : FnScope ["draws","p","k"] ["draws","p","k"] (zj zaB):=⟨rfl,rfl,rfl,by decide +kernel,rfl,by decide +kernel,by decide +kernel⟩
theorem zbU {fd : FuncData} (T : Txt K mg t) (F : Fun K "_law_polynomial" "_law_polynomial" zaB t.l_polynomial fd) : FnOk P w K mg base CX0 1 t.l_polynomial fd ["draws","p","k"] (ziG K):=by
 refine F.ok zdo (fun vs H Q E h => ?_) (fun cdv A outer s H vs Q E hr h => ?_)
 ·obtain ⟨a,ds,p,k,rfl,_⟩:=h
  rfl
 ·obtain ⟨a,ds,p,k,rfl,ha,hn,p0,q⟩:=h
  refine ⟨_,(@zn _ _ _ (@zI _ _ _ _ (@zat _ _ _ _ _ _ _ _ _ (@zaD _) (by rfl) T.tuple_ boot_tuple (@za _ _ _ _ _ (@zar _ _ _ _ _ _ _ _ _ _ _ _ _ (CompSc.of (N':=["draw","p"]) (ix:=[none,some 1]) (zj zaB) ["draws","p","k"] rfl rfl (by decide +kernel)) rfl (@zav _ _ rfl) (@zai _ _ _ _ (@za1 _ _ _ _ _ _ _ _ _ _ zb8 (@pvx _ 0 _ _ rfl) (@zbD _) (@zbb _ _ _ (@pvx _ 2 _ _ rfl)))) (fun _ _ _ _ => (@zh _ _ (0) _ (show (["draw","p"] : List Str).Nodup by decide +kernel) rfl (Or.inl rfl) (by trivial))) (fun _ _ _ _ => (@zU _)) (fun _ _ _ _ => (@zg _ _ _ _ _ _ _ _ (@zA _) (@pvx _ 0 _ _ rfl) (@pvx _ 1 _ _ rfl))) (by intro _; rfl)) (@ze _) (by rfl)) (by decide) (by decide) (by rfl) (by rfl)))),?_⟩
  obtain ⟨ms,ems,lms⟩:=zfV ds none (some k)
  refine ⟨_,rfl,_,rfl,_,rfl,a,_,rfl,ha,fun z hz => ?_⟩
  rw [ems]
  have s4:=zb (o:=.lst (ms.map V.int)) hz
  refine ⟨z,rfl,⟨_,SqL.of zc⟩,zeN (K:=K) (xs:=ms.map V.int) (fs:=ms.map fun d => V.int (d % p)) (SqL.of zc) (by rw [List.length_map,List.length_map]) (by rw [List.length_map]; omega) ?_ ?_⟩
  ·intro j x y R B hx hy hR
   obtain ⟨c,_,rfl,rfl⟩:=zfW hx hy
   refine gY ?_
   exact ⟨_,rfl,_,rfl,_,_,rfl,rfl,p0,hR⟩
  intro D hD
  have epol : (ms.map fun d => V.int (d % p)) = (ms.map (· % p)).map V.int:=by rw [List.map_map]; rfl
  rw [epol]
  refine ⟨D,_,rfl,.inl ⟨SqL.of zc,fun po hpo => ?_⟩⟩
  have s5:=s4.trans (zb (o:=.lst ((ms.map (· % p)).map V.int)) hD)
  refine q po _ _ (s5.free hpo) (s5.trans (zb hpo)) ⟨by rw [List.length_map]; exact lms,fun x hx => ?_⟩ zc (fun n hkn hle => ?_)
  ·obtain ⟨d,_,rfl⟩:=List.mem_map.mp hx
   exact ⟨Int.emod_nonneg _ (by omega),Int.emod_lt_of_pos _ p0⟩
  ·have h1:=congrArg List.length ems
   rw [hkn,zgV,List.length_take,List.length_map,List.length_map] at h1
   rw [List.length_map]
   omega
def zj1 (K : PySem.W.Frag) : Sp:=fun vs H Q _ => ∃ (a c tt : Addr) (ns : List Int) (at' p k : Int) (pl : List Int),vs = [.ref a,.int at',.ref c] ∧ SqL K H a (ns.map V.int) ∧ ns.length ≤ 63 ∧ 0 ≤ at' ∧ at' ≤ 900 ∧ zaU H c tt p k pl ∧ 0 < p ∧ p ≤ 97 ∧ (∀ x ∈ pl,0 ≤ x ∧ x < p) ∧ pl.length ≤ 16 ∧
 ∀ (l : Addr) (rw : List (Option Int)) (H' : Hp),H l = none → zy H H' → rw.length = pl.length → (∀ z,some z ∈ rw → 0 ≤ z ∧ z < p) → H' l = some (.lst (rw.map enc)) → Q (.ref l) H'
theorem zmi {a b m : Int} (h0 : 0 ≤ m) (h1 : m < 6) (a0 : 0 ≤ a) (a1 : a < 3) (b0 : 0 ≤ b) (b1 : b < 3) : ∃ z : Int,atI [V.int 0,.int 0,.int a,.int b,.int 0,.int 0] m = some (.int z) ∧ 0 ≤ z ∧ z < 3:=by
 have : m = 0 ∨ m = 1 ∨ m = 2 ∨ m = 3 ∨ m = 4 ∨ m = 5:=by omega
 rcases this with e | e | e | e | e | e <;> subst e
 ·exact ⟨0,rfl,by decide,by decide⟩
 ·exact ⟨0,rfl,by decide,by decide⟩
 ·exact ⟨a,rfl,a0,a1⟩
 ·exact ⟨b,rfl,b0,b1⟩
 ·exact ⟨0,rfl,by decide,by decide⟩
 ·exact ⟨0,rfl,by decide,by decide⟩
theorem zk5 {m : Int} (h0 : 0 ≤ m) (h1 : m < 6) : ∃ z : Int,atI [V.int 4,.int 9,.int 9,.int 9,.int 2,.int 1] m = some (.int z) ∧ 0 < z:=by
 have : m = 0 ∨ m = 1 ∨ m = 2 ∨ m = 3 ∨ m = 4 ∨ m = 5:=by omega
 rcases this with e | e | e | e | e | e <;> subst e <;> exact ⟨_,rfl,by decide⟩
theorem zk6 {m : Int} (h0 : 0 ≤ m) (h1 : m < 2) : ∃ z : Int,atI [V.int 9,.int 3] m = some (.int z) ∧ 0 < z:=by
 have : m = 0 ∨ m = 1:=by omega
 rcases this with e | e <;> subst e <;> exact ⟨_,rfl,by decide⟩
theorem zmX (n : Nat) : (List.replicate n [V.non]).flatten = (List.replicate n (none : Option Int)).map enc:=by
 induction n with
 | zero => rfl
 | succ n ih => rw [List.replicate_succ,List.flatten_cons,ih,List.replicate_succ]; rfl
def zfy (H : Hp) (on : Addr) : Prop:=∃ os : List Addr,os.length = 3 ∧ H on = some (.lst (os.map V.ref)) ∧ ∀ o ∈ os,∃ ms : List Int,H o = some (.tup (ms.map V.int))
theorem zfy.same {H H' : Hp} {on : Addr} (s : zy H H') (h : zfy H on) : zfy H' on:=by
 obtain ⟨os,h1,h2,h3⟩:=h
 exact ⟨os,h1,s _ _ h2,fun o ho => let ⟨ms,e⟩:=h3 o ho; ⟨ms,s _ _ e⟩⟩
theorem zj2 {p : Int} {rw : List (Option Int)} (h : ∀ z,some z ∈ rw → 0 ≤ z ∧ z < p) : ∀ z,some z ∈ rw ++ [none] → 0 ≤ z ∧ z < p:=by
 intro z hz
 rcases List.mem_append.mp hz with m | m
 ·exact h z m
 ·cases List.mem_singleton.mp m
theorem zgo {p i : Int} {rw : List (Option Int)} (h : ∀ z,some z ∈ rw → 0 ≤ z ∧ z < p) (hi : 0 ≤ i ∧ i < p) : ∀ z,some z ∈ rw ++ [some i] → 0 ≤ z ∧ z < p:=by
 intro z hz
 rcases List.mem_append.mp hz with m | m
 ·exact h z m
 ·cases List.mem_singleton.mp m
  exact hi
theorem zgp {p x : Int} {cs : List Int} (hp : 0 < p) : 0 ≤ zi p x cs ∧ zi p x cs < p:=⟨z9 hp cs,zaa hp cs⟩
theorem zak : FnScope ["script","at","code","p","k","places","plan","ones","slips","way","row","number","which","entry"] ["script","at","code"] (zj zcU):=⟨rfl,rfl,rfl,by decide +kernel,rfl,by decide +kernel,by decide +kernel⟩
theorem zj3 {fd : FuncData} (T : Txt K mg t) (F : Fun K "_law_row" "_law_row" zcU t.l_row fd) : FnOk P w K mg base CX0 3 t.l_row fd ["script","at","code"] (zj1 K):=by
 obtain ⟨fd_l_draws,F_l_draws,b_l_draws⟩:=T.f_l_draws
 have G_l_draws:=zcy (P:=P) (w:=w) (base:=base) T F_l_draws
 obtain ⟨fd_l_polynomial,F_l_polynomial,b_l_polynomial⟩:=T.f_l_polynomial
 have G_l_polynomial:=zbU (P:=P) (w:=w) (base:=base) T F_l_polynomial
 obtain ⟨fd_l_value,F_l_value,b_l_value⟩:=T.f_l_value
 have G_l_value:=zcz (P:=P) (w:=w) (base:=base) T F_l_value
 refine F.ok zak (fun vs H Q E h => ?_) (fun cdv A outer s H vs Q E hr h => ?_)
 ·obtain ⟨a,c,tt,ns,at',p,k,pl,rfl,_⟩:=h
  rfl
 ·obtain ⟨a,c,tt,ns,at',p,k,pl,rfl,hS,hlen,a0,a1,hc,p0,p1,hpl,hn,q⟩:=h
  refine ⟨_,(@zd _ _ _ _ _ (@zax _ _ _ _ _ _ (@pvx _ 2 _ _ rfl) (@zaw _ _ _ _ _ _ rfl (@zl _ _ _ _ _ (@zh _ _ (3) _ zak.nd rfl (Or.inr rfl) (by trivial)) (@zl _ _ _ _ _ (@zh _ _ (4) _ zak.nd rfl (Or.inr rfl) (by trivial)) (@zl _ _ _ _ _ (@zh _ _ (5) _ zak.nd rfl (Or.inl rfl) (by trivial)) (@zO _) (by rfl)) (by rfl)) (by rfl)) (by rfl) (by rfl)) (by rfl) (by rfl) (by rfl)) (by exact (@zd _ _ _ _ _ (@zp _ _ (6) _ _ _ _ zak.nd rfl (Or.inr rfl) (@zt _ _ _ _ _ _ _ _ _ _ _ _ _ _ _ _ G_l_draws (hr.mono (by decide)) rfl T.m_l_draws F_l_draws.kp b_l_draws .nil (@zK _) (@za _ _ _ _ _ (@pvx _ 0 _ _ rfl) (by exact (@za _ _ _ _ _ (@pvx _ 1 _ _ rfl) (@za _ _ _ _ _ (@zf _ _ _ _) (@za _ _ _ _ _ (@zf _ _ _ _) (@ze _) (by rfl)) (by rfl)) (by rfl))) (by rfl)) (by decide) (by rfl) (by rfl)) (by rfl) (by trivial)) (by exact (@zd _ _ _ _ _ (@zaJ _ _ _ _ _ _ _ _ _ _ _ _ _ (7) _ _ _ zak.nd rfl (Or.inl rfl) (CompSc.of (N':=["j","plan","p","k"]) (ix:=[none,some 6,some 3,some 4]) (zj zcU) ["script","at","code","p","k","places","plan","ones","slips","way","row","number","which","entry"] rfl rfl (by decide +kernel)) rfl (@zav _ _ rfl) (@zaf _ _ _ _ _ _ rfl T.range_ (@za _ _ _ _ _ (@zf _ _ _ _) (@ze _) (by rfl)) (by rfl)) (fun _ _ _ _ => (@zh _ _ (0) _ (show (["j","plan","p","k"] : List Str).Nodup by decide +kernel) rfl (Or.inl rfl) (by trivial))) (fun _ _ _ _ => (@zU _)) (fun _ _ _ _ => (@zt _ _ _ _ _ _ _ _ _ _ _ _ _ _ _ _ G_l_polynomial (hr.mono (by decide)) rfl T.m_l_polynomial F_l_polynomial.kp b_l_polynomial .nil (@zK _) (@za _ _ _ _ _ (@za1 _ _ _ _ _ _ _ _ _ _ (zi8 (K:=K) rfl) (@pvx _ 1 _ _ rfl) (@zbb _ _ _ (@zg _ _ _ _ _ _ _ _ (@zS _) (@zf _ _ _ _) (@pvx _ 0 _ _ rfl))) (@zbD _)) (@za _ _ _ _ _ (@pvx _ 2 _ _ rfl) (@za _ _ _ _ _ (@pvx _ 3 _ _ rfl) (@ze _) (by rfl)) (by rfl)) (by rfl)) (by decide) (by rfl) (by rfl))) (by rfl) (by intro _; rfl) (by trivial)) (by exact (@zd _ _ _ _ _ (@zp _ _ (8) _ _ _ _ zak.nd rfl (Or.inl rfl) (@zt _ _ _ _ _ _ _ _ _ _ _ _ _ _ _ _ G_l_draws (hr.mono (by decide)) rfl T.m_l_draws F_l_draws.kp b_l_draws .nil (@zK _) (@za _ _ _ _ _ (@pvx _ 0 _ _ rfl) (by exact (@za _ _ _ _ _ (@zg _ _ _ _ _ _ _ _ (@zD _) (@pvx _ 1 _ _ rfl) (@zf _ _ _ _)) (@za _ _ _ _ _ (@zf _ _ _ _) (@za _ _ _ _ _ (@zf _ _ _ _) (@ze _) (by rfl)) (by rfl)) (by rfl))) (by rfl)) (by decide) (by rfl) (by rfl)) (by rfl) (by trivial)) (by exact (@zd _ _ _ _ _ (@zp _ _ (9) _ _ _ _ zak.nd rfl (Or.inl rfl) (@zg _ _ _ _ _ _ _ _ (@zA _) (@zH _ _ _ _ _ _ _ (@zw _) (@pvx _ 8 _ _ rfl) (@zf _ _ _ _) (fun _ _ => rfl)) (@zf _ _ _ _)) (by rfl) (by trivial)) (by exact (@zd _ _ _ _ _ (@zp _ _ (10) _ _ _ _ zak.nd rfl (Or.inl rfl) (@z0 _ _ _ _ (@ze _)) (by rfl) (by trivial)) (by exact (@zd _ _ _ _ _ (@zaP _ _ _ _ _ _ _ _ PassesOwn.never rfl (@zaf _ _ _ _ _ _ rfl T.range_ (@za _ _ _ _ _ (@zu _ _ _ _ _ _ _ _ _ (@zq _) (by rfl) T.len_ boot_len (@za _ _ _ _ _ (@pvx _ 5 _ _ rfl) (@ze _) (by rfl)) (by decide) (by decide) (by rfl) (by rfl)) (@ze _) (by rfl)) (by rfl)) (@zh _ _ (11) _ zak.nd rfl (Or.inl rfl) (by trivial)) (@zd _ _ _ _ _ (@zp _ _ (12) _ _ _ _ zak.nd rfl (Or.inl rfl) (@zH _ _ _ _ _ _ _ (@zw _) (@z0 _ _ _ _ (@zbZ _ _ _ _ _ _ (by exact (@zbZ _ _ _ _ _ _ (by exact (@za _ _ _ _ _ (@zg _ _ _ _ _ _ _ _ (@zA _) (@zH _ _ _ _ _ _ _ (@zw _) (@pvx _ 8 _ _ rfl) (@pvx _ 11 _ _ rfl) (fun _ _ => rfl)) (@zf _ _ _ _)) (by exact (@za _ _ _ _ _ (@zg _ _ _ _ _ _ _ _ (@zA _) (@zH _ _ _ _ _ _ _ (@zw _) (@pvx _ 8 _ _ rfl) (@pvx _ 11 _ _ rfl) (fun _ _ => rfl)) (@zf _ _ _ _)) (@za _ _ _ _ _ (@zf _ _ _ _) (@za _ _ _ _ _ (@zf _ _ _ _) (@ze _) (by rfl)) (by rfl)) (by rfl))) (by rfl))))))) (@pvx _ 9 _ _ rfl) (fun _ _ => rfl)) (by rfl) (by trivial)) (by exact (@zd _ _ _ _ _ (@zp _ _ (13) _ _ _ _ zak.nd rfl (Or.inl rfl) (@zt _ _ _ _ _ _ _ _ _ _ _ _ _ _ _ _ G_l_value (hr.mono (by decide)) rfl T.m_l_value F_l_value.kp b_l_value .nil (@zK _) (@za _ _ _ _ _ (@pvx _ 3 _ _ rfl) (@za _ _ _ _ _ (@zH _ _ _ _ _ _ _ (@zw _) (@pvx _ 7 _ _ rfl) (@pvx _ 12 _ _ rfl) (fun _ _ => rfl)) (@za _ _ _ _ _ (@zH _ _ _ _ _ _ _ (@zbE _) (@pvx _ 5 _ _ rfl) (@pvx _ 11 _ _ rfl) (fun _ _ => rfl)) (@ze _) (by rfl)) (by rfl)) (by rfl)) (by decide) (by rfl) (by rfl)) (by rfl) (by trivial)) (by exact (@zd _ _ _ _ _ (@zaT _ _ _ _ _ _ _ _ (@zE _ _ _ _ _ _ _ _ (@zdd _) (@zg _ _ _ _ _ _ _ _ (@zA _) (@zg _ _ _ _ _ _ _ _ (@zbC _) (@zH _ _ _ _ _ _ _ (@zw _) (@pvx _ 8 _ _ rfl) (@pvx _ 11 _ _ rfl) (fun _ _ => rfl)) (@zf _ _ _ _)) (@zH _ _ _ _ _ _ _ (@zw _) (@z0 _ _ _ _ (@zbZ _ _ _ _ _ _ (by exact (@zbZ _ _ _ _ _ _ (by exact (@zbZ _ _ _ _ _ _ (by exact (@za _ _ _ _ _ (@zf _ _ _ _) (@za _ _ _ _ _ (@zf _ _ _ _) (@za _ _ _ _ _ (@zf _ _ _ _) (@ze _) (by rfl)) (by rfl)) (by rfl))))))))) (@pvx _ 9 _ _ rfl) (fun _ _ => rfl))) (@zf _ _ _ _) (zM _)) (@zn _ _ _ (@zp _ _ (13) _ _ _ _ zak.nd rfl (Or.inl rfl) (@zg _ _ _ _ _ _ _ _ (@zA _) (@zg _ _ _ _ _ _ _ _ (@zbC _) (@zH _ _ _ _ _ _ _ (@zw _) (@pvx _ 8 _ _ rfl) (@pvx _ 11 _ _ rfl) (fun _ _ => rfl)) (@zf _ _ _ _)) (@pvx _ 3 _ _ rfl)) (by rfl) (by trivial))) (@zah _)) (by exact (@zd _ _ _ _ _ (@zaT _ _ _ _ _ _ _ _ (@PW.pt _ _ _ (@ze0 _ _ _ _ _ _ _ (@zE _ _ _ _ _ _ _ _ (@zdd _) (@zg _ _ _ _ _ _ _ _ (@zA _) (@zg _ _ _ _ _ _ _ _ (@zbC _) (@zH _ _ _ _ _ _ _ (@zw _) (@pvx _ 8 _ _ rfl) (@pvx _ 11 _ _ rfl) (fun _ _ => rfl)) (@zf _ _ _ _)) (@zH _ _ _ _ _ _ _ (@zw _) (@z0 _ _ _ _ (@za _ _ _ _ _ (@zf _ _ _ _) (@za _ _ _ _ _ (@zf _ _ _ _) (@ze _) (by rfl)) (by rfl))) (@zg _ _ _ _ _ _ _ _ (@zA _) (@zH _ _ _ _ _ _ _ (@zw _) (@pvx _ 8 _ _ rfl) (@zf _ _ _ _) (fun _ _ => rfl)) (@zf _ _ _ _)) (fun _ _ => rfl))) (@zf _ _ _ _) (zM _)) (@zeZ _ _ _ _ (@zE _ _ _ _ _ _ _ _ (@zey _) (@zg _ _ _ _ _ _ _ _ (@zA _) (@zH _ _ _ _ _ _ _ (@zw _) (@pvx _ 8 _ _ rfl) (@zf _ _ _ _) (fun _ _ => rfl)) (@zf _ _ _ _)) (@zf _ _ _ _) (zM _))))) (@zn _ _ _ (@zp _ _ (13) _ _ _ _ zak.nd rfl (Or.inl rfl) (@za7 _ _ _) (by rfl) (by trivial))) (@zah _)) (by exact (@zn _ _ _ (@zdp _ _ _ _ (@zdL _ _ _ _ _ _ _ _ _ _ _ _ PySem.F.plainAttrs_list PySem.F.slot_list_append PySem.F.type_list_append (@zb9 _) (@pvx _ 10 _ _ rfl) (@za _ _ _ _ _ (@pvx _ 13 _ _ rfl) (@ze _) (by rfl)) (by rfl) (by rfl) (by rfl) (by rfl) (by rfl)) (by rfl))))))))))) (by intro _; rfl)) (by exact (@zn _ _ _ (@zI _ _ _ _ (@ziP _ _ _ _ _ _ _ _ (@zE _ _ _ _ _ _ _ _ (@zdd _) (@zg _ _ _ _ _ _ _ _ (@zA _) (@zH _ _ _ _ _ _ _ (@zw _) (@pvx _ 8 _ _ rfl) (@zf _ _ _ _) (fun _ _ => rfl)) (@zf _ _ _ _)) (@zf _ _ _ _) (zM _)) (@zg _ _ _ _ _ _ _ _ (@ze5 _) (@z0 _ _ _ _ (@za _ _ _ _ _ (@za7 _ _ _) (@ze _) (by rfl))) (@zu _ _ _ _ _ _ _ _ _ (@zq _) (by rfl) T.len_ boot_len (@za _ _ _ _ _ (@pvx _ 10 _ _ rfl) (@ze _) (by rfl)) (by decide) (by decide) (by rfl) (by rfl))) (@pvx _ 10 _ _ rfl)))))))))))))))))),?_⟩
  have hsl:=sizeLine_eq
  refine ⟨_,rfl,c,_,rfl,SqT.of hc.1,rfl,_,_,rfl,_,_,rfl,_,_,rfl,rfl,?_⟩
  refine ⟨_,rfl,_,rfl,a,ns,at',16,27720,rfl,hS,hlen,a0,by omega,by decide,by decide,by decide,by decide,fun l ds H1 hl s1 hd h1l => ?_⟩
  have hdl : ds.length = 16:=hd.1
  refine ⟨3,rfl,by decide,by decide,z8 (n:=3) (fun i ys H' => zy H1 H' ∧ ∃ os : List Addr,os.length = i ∧ ys = os.map V.ref ∧ ∀ o ∈ os,∃ ms : List Int,H' o = some (.tup (ms.map V.int))) ⟨fun _ _ e => e,[],rfl,rfl,by simp⟩ (fun i ys H' hi _ => hi) (fun ys H' _ => Nat.le_refl _) ?_ ?_⟩
  ·rintro i xx ys H4 H5 hi ⟨s4,os,ho,rfl,hos⟩ ⟨rfl,rfl⟩
   refine gY ?_
   refine ⟨_,rfl,_,rfl,_,_,rfl,rfl,.inl ⟨by decide,by decide⟩,_,rfl,l,_,rfl,SqL.of (s4 _ _ h1l),fun z hz => ?_⟩
   obtain ⟨ms,ems,lms⟩:=zfV ds (some (3 * (0 + (i : Int)))) none
   rw [ems]
   refine ⟨_,rfl,_,rfl,z,ms,p,k,rfl,SqL.of zc,by omega,p0,fun po poly H6 hpo s6 _ h6 _ => ?_⟩
   have s5:=(zb (o:=.lst (ms.map V.int)) hz).trans s6
   refine ⟨zX (by rw [List.length_map]; omega),s4.trans s5,os ++ [po],by rw [List.length_append,ho]; rfl,by rw [List.map_append]; rfl,fun o hm => ?_⟩
   rcases (List.mem_append.mp hm) with hm | hm
   ·obtain ⟨m2,e⟩:=hos o hm
    exact ⟨m2,s5 _ _ e⟩
   ·rw [List.mem_singleton.mp hm]; exact ⟨poly,h6⟩
  ·rintro ys H4 on ⟨s4,os,ho,rfl,hos⟩ hon
   have s5:=s1.trans (s4.trans (zb (o:=.lst (os.map V.ref)) hon))
   have hones : zfy (upd H4 on (.lst (os.map V.ref))) on:=⟨os,ho,zc,fun o hm => let ⟨ms,e⟩:=hos o hm; ⟨ms,(zb hon) _ _ e⟩⟩
   generalize upd H4 on (.lst (os.map V.ref)) = H5 at s5 hones ⊢
   refine ⟨_,rfl,_,rfl,_,_,rfl,rfl,a,ns,at' + 1,20,27720,rfl,s5.seq hS,hlen,by omega,by omega,by decide,by decide,by decide,by decide,fun sl es H6 hsl6 s6 he h6s => ?_⟩
   have hel : es.length = 20:=he.1
   have her:=he.2
   have eat : ∀ m : Int,0 ≤ m → m < 20 → ∃ c : Int,atI (es.map V.int) m = some (.int c):=fun m h0 h1 => zcG h0 (by omega)
   obtain ⟨d16,e16⟩:=eat 16 (by decide) (by decide)
   obtain ⟨d17,e17⟩:=eat 17 (by decide) (by decide)
   obtain ⟨d18,e18⟩:=eat 18 (by decide) (by decide)
   obtain ⟨d19,e19⟩:=eat 19 (by decide) (by decide)
   have w0:=Int.emod_nonneg d16 (show (6 : Int) ≠ 0 by decide)
   have w1:=Int.emod_lt_of_pos d16 (show (0 : Int) < 6 by decide)
   refine ⟨_,rfl,sl,_,_,_,rfl,rfl,SqL.of h6s,e16,_,_,rfl,rfl,(by show (0 : Int) < 6; decide),?_⟩
   obtain ⟨way,hway⟩ : ∃ way,d16 % 6 = way:=⟨_,rfl⟩
   rw [hway] at w0 w1
   refine ⟨Nat.zero_le _,fun ro hro => ?_⟩
   have hslro : sl ≠ ro:=zF h6s hro
   have hroH : H ro = none:=(s5.trans s6).free hro
   have hro5 : H5 ro = none:=s6.free hro
   refine ⟨_,rfl,tt,_,rfl,.inr (SqT.of ((((s5.trans s6).trans (zb hro))) _ _ hc.2)),_,rfl,by rw [List.length_map]; omega,by rw [List.length_map]; omega,?_⟩
   rw [List.length_map,Int.toNat_natCast]
   refine zaO (lo:=0) (n:=pl.length) (fun i σ H' => ∃ (rw : List (Option Int)) (v11 v12 v13 : Option V),σ = [some (.ref a),some (.int at'),some (.ref c),some (.int p),some (.int k),some (.ref tt),some (.ref l),some (.ref on),some (.ref sl),some (.int way),some (.ref ro),v11,v12,v13] ∧
    rw.length = i ∧ zy H5 H' ∧ H' ro = some (.lst (rw.map enc)) ∧ H' sl = some (.lst (es.map V.int)) ∧ ∀ z,some z ∈ rw → 0 ≤ z ∧ z < p)
    ⟨[],none,none,none,by subst hway; rfl,rfl,s6.trans (zb hro),zc,by rw [zr hslro]; exact h6s,fun z hz => by simp at hz⟩ ?_ ?_
   ·rintro i σ H7 hi ⟨rw,v11,v12,v13,rfl,hrl,s7,h7r,h7s,hrg⟩
    obtain ⟨di,ei⟩:=eat (0 + (i : Int)) (by omega) (by omega)
    obtain ⟨x,hx⟩ : ∃ x,pl[i]? = some x:=⟨pl[i]'hi,by simp⟩
    obtain ⟨x0,x1⟩:=hpl x (List.mem_of_getElem? hx)
    have hxat : atI (pl.map V.int) (0 + (i : Int)) = some (.int x):=by rw [Int.zero_add]; exact zam (by rw [List.getElem?_map,hx]; rfl)
    have m20:=Int.emod_nonneg di (show (2 : Int) ≠ 0 by decide)
    have m21:=Int.emod_lt_of_pos di (show (0 : Int) < 2 by decide)
    have m30:=Int.emod_nonneg di (show (3 : Int) ≠ 0 by decide)
    have m31:=Int.emod_lt_of_pos di (show (0 : Int) < 3 by decide)
    obtain ⟨wh,ewh,wh0,wh1⟩:=zmi w0 w1 m20 (by omega) m30 m31
    refine ⟨_,rfl,_,rfl,sl,_,_,_,rfl,rfl,SqL.of h7s,ei,_,_,rfl,rfl,(by show (0 : Int) < 2; decide),_,rfl,_,rfl,sl,_,_,_,rfl,rfl,SqL.of h7s,ei,_,_,rfl,rfl,(by show (0 : Int) < 3; decide),by show 6 ≤ sizeLine; omega,fun l6 hl6 => ?_⟩
    refine ⟨_,rfl,l6,_,_,_,rfl,rfl,SqL.of zc,ewh,?_⟩
    have s8:=s7.trans (zb (o:=.lst [.int 0,.int 0,.int (di % 2),.int (di % 3),.int 0,.int 0]) hl6)
    have h8r:=(zb (o:=.lst [.int 0,.int 0,.int (di % 2),.int (di % 3),.int 0,.int 0]) hl6) _ _ h7r
    have h8s:=(zb (o:=.lst [.int 0,.int 0,.int (di % 2),.int (di % 3),.int 0,.int 0]) hl6) _ _ h7s
    obtain ⟨H8,hH8⟩ : ∃ H8,H8 = upd H7 l6 (.lst [.int 0,.int 0,.int (di % 2),.int (di % 3),.int 0,.int 0]):=⟨_,rfl⟩
    rw [← hH8] at s8 h8r h8s ⊢
    have hc8:=hc.same (s5.trans s8)
    obtain ⟨os8,o1,o2,o3⟩:=hones.same s8
    obtain ⟨ow,how⟩ : ∃ ow,os8[wh.toNat]? = some ow:=⟨os8[wh.toNat]'(by omega),by simp⟩
    obtain ⟨mw,hmw⟩:=o3 ow (List.mem_of_getElem? how)
    have hoat : atI (os8.map V.ref) wh = some (.ref ow):=by
     have e : ((wh.toNat : Nat) : Int) = wh:=by omega
     rw [← e]
     exact zam (by rw [List.getElem?_map,how]; rfl)
    refine ⟨_,rfl,_,rfl,_,rfl,on,_,_,_,rfl,rfl,SqL.of o2,hoat,_,rfl,_,rfl,tt,_,_,_,rfl,rfl,SqT.of hc8.2,hxat,p,x,ow,mw,rfl,.inr (SqT.of hmw),p0,p1,x0,x1,?_⟩
    obtain ⟨z6,ez6,z60⟩:=zk5 w0 w1
    refine ⟨_,rfl,_,rfl,sl,_,_,_,rfl,rfl,SqL.of h8s,ei,_,_,rfl,rfl,⟨by decide,by decide⟩,by show 6 ≤ sizeLine; omega,fun l7 hl7 => ?_⟩
    have u7:=zb (o:=.lst [.int 4,.int 9,.int 9,.int 9,.int 2,.int 1]) hl7
    refine ⟨_,rfl,l7,_,_,_,rfl,rfl,SqL.of zc,ez6,_,_,rfl,rfl,z60,rfl,_,rfl,?_⟩
    have s9:=s8.trans u7
    have h9r:=u7 _ _ h8r
    have h9s:=u7 _ _ h8s
    generalize upd H8 l7 (.lst [.int 4,.int 9,.int 9,.int 9,.int 2,.int 1]) = H9 at s9 h9r h9s ⊢
    have t0:=Int.emod_nonneg d17 (show (2 : Int) ≠ 0 by decide)
    have t1:=Int.emod_lt_of_pos d17 (show (0 : Int) < 2 by decide)
    obtain ⟨z2,ez2,z20⟩:=zk6 t0 t1
    refine zay (fun _ => ⟨_,rfl,_,rfl,sl,_,_,_,rfl,rfl,SqL.of h9s,ei,_,_,rfl,rfl,⟨by decide,by decide⟩,_,rfl,_,_,rfl,rfl,p0,?_⟩) (fun _ => ?_)
    all_goals
     refine ⟨_,rfl,_,rfl,sl,_,_,_,rfl,rfl,SqL.of h9s,ei,_,_,rfl,rfl,⟨by decide,by decide⟩,zaz,fun l8 hl8 => ?_⟩
     have u8:=zb (o:=.lst [.int 9,.int 3]) hl8
     have sX:=s9.trans u8
     have hXr:=u8 _ _ h9r
     have hXs:=u8 _ _ h9s
     refine ⟨_,rfl,sl,_,_,_,rfl,rfl,SqL.of hXs,e17,_,_,rfl,rfl,(by show (0 : Int) < 2; decide),l8,_,_,_,rfl,rfl,SqL.of zc,ez2,_,_,rfl,rfl,z20,rfl,_,rfl,?_⟩; refine zay (fun _ => ?_) (fun _ => ?_)
     ·refine ⟨_,rfl,sl,_,_,_,rfl,rfl,SqL.of hXs,e18,_,_,rfl,rfl,(by show (0 : Int) < 3; decide),_,_,rfl,rfl,_,rfl,?_⟩; refine zay (fun _ => ?_) (fun _ => ?_)
      ·exact ⟨_,rfl,.inl ⟨rfl,_,SqL.of hXr⟩,_,rfl,ro,_,_,rfl,rfl,hXr,zX (by rw [List.length_map]; omega),rw ++ [none],_,_,_,rfl,by rw [List.length_append,hrl]; rfl,zW sX hro5,by rw [zc,List.map_append]; rfl,by rw [zr hslro]; exact hXs,zj2 hrg⟩
      ·exact ⟨_,rfl,.inl ⟨rfl,_,SqL.of hXr⟩,_,rfl,ro,_,_,rfl,rfl,hXr,zX (by rw [List.length_map]; omega),rw ++ [some _],_,_,_,rfl,by rw [List.length_append,hrl]; rfl,zW sX hro5,by rw [zc,List.map_append]; rfl,by rw [zr hslro]; exact hXs,zgo hrg (by first | exact ⟨Int.emod_nonneg _ (by omega),Int.emod_lt_of_pos _ p0⟩ | exact zgp p0)⟩
     ·refine zek ?_
      exact ⟨_,rfl,.inl ⟨rfl,_,SqL.of hXr⟩,_,rfl,ro,_,_,rfl,rfl,hXr,zX (by rw [List.length_map]; omega),rw ++ [some _],_,_,_,rfl,by rw [List.length_append,hrl]; rfl,zW sX hro5,by rw [zc,List.map_append]; rfl,by rw [zr hslro]; exact hXs,zgo hrg (by first | exact ⟨Int.emod_nonneg _ (by omega),Int.emod_lt_of_pos _ p0⟩ | exact zgp p0)⟩
   ·rintro σ H7 ⟨rw,v11,v12,v13,rfl,hrl,s7,h7r,h7s,hrg⟩
    refine ⟨_,rfl,sl,_,_,_,rfl,rfl,SqL.of h7s,e19,_,_,rfl,rfl,(by show (0 : Int) < 30; decide),rfl,_,rfl,?_⟩
    refine zay (fun _ => ?_) (fun _ => ⟨_,rfl,q ro rw H7 hroH (s5.trans s7) hrl hrg h7r⟩)
    refine ⟨by show 1 ≤ sizeLine; omega,fun z hz => ⟨_,rfl,ro,_,rfl,.inl (SqL.of ((zb hz) _ _ h7r)),z,_,[.non],rfl,rfl,zc,by rw [List.length_map]; omega,by rw [List.length_map]; omega,by rw [List.length_map]; show 1 * _ ≤ sizeLine; omega,fun y hy => ?_⟩⟩
    have s8:=(s5.trans s7).trans (zb (o:=.lst [.non]) hz)
    refine q y (List.replicate pl.length none) _ (s8.free hy) (s8.trans (zb hy)) (by rw [List.length_replicate]) (fun z hz => by cases List.eq_of_mem_replicate hz) ?_
    rw [zc,List.length_map,zmX,hrl,Int.toNat_natCast]
theorem zbm : FnScope ["p","polynomial","x","value","number"] ["p","polynomial","x"] (zj zbO):=⟨rfl,rfl,rfl,by decide +kernel,rfl,by decide +kernel,by decide +kernel⟩
theorem zbn {fd : FuncData} (T : Txt K mg t) (F : Fun K "value_at" "value_at" zbO t.value_at fd) : FnOk P w K mg base CX0 1 t.value_at fd ["p","polynomial","x"] (zdh K):=by
 refine F.ok zbm (fun vs H Q E h => ?_) (fun cdv A outer s H vs Q E hr h => ?_)
 ·obtain ⟨p,x,a,cs,rfl,_⟩:=h
  rfl
 ·obtain ⟨p,x,a,cs,rfl,hS,p0,p1,x0,x1,q⟩:=h
  refine ⟨_,(@zd _ _ _ _ _ (@zp _ _ (3) _ _ _ _ zbm.nd rfl (Or.inl rfl) (@zf _ _ _ _) (by rfl) (by trivial)) (by exact (@zd _ _ _ _ _ (@zaP _ _ _ _ _ _ _ _ PassesOwn.never rfl (@zlO _ _ _ _ _ _ rfl T.reversed_ (@za _ _ _ _ _ (@pvx _ 1 _ _ rfl) (@ze _) (by rfl)) (by rfl)) (@zh _ _ (4) _ zbm.nd rfl (Or.inl rfl) (by trivial)) (@zn _ _ _ (@zp _ _ (3) _ _ _ _ zbm.nd rfl (Or.inl rfl) (@zg _ _ _ _ _ _ _ _ (@zA _) (@zg _ _ _ _ _ _ _ _ (@zD _) (@zg _ _ _ _ _ _ _ _ (@zS _) (@pvx _ 3 _ _ rfl) (@pvx _ 2 _ _ rfl)) (@pvx _ 4 _ _ rfl)) (@pvx _ 0 _ _ rfl)) (by rfl) (by trivial))) (by intro _; rfl)) (by exact (@zn _ _ _ (@zI _ _ _ _ (@pvx _ 3 _ _ rfl))))))),?_⟩
  refine ⟨_,rfl,a,cs.map V.int,rfl,?_⟩
  rcases hS with hS | hS
  ·refine .inl ⟨hS,?_⟩
   rw [List.length_map]
   refine zgD (n:=cs.length) (fun i σ H' => H' = H ∧ ∃ nb,σ = [some (.int p),some (.ref a),some (.int x),some (.int (zi p x (cs.drop (cs.length - i)))),nb]) ⟨rfl,none,by rw [Nat.sub_zero,List.drop_length]; rfl⟩
    (fun i σ H' hi ⟨e,_⟩ => ⟨hi,cs.map V.int,by rw [e]; exact hS,by rw [List.length_map]⟩) (fun σ H' _ => Nat.le_refl _) ?_ ?_
   ·rintro i y σ H1 H2 hi ⟨rfl,nb,rfl⟩ ⟨rfl,hy⟩
    obtain ⟨c,rfl,hc⟩:=zae (hy _ hS)
    have v0:=z9 (x:=x) p0 (cs.drop (cs.length - i))
    have v1:=zaa (x:=x) p0 (cs.drop (cs.length - i))
    refine ⟨_,rfl,_,rfl,_,_,rfl,rfl,.inl ⟨by omega,by omega⟩,_,rfl,_,_,rfl,rfl,_,rfl,_,_,rfl,rfl,p0,?_⟩
    refine ⟨rfl,some (.int c),?_⟩
    rw [zeL hi hc]
    show _ = [some (V.int p),_,_,some (V.int ((c + x * zi p x (cs.drop (cs.length - i))) % p)),_]
    rw [Int.add_comm c,Int.mul_comm x]
    rfl
   ·rintro σ H1 ⟨rfl,nb,rfl⟩
    rw [Nat.sub_self,List.drop_zero]
    exact ⟨_,rfl,q⟩
  ·refine .inr ⟨hS,?_⟩
   rw [List.length_map]
   refine zgD (n:=cs.length) (fun i σ H' => H' = H ∧ ∃ nb,σ = [some (.int p),some (.ref a),some (.int x),some (.int (zi p x (cs.drop (cs.length - i)))),nb]) ⟨rfl,none,by rw [Nat.sub_zero,List.drop_length]; rfl⟩
    (fun i σ H' hi ⟨e,_⟩ => ⟨hi,cs.map V.int,by rw [e]; exact hS,by rw [List.length_map]⟩) (fun σ H' _ => Nat.le_refl _) ?_ ?_
   ·rintro i y σ H1 H2 hi ⟨rfl,nb,rfl⟩ ⟨rfl,hy⟩
    obtain ⟨c,rfl,hc⟩:=zae (hy _ hS)
    have v0:=z9 (x:=x) p0 (cs.drop (cs.length - i))
    have v1:=zaa (x:=x) p0 (cs.drop (cs.length - i))
    refine ⟨_,rfl,_,rfl,_,_,rfl,rfl,.inl ⟨by omega,by omega⟩,_,rfl,_,_,rfl,rfl,_,rfl,_,_,rfl,rfl,p0,?_⟩
    refine ⟨rfl,some (.int c),?_⟩
    rw [zeL hi hc]
    show _ = [some (V.int p),_,_,some (V.int ((c + x * zi p x (cs.drop (cs.length - i))) % p)),_]
    rw [Int.add_comm c,Int.mul_comm x]
    rfl
   ·rintro σ H1 ⟨rfl,nb,rfl⟩
    rw [Nat.sub_self,List.drop_zero]
    exact ⟨_,rfl,q⟩
theorem zaL : FnScope ["p","number","product","square","left"] ["p","number"] (zj zcg):=⟨rfl,rfl,rfl,by decide +kernel,rfl,by decide +kernel,by decide +kernel⟩
theorem zeg {fd : FuncData} (T : Txt K mg t) (F : Fun K "inverse" "inverse" zcg t.inverse fd) : FnOk P w K mg base CX0 1 t.inverse fd ["p","number"] (zgH K):=by
 refine F.ok zaL (fun vs H Q E h => ?_) (fun cdv A outer s H vs Q E hr h => ?_)
 ·obtain ⟨p,h,rfl,_⟩:=h
  rfl
 ·obtain ⟨p,hh,rfl,mp,h0,h1,q⟩:=h
  refine ⟨_,(@zd _ _ _ _ _ (@zp _ _ (2) _ _ _ _ zaL.nd rfl (Or.inl rfl) (@zf _ _ _ _) (by rfl) (by trivial)) (by exact (@zd _ _ _ _ _ (@zp _ _ (3) _ _ _ _ zaL.nd rfl (Or.inl rfl) (@zg _ _ _ _ _ _ _ _ (@zA _) (@pvx _ 1 _ _ rfl) (@pvx _ 0 _ _ rfl)) (by rfl) (by trivial)) (by exact (@zd _ _ _ _ _ (@zp _ _ (4) _ _ _ _ zaL.nd rfl (Or.inl rfl) (@zg _ _ _ _ _ _ _ _ (@za8 _) (@pvx _ 0 _ _ rfl) (@zf _ _ _ _)) (by rfl) (by trivial)) (by exact (@zd _ _ _ _ _ (@zfG _ _ _ _ _ _ PassesOwn.never (@zE _ _ _ _ _ _ _ _ (@zey _) (@pvx _ 4 _ _ rfl) (@zf _ _ _ _) (zM _)) (@zd _ _ _ _ _ (@zaT _ _ _ _ _ _ _ _ (@zE _ _ _ _ _ _ _ _ (@zdd _) (@zg _ _ _ _ _ _ _ _ (@zA _) (@pvx _ 4 _ _ rfl) (@zf _ _ _ _)) (@zf _ _ _ _) (zM _)) (@zn _ _ _ (@zp _ _ (2) _ _ _ _ zaL.nd rfl (Or.inl rfl) (@zg _ _ _ _ _ _ _ _ (@zA _) (@zg _ _ _ _ _ _ _ _ (@zS _) (@pvx _ 2 _ _ rfl) (@pvx _ 3 _ _ rfl)) (@pvx _ 0 _ _ rfl)) (by rfl) (by trivial))) (@zah _)) (by exact (@zd _ _ _ _ _ (@zp _ _ (3) _ _ _ _ zaL.nd rfl (Or.inl rfl) (@zg _ _ _ _ _ _ _ _ (@zA _) (@zg _ _ _ _ _ _ _ _ (@zS _) (@pvx _ 3 _ _ rfl) (@pvx _ 3 _ _ rfl)) (@pvx _ 0 _ _ rfl)) (by rfl) (by trivial)) (by exact (@zn _ _ _ (@ziQ _ _ (4) _ _ _ _ _ _ zaL.nd rfl (Or.inl rfl) (@zf _ _ _ _) ziU (by trivial)))))))) (by exact (@zn _ _ _ (@zI _ _ _ _ (@pvx _ 2 _ _ rfl))))))))))),?_⟩
  have rp:=zo mp
  have e0:=Int.emod_nonneg hh (show p ≠ 0 by omega)
  have e1:=Int.emod_lt_of_pos hh (show 0 < p by omega)
  refine ⟨_,rfl,_,rfl,_,_,rfl,rfl,(by show 0 < p; omega),_,rfl,_,_,rfl,rfl,?_⟩
  refine ziT (fun σ H' => H' = H ∧ ∃ (prod sq left : Int) (n : Nat),σ = [some (.int p),some (.int hh),some (.int prod),some (.int sq),some (.int left)] ∧ 0 ≤ prod ∧ prod < p ∧ 0 ≤ sq ∧ sq < p ∧ 0 ≤ left ∧ left < 2 ^ n ∧ zca p n prod sq left = inv p hh) (fun σ _ => zlT σ)
   ⟨rfl,1,hh % p,p - 2,7,rfl,by omega,by omega,e0,e1,by omega,by omega,rfl⟩ ?_ ?_
  ·rintro σ H1 ⟨rfl,prod,sq,left,n,rfl,b0,b1,s0,s1,l0,l1,hi⟩
   refine ⟨_,rfl,_,_,rfl,rfl,_,rfl,?_⟩
   refine zay (fun hl => ?_) (fun hl => ?_)
   ·have hl : 0 < left:=by simpa using hl
    obtain ⟨m,rfl⟩ : ∃ m,n = m + 1:=by
     cases n with
     | zero => omega
     | succ m => exact ⟨m,rfl⟩
    rw [zfb hl l1] at hi
    have l2 : left / 2 < 2 ^ m:=by
     have : (2 : Int) ^ (m + 1) = 2 ^ m * 2:=Int.pow_succ ..
     omega
    have m0:=Int.emod_nonneg (prod * sq) (show p ≠ 0 by omega)
    have m1:=Int.emod_lt_of_pos (prod * sq) (show 0 < p by omega)
    have n0:=Int.emod_nonneg (sq * sq) (show p ≠ 0 by omega)
    have n1:=Int.emod_lt_of_pos (sq * sq) (show 0 < p by omega)
    refine ⟨_,rfl,_,_,rfl,rfl,(by show (0 : Int) < 2; decide),rfl,_,rfl,?_⟩; refine zay (fun ho => ?_) (fun ho => ?_)
    ·have ho : left % 2 = 1:=by simpa using ho
     rw [if_pos ho] at hi
     refine ⟨_,rfl,_,rfl,_,_,rfl,rfl,.inl ⟨by omega,by omega⟩,_,rfl,_,_,rfl,rfl,(by show 0 < p; omega),?_⟩
     refine ⟨_,rfl,_,rfl,_,_,rfl,rfl,.inl ⟨by omega,by omega⟩,_,rfl,_,_,rfl,rfl,(by show 0 < p; omega),?_⟩
     refine ⟨_,rfl,_,_,rfl,rfl,⟨by decide,by decide⟩,⟨rfl,_,_,_,m,rfl,m0,m1,n0,n1,by omega,l2,hi⟩,?_⟩
     show (left / 2).toNat < left.toNat
     omega
    ·have ho : ¬ left % 2 = 1:=by simpa using ho
     rw [if_neg ho] at hi
     refine ⟨_,rfl,_,rfl,_,_,rfl,rfl,.inl ⟨by omega,by omega⟩,_,rfl,_,_,rfl,rfl,(by show 0 < p; omega),?_⟩
     refine ⟨_,rfl,_,_,rfl,rfl,⟨by decide,by decide⟩,⟨rfl,_,_,_,m,rfl,b0,b1,n0,n1,by omega,l2,hi⟩,?_⟩
     show (left / 2).toNat < left.toNat
     omega
   ·have hl : ¬ 0 < left:=by simpa using hl
    have el : left = 0:=by omega
    subst el
    rw [zfT] at hi
    rw [← hi] at q
    exact ⟨_,rfl,q⟩
  ·rintro σ H1 Q1 Q2 hq ⟨v,e,i,j,e1,e2,k,e3,q⟩
   exact ⟨v,e,i,j,e1,e2,k,e3,hq _ _ q⟩
theorem zbs : FnScope ["p","polynomial","root","raised","kept"] ["p","polynomial","root"] (zj zaS):=⟨rfl,rfl,rfl,by decide +kernel,rfl,by decide +kernel,by decide +kernel⟩
theorem zer {fd : FuncData} (T : Txt K mg t) (F : Fun K "times_root" "times_root" zaS t.times_root fd) : FnOk P w K mg base CX0 1 t.times_root fd ["p","polynomial","root"] (zeo K):=by
 refine F.ok zbs (fun vs H Q E h => ?_) (fun cdv A outer s H vs Q E hr h => ?_)
 ·obtain ⟨p,r,a,cs,rfl,_⟩:=h
  rfl
 ·obtain ⟨p,r,a,cs,rfl,ha,hlen,p0,r0,r1,q⟩:=h
  refine ⟨_,(@zd _ _ _ _ _ (@zp _ _ (3) _ _ _ _ zbs.nd rfl (Or.inl rfl) (@zg _ _ _ _ _ _ _ _ (@zdN _) (@z0 _ _ _ _ (@za _ _ _ _ _ (@zf _ _ _ _) (@ze _) (by rfl))) (@pvx _ 1 _ _ rfl)) (by rfl) (by trivial)) (by exact (@zd _ _ _ _ _ (@zp _ _ (4) _ _ _ _ zbs.nd rfl (Or.inl rfl) (@zg _ _ _ _ _ _ _ _ (@zdN _) (@pvx _ 1 _ _ rfl) (@z0 _ _ _ _ (@za _ _ _ _ _ (@zf _ _ _ _) (@ze _) (by rfl)))) (by rfl) (by trivial)) (by exact (@zn _ _ _ (@zI _ _ _ _ (@zar _ _ _ _ _ _ _ _ _ _ _ _ _ (CompSc.of (N':=["high","low","root","p"]) (ix:=[none,none,some 2,some 0]) (zj zaS) ["p","polynomial","root","raised","kept"] rfl rfl (by decide +kernel)) rfl (@zbI _ _ _ _ (@zZ _ _ _ rfl (@zZ _ _ _ rfl (@zbd _)))) (@ze6 _ _ _ _ _ _ _ _ _ rfl T.zip_ (@za _ _ _ _ _ (@pvx _ 3 _ _ rfl) (@za _ _ _ _ _ (@pvx _ 4 _ _ rfl) (@ze _) (by rfl)) (by rfl)) (by rfl) (by rfl)) (fun _ _ _ _ => (@zaY _ (K) _ _ _ (2) _ rfl rfl (@zl _ _ _ _ _ (@zh _ _ (0) _ (show (["high","low","root","p"] : List Str).Nodup by decide +kernel) rfl (Or.inl rfl) (by trivial)) (@zl _ _ _ _ _ (@zh _ _ (1) _ (show (["high","low","root","p"] : List Str).Nodup by decide +kernel) rfl (Or.inl rfl) (by trivial)) (@zO _) (by rfl)) (by rfl)) (by rfl) (by rfl))) (fun _ _ _ _ => (@zU _)) (fun _ _ _ _ => (@zg _ _ _ _ _ _ _ _ (@zA _) (@zg _ _ _ _ _ _ _ _ (@za8 _) (@pvx _ 0 _ _ rfl) (@zg _ _ _ _ _ _ _ _ (@zS _) (@pvx _ 2 _ _ rfl) (@pvx _ 1 _ _ rfl))) (@pvx _ 3 _ _ rfl))) (by intro _; rfl)))))))),?_⟩
  have hsl:=sizeLine_eq
  refine ⟨by show 1 ≤ sizeLine; omega,fun z hz => ⟨_,rfl,z,a,[.int 0],cs.map V.int,rfl,rfl,zc,by rw [zr (zF ha hz)]; exact ha,by rw [List.length_map]; show 1 + cs.length ≤ sizeLine; omega,fun ra hra => ?_⟩⟩
  have s1 : zy H (upd (upd H z (.lst [.int 0])) ra (.lst ([.int 0] ++ cs.map V.int))):=(zb hz).trans (zb hra)
  refine ⟨_,rfl,by show 1 ≤ sizeLine; omega,fun z2 hz2 => ⟨a,z2,cs.map V.int,[.int 0],rfl,rfl,by rw [zr (zF (s1 _ _ ha) hz2)]; exact s1 _ _ ha,zc,by rw [List.length_map]; show cs.length + 1 ≤ sizeLine; omega,fun ke hke => ?_⟩⟩
  have s2:=s1.trans ((zb (o:=.lst [.int 0]) hz2).trans (zb (o:=.lst (cs.map V.int ++ [.int 0])) hke))
  have hra2 : upd (upd (upd (upd H z (.lst [.int 0])) ra (.lst ([.int 0] ++ cs.map V.int))) z2 (.lst [.int 0])) ke (.lst (cs.map V.int ++ [.int 0])) ra = some (.lst ((0 :: cs).map V.int)) :=
   ((zb (o:=.lst [.int 0]) hz2).trans (zb (o:=.lst (cs.map V.int ++ [.int 0])) hke)) _ _ zc
  have hke2 : upd (upd (upd (upd H z (.lst [.int 0])) ra (.lst ([.int 0] ++ cs.map V.int))) z2 (.lst [.int 0])) ke (.lst (cs.map V.int ++ [.int 0])) ke = some (.lst ((cs ++ [0]).map V.int)):=by rw [zc,List.map_append]; rfl
  generalize upd (upd (upd (upd H z (.lst [.int 0])) ra (.lst ([.int 0] ++ cs.map V.int))) z2 (.lst [.int 0])) ke (.lst (cs.map V.int ++ [.int 0])) = H2 at s2 hra2 hke2 ⊢
  refine ⟨_,rfl,_,rfl,ra,ke,_,_,rfl,SqL.of hra2,SqL.of hke2,z8 (n:=cs.length + 1) (fun i ys H' => ys = ((zb1 p r cs).take i).map V.int ∧ zy H2 H') ⟨by simp,fun _ _ e => e⟩ ?_ ?_ ?_ ?_⟩
  ·rintro i ys H3 hi ⟨_,s3⟩
   obtain ⟨x,hx⟩ : ∃ x,(0 :: cs)[i]? = some x:=⟨(0 :: cs)[i]'(by simpa using hi),by simp⟩
   obtain ⟨y,hy⟩ : ∃ y,(cs ++ [0])[i]? = some y:=⟨(cs ++ [0])[i]'(by simpa using hi),by simp⟩
   exact ⟨_,_,.int x,.int y,SqL.of (s3 _ _ hra2),SqL.of (s3 _ _ hke2),by rw [List.getElem?_map,hx]; rfl,by rw [List.getElem?_map,hy]; rfl⟩
  ·rintro ys H3 ⟨_,s3⟩
   exact ⟨_,_,SqL.of (s3 _ _ hra2),SqL.of (s3 _ _ hke2),.inl (by simp)⟩
  ·rintro i x ys H3 H4 hi ⟨rfl,s3⟩ ⟨T,u,v,hT,rfl,rfl,hu,hv⟩
   obtain ⟨x,rfl,hx⟩:=zae (hu _ (SqL.of (s3 _ _ hra2)))
   obtain ⟨y,rfl,hy⟩:=zae (hv _ (SqL.of (s3 _ _ hke2)))
   refine gY2 (SqT.of zc) ?_
   refine ⟨_,rfl,_,rfl,_,rfl,_,_,rfl,rfl,.inl ⟨by omega,by omega⟩,_,_,rfl,rfl,_,rfl,_,_,rfl,rfl,p0,zX ?_,?_,s3.trans (zb hT)⟩
   ·rw [List.length_map]
    exact Nat.le_trans (List.length_take_le _ _) (by omega)
   ·show _ = (List.take (i + 1) (List.zipWith (trF p r) (0 :: cs) (cs ++ [0]))).map V.int
    rw [zfU hx hy,List.map_append]
    rfl
  ·rintro ys H3 D ⟨rfl,s3⟩ hD
   refine q D _ ((s2.trans s3).free hD) ((s2.trans s3).trans (zb hD)) ?_
   rw [zc,List.take_of_length_le (by rw [zcY]; exact Nat.le_refl _)]
theorem zj4 {p f : Int} : ∀ (cs vs : List Int),vs.length ≤ cs.length → ad p f cs vs = List.zipWith (fun number other => (number + f * other) % p) cs vs ++ cs.drop vs.length
 | [],[],_ => rfl
 | _ :: _,[],_ => rfl
 | [],_ :: _,h => by simp at h
 | c :: cs,v :: vs,h => by
  show (c + f * v) % p :: ad p f cs vs = (c + f * v) % p :: (List.zipWith _ cs vs ++ cs.drop vs.length)
  rw [zj4 cs vs (by simpa using h)]
theorem zj5 {xs : List V} {k : Nat} (h : k ≤ xs.length) : za2 xs (some (k : Int)) none = xs.drop k:=by
 have e1 : HT.sIx xs.length 0 (some (k : Int)) = k:=by
  unfold HT.sIx
  simp
  split <;> omega
 have e2 : HT.sIx xs.length xs.length none = xs.length:=rfl
 unfold za2
 rw [e1,e2]
 exact List.take_of_length_le (by rw [List.length_drop]; exact Nat.le_refl _)
def zk7 (K : PySem.W.Frag) : Sp:=fun vs H Q _ => ∃ (p x y : Int) (c v b : Addr) (cs ws : List Int),vs = [.int p,.ref c,.ref v,.ref b] ∧ H c = some (.lst (cs.map V.int)) ∧ H v = some (.lst (ws.map V.int)) ∧ H b = some (.tup [.int x,.int y]) ∧ p ∈ zm ∧ 0 ≤ x ∧ x < p ∧ 0 ≤ y ∧ y < 10000 ∧ 0 < zi p x ws ∧ zi p x ws < p ∧ ws.length ≤ cs.length ∧ cs.length ≤ 1000 ∧
 ∀ (l : Addr) (H' : Hp),H l = none → zy H H' → H' l = some (.lst ((ad p ((y - zi p x cs) * inv p (zi p x ws) % p) cs ws).map V.int)) → Q (.ref l) H'
theorem zcl : FnScope ["p","polynomial","vanishing","point","x","y","missing","factor","added"] ["p","polynomial","vanishing","point"] (zj zed):=⟨rfl,rfl,rfl,by decide +kernel,rfl,by decide +kernel,by decide +kernel⟩
theorem zk8 {fd : FuncData} (T : Txt K mg t) (F : Fun K "bent" "bent" zed t.bent fd) : FnOk P w K mg base CX0 2 t.bent fd ["p","polynomial","vanishing","point"] (zk7 K):=by
 obtain ⟨fd_value_at,F_value_at,b_value_at⟩:=T.f_value_at
 have G_value_at:=zbn (P:=P) (w:=w) (base:=base) T F_value_at
 obtain ⟨fd_inverse,F_inverse,b_inverse⟩:=T.f_inverse
 have G_inverse:=zeg (P:=P) (w:=w) (base:=base) T F_inverse
 refine F.ok zcl (fun vs H Q E h => ?_) (fun cdv A outer s H vs Q E hr h => ?_)
 ·obtain ⟨p,x,y,c,v,b,cs,ws,rfl,_⟩:=h
  rfl
 ·obtain ⟨p,x,y,c,v,b,cs,ws,rfl,hc,hv,hb,mp,x0,x1,y0,y1,g0,g1,hle,hlen,q⟩:=h
  refine ⟨_,(@zd _ _ _ _ _ (@zax _ _ _ _ _ _ (@pvx _ 3 _ _ rfl) (@zaw _ _ _ _ _ _ rfl (@zl _ _ _ _ _ (@zh _ _ (4) _ zcl.nd rfl (Or.inl rfl) (by trivial)) (@zl _ _ _ _ _ (@zh _ _ (5) _ zcl.nd rfl (Or.inl rfl) (by trivial)) (@zO _) (by rfl)) (by rfl)) (by rfl) (by rfl)) (by rfl) (by rfl) (by rfl)) (by exact (@zd _ _ _ _ _ (@zp _ _ (6) _ _ _ _ zcl.nd rfl (Or.inl rfl) (@zg _ _ _ _ _ _ _ _ (@za8 _) (@pvx _ 5 _ _ rfl) (@zt _ _ _ _ _ _ _ _ _ _ _ _ _ _ _ _ G_value_at (hr.mono (by decide)) rfl T.m_value_at F_value_at.kp b_value_at .nil (@zK _) (@za _ _ _ _ _ (@pvx _ 0 _ _ rfl) (@za _ _ _ _ _ (@pvx _ 1 _ _ rfl) (@za _ _ _ _ _ (@pvx _ 4 _ _ rfl) (@ze _) (by rfl)) (by rfl)) (by rfl)) (by decide) (by rfl) (by rfl))) (by rfl) (by trivial)) (by exact (@zd _ _ _ _ _ (@zp _ _ (7) _ _ _ _ zcl.nd rfl (Or.inr rfl) (@zg _ _ _ _ _ _ _ _ (@zA _) (@zg _ _ _ _ _ _ _ _ (@zS _) (@pvx _ 6 _ _ rfl) (@zt _ _ _ _ _ _ _ _ _ _ _ _ _ _ _ _ G_inverse (hr.mono (by decide)) rfl T.m_inverse F_inverse.kp b_inverse .nil (@zK _) (@za _ _ _ _ _ (@pvx _ 0 _ _ rfl) (@za _ _ _ _ _ (@zt _ _ _ _ _ _ _ _ _ _ _ _ _ _ _ _ G_value_at (hr.mono (by decide)) rfl T.m_value_at F_value_at.kp b_value_at .nil (@zK _) (@za _ _ _ _ _ (@pvx _ 0 _ _ rfl) (@za _ _ _ _ _ (@pvx _ 2 _ _ rfl) (@za _ _ _ _ _ (@pvx _ 4 _ _ rfl) (@ze _) (by rfl)) (by rfl)) (by rfl)) (by decide) (by rfl) (by rfl)) (@ze _) (by rfl)) (by rfl)) (by decide) (by rfl) (by rfl))) (@pvx _ 0 _ _ rfl)) (by rfl) (by trivial)) (by exact (@zd _ _ _ _ _ (@zaJ _ _ _ _ _ _ _ _ _ _ _ _ _ (8) _ _ _ zcl.nd rfl (Or.inl rfl) (CompSc.of (N':=["number","other","factor","p"]) (ix:=[none,none,some 7,some 0]) (zj zed) ["p","polynomial","vanishing","point","x","y","missing","factor","added"] rfl rfl (by decide +kernel)) rfl (@zbI _ _ _ _ (@zZ _ _ _ rfl (@zZ _ _ _ rfl (@zbd _)))) (@ze6 _ _ _ _ _ _ _ _ _ rfl T.zip_ (@za _ _ _ _ _ (@pvx _ 1 _ _ rfl) (@za _ _ _ _ _ (@pvx _ 2 _ _ rfl) (@ze _) (by rfl)) (by rfl)) (by rfl) (by rfl)) (fun _ _ _ _ => (@zaY _ (K) _ _ _ (2) _ rfl rfl (@zl _ _ _ _ _ (@zh _ _ (0) _ (show (["number","other","factor","p"] : List Str).Nodup by decide +kernel) rfl (Or.inl rfl) (by trivial)) (@zl _ _ _ _ _ (@zh _ _ (1) _ (show (["number","other","factor","p"] : List Str).Nodup by decide +kernel) rfl (Or.inl rfl) (by trivial)) (@zO _) (by rfl)) (by rfl)) (by rfl) (by rfl))) (fun _ _ _ _ => (@zU _)) (fun _ _ _ _ => (@zg _ _ _ _ _ _ _ _ (@zA _) (@zg _ _ _ _ _ _ _ _ (@zD _) (@pvx _ 0 _ _ rfl) (@zg _ _ _ _ _ _ _ _ (@zS _) (@pvx _ 2 _ _ rfl) (@pvx _ 1 _ _ rfl))) (@pvx _ 3 _ _ rfl))) (by rfl) (by intro _; rfl) (by trivial)) (by exact (@zn _ _ _ (@zI _ _ _ _ (@zg _ _ _ _ _ _ _ _ (@zdN _) (@pvx _ 8 _ _ rfl) (@za1 _ _ _ _ _ _ _ _ _ _ zb8 (@pvx _ 1 _ _ rfl) (@zbb _ _ _ (@zu _ _ _ _ _ _ _ _ _ (@zq _) (by rfl) T.len_ boot_len (@za _ _ _ _ _ (@pvx _ 8 _ _ rfl) (@ze _) (by rfl)) (by decide) (by decide) (by rfl) (by rfl))) (@zbD _))))))))))))),?_⟩
  have hsl:=sizeLine_eq
  have rp:=zo mp
  have p0 : 0 < p:=by omega
  have v0:=z9 (x:=x) p0 cs
  have v1:=zaa (x:=x) p0 cs
  refine ⟨_,rfl,b,_,rfl,SqT.of hb,rfl,_,_,rfl,_,_,rfl,rfl,?_⟩
  refine ⟨_,rfl,_,rfl,_,rfl,_,rfl,p,x,c,cs,rfl,.inl (SqL.of hc),p0,by omega,x0,x1,_,_,rfl,rfl,?_⟩
  refine ⟨_,rfl,_,rfl,_,rfl,_,rfl,_,rfl,p,x,v,ws,rfl,.inl (SqL.of hv),p0,by omega,x0,x1,p,_,rfl,mp,by omega,by omega,_,_,rfl,rfl,.inl ⟨by omega,by omega⟩,_,rfl,_,_,rfl,rfl,p0,?_⟩
  have f0:=Int.emod_nonneg ((y - zi p x cs) * inv p (zi p x ws)) (show p ≠ 0 by omega)
  have f1:=Int.emod_lt_of_pos ((y - zi p x cs) * inv p (zi p x ws)) p0
  refine ⟨_,rfl,_,rfl,c,v,_,_,rfl,SqL.of hc,SqL.of hv,zeM (n:=ws.length) (f:=fun number other => (number + ((y - zi p x cs) * inv p (zi p x ws) % p) * other) % p) hc hv hle (Nat.le_refl _) (.inr (Nat.le_refl _)) (by omega) ?_ ?_⟩
  ·intro j u w H6 T R B hu hv s6 hT hR
   refine gY2 (SqT.of zc) ?_
   exact ⟨_,rfl,_,rfl,_,rfl,_,_,rfl,rfl,.inl ⟨by omega,by omega⟩,_,_,rfl,rfl,_,rfl,_,_,rfl,rfl,p0,hR⟩
  ·intro D H6 s6 hD
   obtain ⟨f,hf⟩ : ∃ f,(y - zi p x cs) * inv p (zi p x ws) % p = f:=⟨_,rfl⟩
   rw [hf] at q ⊢
   have lz : (List.zipWith (fun number other => (number + f * other) % p) cs ws).length = ws.length:=by rw [List.length_zipWith]; omega
   have s7:=s6.trans (zb (o:=.lst ((List.zipWith (fun number other => (number + f * other) % p) cs ws).map V.int)) hD)
   have h7D : upd H6 D (.lst ((List.zipWith (fun number other => (number + f * other) % p) cs ws).map V.int)) D = some (.lst ((List.zipWith (fun number other => (number + f * other) % p) cs ws).map V.int)):=zc
   generalize upd H6 D (.lst ((List.zipWith (fun number other => (number + f * other) % p) cs ws).map V.int)) = H7 at s7 h7D ⊢
   have h7c:=s7 _ _ hc
   refine ⟨_,rfl,_,rfl,_,rfl,D,_,rfl,.inl (SqL.of h7D),?_⟩
   refine ⟨_,rfl,c,_,rfl,SqL.of h7c,fun z hz => ?_⟩
   have ec : za2 (cs.map V.int) (some ((((List.zipWith (fun number other => (number + f * other) % p) cs ws).map V.int).length : Nat) : Int)) none = (cs.drop ws.length).map V.int:=by
    rw [List.length_map,lz,zj5 (by rw [List.length_map]; exact hle),List.map_drop]
   rw [ec]
   have s8:=zb (o:=.lst ((cs.drop ws.length).map V.int)) hz
   refine ⟨D,z,_,_,rfl,rfl,s8 _ _ h7D,zc,by rw [List.length_map,List.length_map,lz,List.length_drop]; omega,fun l hl => q l _ (((s7.trans s8).free hl)) ((s7.trans s8).trans (zb hl)) ?_⟩
   rw [zc,zj4 cs ws hle,List.map_append]
theorem zaM : FnScope ["p","points","polynomial","vanishing","x","y"] ["p","points"] (zj zch):=⟨rfl,rfl,rfl,by decide +kernel,rfl,by decide +kernel,by decide +kernel⟩
theorem zcA {fd : FuncData} (T : Txt K mg t) (F : Fun K "through" "through" zch t.through fd) : FnOk P w K mg base CX0 3 t.through fd ["p","points"] (zgj K):=by
 obtain ⟨fd_bent,F_bent,b_bent⟩:=T.f_bent
 have G_bent:=zk8 (P:=P) (w:=w) (base:=base) T F_bent
 obtain ⟨fd_times_root,F_times_root,b_times_root⟩:=T.f_times_root
 have G_times_root:=zer (P:=P) (w:=w) (base:=base) T F_times_root
 refine F.ok zaM (fun vs H Q E h => ?_) (fun cdv A outer s H vs Q E hr h => ?_)
 ·obtain ⟨p,a,pts,rfl,_⟩:=h
  rfl
 ·obtain ⟨p,a,pts,rfl,hP,hlen,mp,hp,hyr,q⟩:=h
  refine ⟨_,(@zd _ _ _ _ _ (@zp _ _ (2) _ _ _ _ zaM.nd rfl (Or.inl rfl) (@zg _ _ _ _ _ _ _ _ (@ze5 _) (@z0 _ _ _ _ (@za _ _ _ _ _ (@zf _ _ _ _) (@ze _) (by rfl))) (@zu _ _ _ _ _ _ _ _ _ (@zq _) (by rfl) T.len_ boot_len (@za _ _ _ _ _ (@pvx _ 1 _ _ rfl) (@ze _) (by rfl)) (by decide) (by decide) (by rfl) (by rfl))) (by rfl) (by trivial)) (by exact (@zd _ _ _ _ _ (@zp _ _ (3) _ _ _ _ zaM.nd rfl (Or.inl rfl) (@z0 _ _ _ _ (@za _ _ _ _ _ (@zf _ _ _ _) (@ze _) (by rfl))) (by rfl) (by trivial)) (by exact (@zd _ _ _ _ _ (@zaP _ _ _ _ _ _ _ _ PassesOwn.never rfl (@zai _ _ _ _ (@pvx _ 1 _ _ rfl)) (@zaw _ _ _ _ _ _ rfl (@zl _ _ _ _ _ (@zh _ _ (4) _ zaM.nd rfl (Or.inl rfl) (by trivial)) (@zl _ _ _ _ _ (@zh _ _ (5) _ zaM.nd rfl (Or.inl rfl) (by trivial)) (@zO _) (by rfl)) (by rfl)) (by rfl) (by rfl)) (@zd _ _ _ _ _ (@zp _ _ (2) _ _ _ _ zaM.nd rfl (Or.inl rfl) (@zt _ _ _ _ _ _ _ _ _ _ _ _ _ _ _ _ G_bent (hr.mono (by decide)) rfl T.m_bent F_bent.kp b_bent .nil (@zK _) (@za _ _ _ _ _ (@pvx _ 0 _ _ rfl) (by exact (@za _ _ _ _ _ (@pvx _ 2 _ _ rfl) (@za _ _ _ _ _ (@pvx _ 3 _ _ rfl) (@za _ _ _ _ _ (@zaH _ _ _ _ _ (@za _ _ _ _ _ (@pvx _ 4 _ _ rfl) (@za _ _ _ _ _ (@pvx _ 5 _ _ rfl) (@ze _) (by rfl)) (by rfl))) (@ze _) (by rfl)) (by rfl)) (by rfl))) (by rfl)) (by decide) (by rfl) (by rfl)) (by rfl) (by trivial)) (by exact (@zn _ _ _ (@zp _ _ (3) _ _ _ _ zaM.nd rfl (Or.inl rfl) (@zt _ _ _ _ _ _ _ _ _ _ _ _ _ _ _ _ G_times_root (hr.mono (by decide)) rfl T.m_times_root F_times_root.kp b_times_root .nil (@zK _) (@za _ _ _ _ _ (@pvx _ 0 _ _ rfl) (@za _ _ _ _ _ (@pvx _ 3 _ _ rfl) (@za _ _ _ _ _ (@pvx _ 4 _ _ rfl) (@ze _) (by rfl)) (by rfl)) (by rfl)) (by decide) (by rfl) (by rfl)) (by rfl) (by trivial))))) (by intro _; rfl)) (by exact (@zn _ _ _ (@zI _ _ _ _ (@zat _ _ _ _ _ _ _ _ _ (@zaD _) (by rfl) T.tuple_ boot_tuple (@za _ _ _ _ _ (@pvx _ 2 _ _ rfl) (@ze _) (by rfl)) (by decide) (by decide) (by rfl) (by rfl)))))))))),?_⟩
  have hsl:=sizeLine_eq
  have rp:=zo mp
  have p0 : 0 < p:=by omega
  obtain ⟨bs,hS,hbl,hb⟩:=id hP
  refine ⟨by show 1 ≤ sizeLine; omega,fun z hz => ⟨_,rfl,a,_,rfl,.inl ((zb hz).seq hS),z,_,[.int 0],rfl,rfl,zc,by rw [List.length_map]; omega,by rw [List.length_map]; omega,by rw [List.length_map]; show 1 * _ ≤ sizeLine; omega,fun c hc => ?_⟩⟩
  have s0:=zb (o:=.lst [.int 0]) hz
  have hcH : H c = none:=s0.free hc
  refine ⟨by show 1 ≤ sizeLine; omega,fun v hv => ?_⟩
  have hcv : c ≠ v:=zF zc hv
  rw [List.length_map,zb4,hbl,Int.toNat_natCast] at hv ⊢
  have s2 : zy H (upd (upd (upd H z (.lst [.int 0])) c (.lst ((List.replicate pts.length 0).map V.int))) v (.lst [.int 1])):=(s0.trans (zb hc)).trans (zb hv)
  refine ⟨_,rfl,a,rfl,⟨_,s2.seq hS⟩,zcC (K:=K) (a:=a) (xs:=bs.map V.ref) (fun i σ H' => ∃ (c v : Addr) (s : List Int × List Int) (e4 e5 : Option V),σ = [some (.int p),some (.ref a),some (.ref c),some (.ref v),e4,e5] ∧
   s = (pts.take i).foldl (zb2 p) (List.replicate pts.length 0,[1]) ∧ Nw p pts.length ((pts.take i).map (md p)) s ∧ zy H H' ∧ H' c = some (.lst (s.1.map V.int)) ∧ H' v = some (.lst (s.2.map V.int)))
   ⟨c,v,_,none,none,rfl,rfl,by rw [List.take_zero]; exact zfS mp _,s2,by rw [zr hcv]; exact zc,zc⟩ (fun i σ H' _ ⟨_,_,_,_,_,_,_,_,s3,_⟩ => s3.seq hS) ?_ ?_⟩
  ·rintro i y σ H1 hy ⟨c,v,s,e4,e5,rfl,hs,nw,s1,h1c,h1v⟩
   obtain ⟨b,rfl,hbi⟩:=zan hy
   obtain ⟨hi,_⟩:=List.getElem?_eq_some_iff.mp hbi
   obtain ⟨⟨x,y⟩,hq⟩ : ∃ q,pts[i]? = some q:=⟨pts[i]'(by omega),by simp⟩
   have hbq:=s1 _ _ (hb i b _ hbi hq)
   have hsp:=zct hq
   have hp':=hp
   rw [hsp,List.map_append,List.map_cons] at hp'
   have hap:=hp'.apart
   obtain ⟨x0,x1,m0,m1⟩:=hp.rg _ (List.mem_map.mpr ⟨_,List.mem_of_getElem? hq,rfl⟩)
   obtain ⟨y0,y1⟩:=hyr _ (List.mem_of_getElem? hq)
   dsimp only [md] at x0 x1 m0 m1 y0 y1
   have hil : i < pts.length:=by omega
   have htl : (pts.take i).length = i:=by rw [List.length_take]; omega
   have nw2:=zhe mp nw (q:=md p (x,y)) (by rw [List.length_map,htl]; exact hil) x0 x1 m0 m1 hap
   rw [zgi] at nw2
   obtain ⟨hg0,hg1⟩:=zhd mp nw (q:=(x,y)) x0 x1 (fun a ha => ⟨(hap a ha).1,(hap a ha).2.1,(hap a ha).2.2.1⟩)
   dsimp only at hg0 hg1
   have hst : zb2 p s (x,y) = (ad p ((y - zi p x s.1) * inv p (zi p x s.2) % p) s.1 s.2,zb1 p x s.2):=rfl
   rw [hst] at nw2
   have l1:=nw.lc
   have l2:=nw.lv
   rw [List.length_map,htl] at l2
   refine ⟨b,_,rfl,SqT.of hbq,rfl,_,_,rfl,_,_,rfl,rfl,?_⟩
   refine ⟨_,rfl,_,rfl,_,rfl,_,rfl,_,rfl,by show 2 ≤ sizeLine; omega,fun tt ht => ?_⟩
   have t1:=zb (o:=.tup [.int x,.int y]) ht
   refine ⟨p,x,y,c,v,tt,s.1,s.2,rfl,t1 _ _ h1c,t1 _ _ h1v,zc,mp,x0,x1,y0,y1,hg0,hg1,by omega,by omega,fun l H3 hl s3 h3l => ?_⟩
   have s4:=t1.trans s3
   refine ⟨_,rfl,_,rfl,_,rfl,p,x,v,s.2,rfl,s4 _ _ h1v,by omega,p0,x0,by omega,fun l2 H4 hl2 s5 h4l => ?_⟩
   refine ⟨l,l2,zb2 p s (x,y),_,_,rfl,?_,?_,(s1.trans s4).trans s5,?_,?_⟩
   ·rw [take_snoc hq,List.foldl_append,← hs]
    rfl
   ·rw [take_snoc hq,hst,List.map_append]
    exact nw2
   ·rw [hst]
    exact s5 _ _ h3l
   ·rw [hst]
    exact h4l
  ·rintro σ H1 ⟨c,v,s,e4,e5,rfl,hs,nw,s1,h1c,h1v⟩
   rw [List.length_map,hbl,List.take_length] at hs
   refine ⟨_,rfl,c,_,rfl,.inl ⟨SqL.of h1c,fun l hl => q l _ (s1.free hl) (s1.trans (zb hl)) ?_⟩⟩
   rw [zc,hs,zmg]
   rfl
theorem zaG : FnScope ["code","row","p","k","places"] ["code","row"] (zj zaA):=⟨rfl,rfl,rfl,by decide +kernel,rfl,by decide +kernel,by decide +kernel⟩
theorem za9 {fd : FuncData} (T : Txt K mg t) (F : Fun K "heard_points" "heard_points" zaA t.heard_points fd) : FnOk P w K mg base CX0 1 t.heard_points fd ["code","row"] (zkT K):=by
 refine F.ok zaG (fun vs H Q E h => ?_) (fun cdv A outer s H vs Q E hr h => ?_)
 ·obtain ⟨c,tt,r,p,k,pl,rw,rfl,_⟩:=h
  rfl
 ·obtain ⟨c,tt,r,p,k,pl,rw,rfl,hc,hr',hn,q⟩:=h
  refine ⟨_,(@zd _ _ _ _ _ (@zax _ _ _ _ _ _ (@pvx _ 0 _ _ rfl) (@zaw _ _ _ _ _ _ rfl (@zl _ _ _ _ _ (@zh _ _ (2) _ zaG.nd rfl (Or.inl rfl) (by trivial)) (@zl _ _ _ _ _ (@zh _ _ (3) _ zaG.nd rfl (Or.inl rfl) (by trivial)) (@zl _ _ _ _ _ (@zh _ _ (4) _ zaG.nd rfl (Or.inl rfl) (by trivial)) (@zO _) (by rfl)) (by rfl)) (by rfl)) (by rfl) (by rfl)) (by rfl) (by rfl) (by rfl)) (by exact (@zn _ _ _ (@zI _ _ _ _ (@zar _ _ _ _ _ _ _ _ _ _ _ _ _ (CompSc.of (N':=["place","entry"]) (ix:=[none,none]) (zj zaA) ["code","row","p","k","places"] rfl rfl (by decide +kernel)) rfl (@zbI _ _ _ _ (@zZ _ _ _ rfl (@zZ _ _ _ rfl (@zbd _)))) (@zjm _ _ _ _ _ _ _ _ _ rfl T.zip_ (@za _ _ _ _ _ (@pvx _ 4 _ _ rfl) (@za _ _ _ _ _ (@pvx _ 1 _ _ rfl) (@ze _) (by rfl)) (by rfl)) (by rfl) (by rfl)) (fun _ _ _ _ => (@zaY _ (K) _ _ _ (2) _ rfl rfl (@zl _ _ _ _ _ (@zh _ _ (0) _ (show (["place","entry"] : List Str).Nodup by decide +kernel) rfl (Or.inl rfl) (by trivial)) (@zl _ _ _ _ _ (@zh _ _ (1) _ (show (["place","entry"] : List Str).Nodup by decide +kernel) rfl (Or.inl rfl) (by trivial)) (@zO _) (by rfl)) (by rfl)) (by rfl) (by rfl))) (fun _ _ _ _ => (@za3 _ _ _ (@zE _ _ _ _ _ _ _ _ (@ze2 _) (@pvx _ 1 _ _ rfl) (@za7 _ _ _) (zM _)))) (fun _ _ _ _ => (@zaH _ _ _ _ _ (@za _ _ _ _ _ (@pvx _ 0 _ _ rfl) (@za _ _ _ _ _ (@pvx _ 1 _ _ rfl) (@ze _) (by rfl)) (by rfl)))) (by intro _; rfl)))))),?_⟩
  have hsl:=sizeLine_eq
  have hl:=hr'.len
  refine ⟨_,rfl,c,_,rfl,SqT.of hc.1,rfl,_,_,rfl,_,_,rfl,_,_,rfl,rfl,?_⟩
  refine ⟨_,rfl,_,rfl,tt,r,_,_,rfl,SqT.of hc.2,hr'.at',z8 (n:=pl.length) (fun i ys H' => zy H H' ∧ ∃ us : List Addr,ys = us.map V.ref ∧ PtB H' us (hps (pl.take i) (rw.take i))) ⟨fun _ _ e => e,[],rfl,.nil⟩ ?_ ?_ ?_ ?_⟩
  ·rintro i ys H3 hi ⟨s3,_⟩
   obtain ⟨o,ho⟩ : ∃ o,rw[i]? = some o:=⟨rw[i]'(by omega),by simp⟩
   exact ⟨_,_,.int pl[i],enc o,SqT.of (s3 _ _ hc.2),s3.seq hr'.at',by rw [List.getElem?_map,List.getElem?_eq_getElem hi]; rfl,by rw [List.getElem?_map,ho]; rfl⟩
  ·rintro ys H3 ⟨s3,_⟩
   exact ⟨_,_,SqT.of (s3 _ _ hc.2),s3.seq hr'.at',.inl (by rw [List.length_map])⟩
  ·rintro i xx ys H3 H4 hi ⟨s3,us,rfl,hus⟩ ⟨T,u,v,hT,rfl,rfl,hu,hv⟩
   obtain ⟨x,rfl,hx⟩:=zae (hu _ (SqT.of (s3 _ _ hc.2)))
   obtain ⟨o,rfl,ho⟩:=zfe (hv _ (s3.seq hr'.at'))
   have v4:=zb (o:=.tup [.int x,enc o]) hT
   have s4:=s3.trans v4
   have hs:=zd5 hx ho
   have hul:=hus.length
   have hb:=zbM (pl.take i) (rw.take i)
   rw [List.length_take] at hb
   refine ⟨T,_,rfl,SqT.of zc,rfl,_,_,rfl,_,_,rfl,rfl,?_⟩
   refine ⟨_,rfl,rfl,_,rfl,?_⟩
   cases o with
   | none =>
    refine zek ⟨s4,us,rfl,?_⟩
    rw [hs,List.append_nil]
    exact hus.same v4
   | some z =>
    refine zng ⟨_,rfl,_,rfl,by show 2 ≤ sizeLine; omega,fun T2 hT2 => ⟨by rw [List.length_map]; omega,s4.trans (zb hT2),us ++ [T2],by rw [List.map_append]; rfl,?_⟩⟩
    rw [hs]
    exact Paired.snoc (hus.same (v4.trans (zb hT2))) zc
  ·rintro ys H3 D ⟨s3,us,rfl,hus⟩ hD
   rw [List.take_length,List.take_of_length_le (by omega)] at hus
   exact q D us _ (s3.free hD) (s3.trans (zb hD)) zc (hus.same (zb hD))
end
end My
end
section
set_option maxHeartbeats 3999000
namespace My
open PySem L2 PyProof.Rows
section
variable {P : Program} {w : World} {K : PySem.W.Frag} {mg : Str → Option Value} {base : Heap} {t : Adr}
theorem zgW : FnScope ["p","vector","times","other"] ["p","vector","times","other"] (zj zby):=⟨rfl,rfl,rfl,by decide +kernel,rfl,by decide +kernel,by decide +kernel⟩
theorem zgX {fd : FuncData} (T : Txt K mg t) (F : Fun K "without" "without" zby t.without fd) : FnOk P w K mg base CX0 1 t.without fd ["p","vector","times","other"] (zgS K):=by
 refine F.ok zgW (fun vs H Q E h => ?_) (fun cdv A outer s H vs Q E hr h => ?_)
 ·obtain ⟨p,tm,a,b,as,bs,rfl,_⟩:=h
  rfl
 ·obtain ⟨p,tm,a,b,as,bs,rfl,ha,hb,hl,hn,p0,t0,t1,q⟩:=h
  refine ⟨_,(@zn _ _ _ (@zI _ _ _ _ (@zar _ _ _ _ _ _ _ _ _ _ _ _ _ (CompSc.of (N':=["number","less","times","p"]) (ix:=[none,none,some 2,some 0]) (zj zby) ["p","vector","times","other"] rfl rfl (by decide +kernel)) rfl (@zbI _ _ _ _ (@zZ _ _ _ rfl (@zZ _ _ _ rfl (@zbd _)))) (@ze6 _ _ _ _ _ _ _ _ _ rfl T.zip_ (@za _ _ _ _ _ (@pvx _ 1 _ _ rfl) (@za _ _ _ _ _ (@pvx _ 3 _ _ rfl) (@ze _) (by rfl)) (by rfl)) (by rfl) (by rfl)) (fun _ _ _ _ => (@zaY _ (K) _ _ _ (2) _ rfl rfl (@zl _ _ _ _ _ (@zh _ _ (0) _ (show (["number","less","times","p"] : List Str).Nodup by decide +kernel) rfl (Or.inl rfl) (by trivial)) (@zl _ _ _ _ _ (@zh _ _ (1) _ (show (["number","less","times","p"] : List Str).Nodup by decide +kernel) rfl (Or.inl rfl) (by trivial)) (@zO _) (by rfl)) (by rfl)) (by rfl) (by rfl))) (fun _ _ _ _ => (@zU _)) (fun _ _ _ _ => (@zg _ _ _ _ _ _ _ _ (@zA _) (@zg _ _ _ _ _ _ _ _ (@za8 _) (@pvx _ 0 _ _ rfl) (@zg _ _ _ _ _ _ _ _ (@zS _) (@pvx _ 2 _ _ rfl) (@pvx _ 1 _ _ rfl))) (@pvx _ 3 _ _ rfl))) (by intro _; rfl)))),?_⟩
  have hsl:=sizeLine_eq
  refine ⟨_,rfl,_,rfl,a,b,_,_,rfl,SqL.of ha,SqL.of hb,zeM (n:=as.length) (f:=fun x y => (x - tm * y) % p) ha hb (Nat.le_refl _) (by omega) (.inl (Nat.le_refl _)) (by omega) ?_ ?_⟩
  ·intro j u w H6 T R B hu hv s6 hT hR
   refine gY2 (SqT.of zc) ?_
   exact ⟨_,rfl,_,rfl,_,rfl,_,_,rfl,rfl,.inl ⟨by omega,by omega⟩,_,_,rfl,rfl,_,rfl,_,_,rfl,rfl,p0,hR⟩
  ·intro D H6 s6 hD
   exact q D _ (s6.free hD) (s6.trans (zb hD)) zc
theorem zC : FnScope ["p","vectors","length","cleared","count","vector","whole","lead","other","leads","factor"] ["p","vectors"] (zj zac):=⟨rfl,rfl,rfl,by decide +kernel,rfl,by decide +kernel,by decide +kernel⟩
theorem zcV {fd : FuncData} (T : Txt K mg t) (F : Fun K "first_relation" "first_relation" zac t.first_relation fd) : FnOk P w K mg base CX0 2 t.first_relation fd ["p","vectors"] (zcS K):=by
 obtain ⟨fd_without,F_without,b_without⟩:=T.f_without
 have G_without:=zgX (P:=P) (w:=w) (base:=base) T F_without
 obtain ⟨fd_inverse,F_inverse,b_inverse⟩:=T.f_inverse
 have G_inverse:=zeg (P:=P) (w:=w) (base:=base) T F_inverse
 refine F.ok zC (fun vs H Q E h => ?_) (fun cdv A outer s H vs Q E hr h => ?_)
 ·obtain ⟨p,a,ls,vv,L,rfl,_⟩:=h
  rfl
 ·obtain ⟨p,a,ls,vv,L,rfl,ha,hls,hne,hN,hL,hvv,hp,qn,qs⟩:=h
  refine ⟨_,(@zd _ _ _ _ _ (@zp _ _ (2) _ _ _ _ zC.nd rfl (Or.inl rfl) (@zu _ _ _ _ _ _ _ _ _ (@zq _) (by rfl) T.len_ boot_len (@za _ _ _ _ _ (@zH _ _ _ _ _ _ _ (@zw _) (@pvx _ 1 _ _ rfl) (@zf _ _ _ _) (fun _ _ => rfl)) (@ze _) (by rfl)) (by decide) (by decide) (by rfl) (by rfl)) (by rfl) (by trivial)) (by exact (@zd _ _ _ _ _ (@zp _ _ (3) _ _ _ _ zC.nd rfl (Or.inl rfl) (@z0 _ _ _ _ (@ze _)) (by rfl) (by trivial)) (by exact (@zd _ _ _ _ _ (@zaP _ _ _ _ _ _ _ _ PassesOwn.never rfl (@zi4 _ _ _ _ _ _ _ _ rfl T.enumerate_ (@za _ _ _ _ _ (@pvx _ 1 _ _ rfl) (@ze _) (by rfl)) (by rfl)) (@zaw _ _ _ _ _ _ rfl (@zl _ _ _ _ _ (@zh _ _ (4) _ zC.nd rfl (Or.inl rfl) (by trivial)) (@zl _ _ _ _ _ (@zh _ _ (5) _ zC.nd rfl (Or.inl rfl) (by trivial)) (@zO _) (by rfl)) (by rfl)) (by rfl) (by rfl)) (@zd _ _ _ _ _ (@zp _ _ (6) _ _ _ _ zC.nd rfl (Or.inr rfl) (@zg _ _ _ _ _ _ _ _ (@zdN _) (@pvx _ 5 _ _ rfl) (@zg _ _ _ _ _ _ _ _ (@ze5 _) (@z0 _ _ _ _ (@za _ _ _ _ _ (@zf _ _ _ _) (@ze _) (by rfl))) (@zu _ _ _ _ _ _ _ _ _ (@zq _) (by rfl) T.len_ boot_len (@za _ _ _ _ _ (@pvx _ 1 _ _ rfl) (@ze _) (by rfl)) (by decide) (by decide) (by rfl) (by rfl)))) (by rfl) (by trivial)) (by exact (@zd _ _ _ _ _ (@zax _ _ _ _ _ _ (@zf _ _ _ _) (@ze1 _ _ _ _ _ _ _ (@pvx _ 6 _ _ rfl) (@zg _ _ _ _ _ _ _ _ (@zD _) (@pvx _ 2 _ _ rfl) (@pvx _ 4 _ _ rfl)) set_list (by intro _; rfl)) (by rfl) (by rfl) (by rfl)) (by exact (@zd _ _ _ _ _ (@zaP _ _ _ _ _ _ _ _ PassesOwn.never rfl (@zai _ _ _ _ (@pvx _ 3 _ _ rfl)) (@zaw _ _ _ _ _ _ rfl (@zl _ _ _ _ _ (@zh _ _ (7) _ zC.nd rfl (Or.inl rfl) (by trivial)) (@zl _ _ _ _ _ (@zh _ _ (8) _ zC.nd rfl (Or.inl rfl) (by trivial)) (@zO _) (by rfl)) (by rfl)) (by rfl) (by rfl)) (@zn _ _ _ (@zp _ _ (6) _ _ _ _ zC.nd rfl (Or.inr rfl) (@zt _ _ _ _ _ _ _ _ _ _ _ _ _ _ _ _ G_without (hr.mono (by decide)) rfl T.m_without F_without.kp b_without .nil (@zK _) (@za _ _ _ _ _ (@pvx _ 0 _ _ rfl) (by exact (@za _ _ _ _ _ (@pvx _ 6 _ _ rfl) (@za _ _ _ _ _ (@zH _ _ _ _ _ _ _ (@zw _) (@pvx _ 6 _ _ rfl) (@pvx _ 7 _ _ rfl) (fun _ _ => rfl)) (@za _ _ _ _ _ (@pvx _ 8 _ _ rfl) (@ze _) (by rfl)) (by rfl)) (by rfl))) (by rfl)) (by decide) (by rfl) (by rfl)) (by rfl) (by trivial))) (by intro _; rfl)) (by exact (@zd _ _ _ _ _ (@zaJ _ _ _ _ _ _ _ _ _ _ _ _ _ (9) _ _ _ zC.nd rfl (Or.inl rfl) (CompSc.of (N':=["at","whole"]) (ix:=[none,some 6]) (zj zac) ["p","vectors","length","cleared","count","vector","whole","lead","other","leads","factor"] rfl rfl (by decide +kernel)) rfl (@zav _ _ rfl) (@zaf _ _ _ _ _ _ rfl T.range_ (@za _ _ _ _ _ (@pvx _ 2 _ _ rfl) (@ze _) (by rfl)) (by rfl)) (fun _ _ _ _ => (@zh _ _ (0) _ (show (["at","whole"] : List Str).Nodup by decide +kernel) rfl (Or.inl rfl) (by trivial))) (fun _ _ _ _ => (@za3 _ _ _ (@zE _ _ _ _ _ _ _ _ (@zlg _) (@zH _ _ _ _ _ _ _ (@zb0 _ (K) rfl) (@pvx _ 1 _ _ rfl) (@pvx _ 0 _ _ rfl) (fun _ _ => rfl)) (@zf _ _ _ _) (zM _)))) (fun _ _ _ _ => (@pvx _ 0 _ _ rfl)) (by rfl) (by intro _; rfl) (by trivial)) (by exact (@zd _ _ _ _ _ (@zaT _ _ _ _ _ _ _ _ (@ziO _ _ _ _ (@ziY _ _ _ (@pvx _ 9 _ _ rfl) (fun _ => rfl))) (@zn _ _ _ (@zI _ _ _ _ (@za1 _ _ _ _ _ _ _ _ _ _ zb8 (@pvx _ 6 _ _ rfl) (@zbb _ _ _ (@pvx _ 2 _ _ rfl)) (@zbb _ _ _ (@zg _ _ _ _ _ _ _ _ (@zD _) (@zg _ _ _ _ _ _ _ _ (@zD _) (@pvx _ 2 _ _ rfl) (@pvx _ 4 _ _ rfl)) (@zf _ _ _ _)))))) (@zah _)) (by exact (@zd _ _ _ _ _ (@zp _ _ (10) _ _ _ _ zC.nd rfl (Or.inr rfl) (@zt _ _ _ _ _ _ _ _ _ _ _ _ _ _ _ _ G_inverse (hr.mono (by decide)) rfl T.m_inverse F_inverse.kp b_inverse .nil (@zK _) (@za _ _ _ _ _ (@pvx _ 0 _ _ rfl) (@za _ _ _ _ _ (@zH _ _ _ _ _ _ _ (@zw _) (@pvx _ 6 _ _ rfl) (@zH _ _ _ _ _ _ _ (@zw _) (@pvx _ 9 _ _ rfl) (@zf _ _ _ _) (fun _ _ => rfl)) (fun _ _ => rfl)) (@ze _) (by rfl)) (by rfl)) (by decide) (by rfl) (by rfl)) (by rfl) (by trivial)) (by exact (@zn _ _ _ (@zdp _ _ _ _ (@zdL _ _ _ _ _ _ _ _ _ _ _ _ PySem.F.plainAttrs_list PySem.F.slot_list_append PySem.F.type_list_append (@zb9 _) (@pvx _ 3 _ _ rfl) (@za _ _ _ _ _ (@zaH _ _ _ _ _ (@za _ _ _ _ _ (@zH _ _ _ _ _ _ _ (@zw _) (@pvx _ 9 _ _ rfl) (@zf _ _ _ _) (fun _ _ => rfl)) (@za _ _ _ _ _ (@zar _ _ _ _ _ _ _ _ _ _ _ _ _ (CompSc.of (N':=["number","factor","p"]) (ix:=[none,some 10,some 0]) (zj zac) ["p","vectors","length","cleared","count","vector","whole","lead","other","leads","factor"] rfl rfl (by decide +kernel)) rfl (@zav _ _ rfl) (@zai _ _ _ _ (@pvx _ 6 _ _ rfl)) (fun _ _ _ _ => (@zh _ _ (0) _ (show (["number","factor","p"] : List Str).Nodup by decide +kernel) rfl (Or.inl rfl) (by trivial))) (fun _ _ _ _ => (@zU _)) (fun _ _ _ _ => (@zg _ _ _ _ _ _ _ _ (@zA _) (@zg _ _ _ _ _ _ _ _ (@zS _) (@pvx _ 0 _ _ rfl) (@pvx _ 1 _ _ rfl)) (@pvx _ 2 _ _ rfl))) (by intro _; rfl)) (@ze _) (by rfl)) (by rfl))) (@ze _) (by rfl)) (by rfl) (by rfl) (by rfl) (by rfl) (by rfl)) (by rfl))))))))))))))) (by intro _; rfl)) (by exact (@zn _ _ _ (@zI _ _ _ _ (@za7 _ _ _))))))))),?_⟩
  have hsl:=sizeLine_eq
  have rp:=zo hp
  have p0 : 0 < p:=by omega
  have hll:=hls.length
  have hN0 : 0 < vv.length:=List.length_pos_iff.mpr hne
  obtain ⟨l0,hl0⟩ : ∃ l0,ls[0]? = some l0:=⟨ls[0]'(by omega),by simp⟩
  obtain ⟨v0,hv0,hv0a⟩:=Paired.get hls hl0
  have hv0L:=(hvv v0 (List.mem_of_getElem? hv0)).1
  refine ⟨_,rfl,a,_,_,.ref l0,rfl,rfl,SqL.of ha,zam (j:=0) (by rw [List.getElem?_map,hl0]; rfl),l0,_,rfl,.inl (SqL.of hv0a),?_⟩
  rw [List.length_map,hv0L]
  refine ⟨by show 0 ≤ sizeLine; omega,fun ca hca => ?_⟩
  have u1:=zb (o:=.lst []) hca
  refine ⟨_,rfl,a,_,rfl,SqL.of (u1 _ _ ha),zgD (n:=vv.length) (fun i σ H' => ∃ (cs : List Addr) (cl : List (Nat × List Int)) (e4 e5 e6 e7 e8 e9 e10 : Option V),σ = [some (.int p),some (.ref a),some (.int (L : Int)),some (.ref ca),e4,e5,e6,e7,e8,e9,e10] ∧ zy H H' ∧ H' ca = some (.lst (cs.map V.ref)) ∧ ClA ca H' cs cl ∧ Ech p L vv.length i vv cl)
   ⟨[],[],none,none,none,none,none,none,none,rfl,u1,zc,.nil,Ech.start p L vv.length vv⟩ ?_ ?_ ?_ ?_⟩
  ·rintro i σ H1 hi ⟨cs,cl,e4,e5,e6,e7,e8,e9,e10,rfl,s1,_⟩
   exact ⟨_,.ref (ls[i]'(by omega)),SqL.of (s1 _ _ ha),by rw [List.getElem?_map,List.getElem?_eq_getElem (by omega)]; rfl⟩
  ·rintro σ H1 ⟨cs,cl,e4,e5,e6,e7,e8,e9,e10,rfl,s1,_⟩
   exact ⟨_,SqL.of (s1 _ _ ha),by rw [List.length_map]; omega⟩
  ·rintro i x σ H1 H2 hi ⟨cs,cl,e4,e5,e6,e7,e8,e9,e10,rfl,s1,h1c,hcl,E⟩ ⟨T,v,hT,rfl,rfl,hv⟩
   obtain ⟨lv,rfl,hlv⟩:=zan (hv _ (SqL.of (s1 _ _ ha)))
   obtain ⟨vec,hvec,hva⟩:=Paired.get hls hlv
   obtain ⟨hvl,hvr⟩:=hvv vec (List.mem_of_getElem? hvec)
   have t2:=zb (o:=.tup [.int (i : Int),.ref lv]) hT
   refine ⟨T,_,rfl,SqT.of zc,rfl,_,_,rfl,_,_,rfl,rfl,?_⟩
   have s2:=s1.trans t2
   have h2c:=t2 _ _ h1c
   have hcl2:=hcl.same t2
   generalize upd H1 T (.tup [.int (i : Int),.ref lv]) = H2 at t2 s2 h2c hcl2 ⊢
   refine ⟨_,rfl,by show 1 ≤ sizeLine; omega,fun z hz => ⟨_,rfl,a,_,rfl,.inl (SqL.of ((s2.trans (zb hz)) _ _ ha)),z,_,[.int 0],rfl,rfl,zc,by rw [List.length_map]; omega,by rw [List.length_map]; omega,by rw [List.length_map]; show 1 * _ ≤ sizeLine; omega,fun y hy => ?_⟩⟩
   rw [List.length_map,zb4,hll,Int.toNat_natCast]
   have t3:=(zb (o:=.lst [.int 0]) hz).trans (zb (o:=.lst ((List.replicate vv.length (0 : Int)).map V.int)) hy)
   have h3y : upd (upd H2 z (.lst [.int 0])) y (.lst ((List.replicate vv.length (0 : Int)).map V.int)) y = some (.lst ((List.replicate vv.length (0 : Int)).map V.int)):=zc
   generalize upd (upd H2 z (.lst [.int 0])) y (.lst ((List.replicate vv.length (0 : Int)).map V.int)) = H3 at t3 h3y ⊢
   refine ⟨lv,y,_,_,rfl,rfl,(s2.trans t3) _ _ hva,h3y,by rw [List.length_map,List.length_map,List.length_replicate]; omega,fun wl hwl => ?_⟩
   rw [← List.map_append]
   have t4:=zb (o:=.lst ((vec ++ List.replicate vv.length (0 : Int)).map V.int)) hwl
   refine ⟨_,rfl,_,rfl,_,rfl,_,_,rfl,rfl,wl,_,_,L + i,rfl,rfl,zc,?_,?_⟩
   ·rw [← Int.natCast_add]
    exact zdq (by rw [List.length_map,List.length_append,List.length_replicate]; omega)
   have ew : ((vec ++ List.replicate vv.length (0 : Int)).map V.int).set (L + i) (.int 1) = ((vec ++ List.replicate vv.length (0 : Int)).set (L + i) 1).map V.int:=by rw [List.map_set]
   rw [ew,zkb]
   have t4:=t3.trans (zb (o:=.lst (((vec ++ List.replicate vv.length (0 : Int)).set (L + i) 1).map V.int)) hwl)
   have h4w : upd H3 wl (.lst (((vec ++ List.replicate vv.length (0 : Int)).set (L + i) 1).map V.int)) wl = some (.lst (((vec ++ List.replicate vv.length (0 : Int)).set (L + i) 1).map V.int)):=zc
   have W0:=zjJ hp (N:=vv.length) hi hvec hvl hvr
   have hwc : wl ≠ ca:=fun e => by
    have:=t3 _ _ h2c
    rw [← e,hwl] at this
    cases this
   generalize upd H3 wl (.lst (((vec ++ List.replicate vv.length (0 : Int)).set (L + i) 1).map V.int)) = H4 at t4 h4w ⊢
   generalize (vec ++ List.replicate vv.length (0 : Int)).set (L + i) 1 = w0 at W0 h4w ⊢
   have s4:=s2.trans t4
   have h4c:=t4 _ _ h2c
   have hcl4:=hcl2.same t4
   have hcll:=hcl4.length
   refine ⟨_,rfl,ca,rfl,⟨_,SqL.of h4c⟩,zcC (K:=K) (a:=ca) (xs:=cs.map V.ref) (fun j σ H' => ∃ (wa : Addr) (w : List Int) (e7 e8 : Option V),σ = [some (.int p),some (.ref a),some (.int (L : Int)),some (.ref ca),some (.int (i : Int)),some (.ref lv),some (.ref wa),e7,e8,e9,e10] ∧ zy H4 H' ∧ H' wa = some (.lst (w.map V.int)) ∧ wa ≠ ca ∧ Wh p L vv.length i vv (cl.take j) w)
    ⟨wl,w0,_,_,rfl,fun _ _ e => e,h4w,hwc,W0⟩ (fun j σ H' _ ⟨_,_,_,_,_,s5,_⟩ => SqL.of (s5 _ _ h4c)) ?_ ?_⟩
   ·rintro j y σ H5 hy ⟨wa,w,e7,e8,rfl,s5,h5w,hwa,W⟩
    obtain ⟨b,rfl,hb⟩:=zan hy
    obtain ⟨aa,haa,oa,hb1,hb2,hb3⟩:=Paired.get hcl4 hb
    obtain ⟨o1,o2,o3,_⟩:=E.one j aa haa
    refine ⟨b,_,rfl,SqT.of (s5 _ _ hb1),rfl,_,_,rfl,_,_,rfl,rfl,?_⟩
    have hg:=zcw p0 W.rg aa.1
    refine ⟨_,rfl,_,rfl,_,rfl,_,rfl,wa,_,_,.int (gl w aa.1),rfl,rfl,SqL.of h5w,zam (by rw [List.getElem?_map,zaV (by rw [W.ln]; omega)]; rfl),_,rfl,p,gl w aa.1,wa,oa,w,aa.2,rfl,h5w,s5 _ _ hb2,by rw [W.ln,o2],by rw [W.ln]; omega,p0,hg.1,by omega,fun l H6 hl s6 h6l => ?_⟩
    refine ⟨l,_,_,_,rfl,s5.trans s6,h6l,fun e => ?_,zkQ hp E hi haa W⟩
    have:=s5 _ _ h4c
    rw [← e,hl] at this
    cases this
   ·rintro σ H5 ⟨wa,w,e7,e8,rfl,s5,h5w,hwa,W⟩
    rw [List.length_map,hcll,List.take_length] at W
    have h5c:=s5 _ _ h4c
    have hcl5:=hcl4.same s5
    have s15:=s4.trans s5
    refine ⟨_,rfl,_,rfl,by omega,by omega,?_⟩
    rw [Int.toNat_natCast]
    refine z8 (n:=L) (fun j ys H' => H' = H5 ∧ ys = (((List.range j).filter fun m => decide (gl w m ≠ 0)).map fun m : Nat => (m : Int)).map V.int) ⟨rfl,rfl⟩ (fun j ys H' hj _ => hj) (fun ys H' _ => Nat.le_refl _) ?_ ?_
    ·rintro j xx ys H6 H7 hj ⟨rfl,rfl⟩ ⟨rfl,rfl⟩
     have hgj : (w.map V.int)[j]? = some (.int (gl w j)):=by rw [List.getElem?_map,zaV (by rw [W.ln]; omega)]; rfl
     refine ⟨_,rfl,_,rfl,wa,_,_,.int (gl w j),rfl,rfl,SqL.of h5w,by rw [Int.zero_add]; exact zam hgj,rfl,_,rfl,?_⟩
     have hfl:=List.length_filter_le (fun m => decide (gl w m ≠ 0)) (List.range j)
     rw [List.length_range] at hfl
     rw [List.range_succ,List.filter_append,List.map_append,List.map_append]
     by_cases h0 : gl w j = 0
     ·refine zay (fun h => absurd h (by rw [h0]; simp)) (fun _ => ⟨rfl,?_⟩)
      rw [List.filter_cons_of_neg (by simpa using h0),List.filter_nil,List.map_nil,List.map_nil,List.append_nil]
     ·refine zay (fun _ => ⟨_,rfl,zX (by rw [List.length_map,List.length_map]; omega),rfl,?_⟩) (fun h => absurd (by simpa using h0) h)
      rw [List.filter_cons_of_pos (by simpa using h0),List.filter_nil,Int.zero_add]
      rfl
    ·rintro ys H6 D ⟨rfl,rfl⟩ hD
     have t7:=zb (o:=.lst ((((List.range L).filter fun m => decide (gl w m ≠ 0)).map fun m : Nat => (m : Int)).map V.int)) hD
     have h7D : upd H6 D (.lst ((((List.range L).filter fun m => decide (gl w m ≠ 0)).map fun m : Nat => (m : Int)).map V.int)) D = _:=zc
     generalize upd H6 D (.lst ((((List.range L).filter fun m => decide (gl w m ≠ 0)).map fun m : Nat => (m : Int)).map V.int)) = H7 at t7 h7D ⊢
     have s7:=s15.trans t7
     have h7w:=t7 _ _ h5w
     have h7c:=t7 _ _ h5c
     have hcl7:=hcl5.same t7
     refine ⟨_,rfl,_,.inl ⟨_,SqL.of h7D,rfl⟩,?_⟩
     cases hlds : (List.range L).filter fun m => decide (gl w m ≠ 0) with
     | nil =>
      refine zay (fun _ => ?_) (fun h => absurd rfl h)
      have hz : ∀ x,x < L → gl w x = 0:=fun x hx => by
       have:=List.filter_eq_nil_iff.mp hlds x (List.mem_range.mpr hx)
       simpa using this
      refine ⟨_,rfl,_,rfl,_,rfl,_,rfl,_,rfl,_,_,rfl,rfl,_,_,rfl,rfl,_,rfl,wa,_,rfl,SqL.of h7w,fun l hl => ?_⟩
      have ec : za2 (w.map V.int) (some (L : Int)) (some ((L : Int) + (i : Int) + 1)) = ((w.drop L).take (i + 1)).map V.int:=by
       rw [show (L : Int) + (i : Int) + 1 = ((L + i + 1 : Nat) : Int) by omega,zk0 (by rw [List.length_map,W.ln]; omega),← List.map_drop,← List.map_take,show L + i + 1 - L = i + 1 by omega]
      rw [ec]
      obtain ⟨d1,d2,d3⟩:=zme W hi hz
      exact qs l _ i _ (s7.free hl) (s7.trans (zb hl)) zc d1 hi d2 d3
     | cons ld lds =>
      refine zay (fun h => absurd h (by simp)) (fun _ => ?_)
      have hm : ld ∈ (List.range L).filter fun m => decide (gl w m ≠ 0):=by rw [hlds]; exact List.mem_cons_self
      (obtain ⟨hm1,hm2⟩:=List.mem_filter.mp hm)
      have hld : ld < L:=List.mem_range.mp hm1
      have hg0 : gl w ld ≠ 0:=by simpa using hm2
      obtain ⟨g0,g1⟩:=zcw p0 W.rg ld
      rw [hlds] at h7D
      have hat0 : atI ((((ld :: lds).map fun m : Nat => (m : Int))).map V.int) 0 = some (.int (ld : Int)):=zam (j:=0) rfl
      refine ⟨_,rfl,_,rfl,_,rfl,D,_,_,.int (ld : Int),rfl,rfl,SqL.of h7D,hat0,wa,_,_,.int (gl w ld),rfl,rfl,SqL.of h7w,zam (by rw [List.getElem?_map,zaV (by rw [W.ln]; omega)]; rfl),p,gl w ld,rfl,hp,g0,g1,?_⟩
      refine ⟨_,rfl,.inl ⟨rfl,_,SqL.of h7c⟩,_,rfl,D,_,_,.int (ld : Int),rfl,rfl,SqL.of h7D,hat0,_,rfl,wa,rfl,⟨_,SqL.of h7w⟩,zeN (fs:=(w.map fun x => x * inv p (gl w ld) % p).map V.int) (SqL.of h7w) (by rw [List.length_map,List.length_map,List.length_map]) (by rw [List.length_map,W.ln]; omega) ?_ ?_⟩
      ·intro j x y R B hx hy hR
       obtain ⟨n,rfl,hn⟩:=zae hx
       obtain ⟨n',rfl,hn'⟩:=zae hy
       rw [List.getElem?_map,hn] at hn'
       cases hn'
       have hnr:=W.rg n (List.mem_of_getElem? hn)
       exact gY ⟨_,rfl,_,rfl,_,_,rfl,rfl,.inl ⟨by omega,by omega⟩,_,rfl,_,_,rfl,rfl,p0,hR⟩
      ·intro D2 hD2
       have t8:=zb (o:=.lst ((w.map fun x => x * inv p (gl w ld) % p).map V.int)) hD2
       have h8D : upd H7 D2 (.lst ((w.map fun x => x * inv p (gl w ld) % p).map V.int)) D2 = some (.lst ((w.map fun x => x * inv p (gl w ld) % p).map V.int)):=zc
       have hDc : D2 ≠ ca:=fun e => by rw [e,h7c] at hD2; cases hD2
       generalize upd H7 D2 (.lst ((w.map fun x => x * inv p (gl w ld) % p).map V.int)) = H8 at t8 h8D ⊢
       refine ⟨by show 2 ≤ sizeLine; omega,fun tb htb => ?_⟩
       have t9:=zb (o:=.tup [.int (ld : Int),.ref D2]) htb
       have h9t : upd H8 tb (.tup [.int (ld : Int),.ref D2]) tb = some (.tup [.int (ld : Int),.ref D2]):=zc
       have h9c:=t9 _ _ (t8 _ _ h7c)
       have s9:=(s7.trans t8).trans t9
       have hcl9:=(hcl7.same t8).same t9
       have h9D:=t9 _ _ h8D
       generalize upd H8 tb (.tup [.int (ld : Int),.ref D2]) = H9 at t9 h9t h9c s9 hcl9 h9D ⊢
       have hln:=E.ln
       refine ⟨ca,_,_,rfl,rfl,h9c,by rw [List.length_map,hcll,hln]; omega,cs ++ [tb],_,_,_,_,_,_,_,_,rfl,zW s9 hca,by rw [zc,List.map_append]; rfl,Paired.snoc (hcl9.put h9c) ⟨D2,?_,?_,hDc⟩,zjK hp E hi W hld hg0⟩
       ·rw [zr (fun e => by rw [e,h9c] at h9t; cases h9t)]
        exact h9t
       ·rw [zr hDc]
        exact h9D
  ·rintro σ H1 ⟨cs,cl,e4,e5,e6,e7,e8,e9,e10,rfl,s1,h1c,hcl,E⟩
   exact qn H1 s1 (zjL E)
theorem zc9 : FnScope ["p","left","points"] ["p","left","points"] (zj zas):=⟨rfl,rfl,rfl,by decide +kernel,rfl,by decide +kernel,by decide +kernel⟩
theorem zda {fd : FuncData} (T : Txt K mg t) (F : Fun K "times_entries" "times_entries" zas t.times_entries fd) : FnOk P w K mg base CX0 4 t.times_entries fd ["p","left","points"] (zc6 K):=by
 obtain ⟨fd_through,F_through,b_through⟩:=T.f_through
 have G_through:=zcA (P:=P) (w:=w) (base:=base) T F_through
 obtain ⟨fd_value_at,F_value_at,b_value_at⟩:=T.f_value_at
 have G_value_at:=zbn (P:=P) (w:=w) (base:=base) T F_value_at
 refine F.ok zc9 (fun vs H Q E h => ?_) (fun cdv A outer s H vs Q E hr h => ?_)
 ·obtain ⟨p,la,a,l,bs,pts,rfl,_⟩:=h
  rfl
 ·obtain ⟨p,la,a,l,bs,pts,rfl,hla,ha,hB,hn,hp,hP,q⟩:=h
  refine ⟨_,(@zn _ _ _ (@zI _ _ _ _ (@zt _ _ _ _ _ _ _ _ _ _ _ _ _ _ _ _ G_through (hr.mono (by decide)) rfl T.m_through F_through.kp b_through .nil (@zK _) (@za _ _ _ _ _ (@pvx _ 0 _ _ rfl) (@za _ _ _ _ _ (@zar _ _ _ _ _ _ _ _ _ _ _ _ _ (CompSc.of (N':=["x","y","p","left"]) (ix:=[none,none,some 0,some 1]) (zj zas) ["p","left","points"] rfl rfl (by decide +kernel)) rfl (@zbI _ _ _ _ (@zZ _ _ _ rfl (@zZ _ _ _ rfl (@zbd _)))) (@zai _ _ _ _ (@pvx _ 2 _ _ rfl)) (fun _ _ _ _ => (@zaY _ (K) _ _ _ (2) _ rfl rfl (@zl _ _ _ _ _ (@zh _ _ (0) _ (show (["x","y","p","left"] : List Str).Nodup by decide +kernel) rfl (Or.inl rfl) (by trivial)) (@zl _ _ _ _ _ (@zh _ _ (1) _ (show (["x","y","p","left"] : List Str).Nodup by decide +kernel) rfl (Or.inl rfl) (by trivial)) (@zO _) (by rfl)) (by rfl)) (by rfl) (by rfl))) (fun _ _ _ _ => (@zU _)) (fun _ _ _ _ => (@zaH _ _ _ _ _ (@za _ _ _ _ _ (@pvx _ 0 _ _ rfl) (@za _ _ _ _ _ (@zg _ _ _ _ _ _ _ _ (@zS _) (@zt _ _ _ _ _ _ _ _ _ _ _ _ _ _ _ _ G_value_at (hr.mono (by decide)) rfl T.m_value_at F_value_at.kp b_value_at .nil (@zK _) (@za _ _ _ _ _ (@pvx _ 2 _ _ rfl) (@za _ _ _ _ _ (@pvx _ 3 _ _ rfl) (@za _ _ _ _ _ (@pvx _ 0 _ _ rfl) (@ze _) (by rfl)) (by rfl)) (by rfl)) (by decide) (by rfl) (by rfl)) (@pvx _ 1 _ _ rfl)) (@ze _) (by rfl)) (by rfl)))) (by intro _; rfl)) (@ze _) (by rfl)) (by rfl)) (by decide) (by rfl) (by rfl)))),?_⟩
  have hsl:=sizeLine_eq
  have rp:=zo hp
  have p0 : 0 < p:=by omega
  have hbl:=hB.length
  refine ⟨_,rfl,_,rfl,a,rfl,⟨_,ha⟩,z8 (n:=bs.length) (fun i ys H' => zy H H' ∧ ∃ us : List Addr,ys = us.map V.ref ∧ PtB H' us ((pts.take i).map fun a => (a.1,zi p a.1 l * a.2))) ⟨fun _ _ e => e,[],rfl,.nil⟩ ?_ ?_ ?_ ?_⟩
  ·rintro i ys H1 hi ⟨s1,_⟩
   exact ⟨_,.ref bs[i],s1.seq ha,by rw [List.getElem?_map,List.getElem?_eq_getElem hi]; rfl⟩
  ·rintro ys H1 ⟨s1,_⟩
   exact ⟨_,s1.seq ha,by rw [List.length_map]; exact Nat.le_refl _⟩
  ·rintro i y ys H1 H2 hi ⟨s1,us,rfl,hus⟩ ⟨rfl,hy⟩
   obtain ⟨b,rfl,hb⟩:=zan (hy _ (s1.seq ha))
   obtain ⟨pt,hpt,hat⟩:=Paired.get hB hb
   obtain ⟨x0,x1,y0,y1⟩:=hP.rg pt (List.mem_of_getElem? hpt)
   have hul:=hus.length
   rw [List.length_map,List.length_take] at hul
   have v0:=z9 (x:=pt.1) p0 l
   have v1:=zaa (x:=pt.1) p0 l
   refine gY2 (SqT.of (s1 _ _ hat)) ⟨_,rfl,_,rfl,_,rfl,_,rfl,p,pt.1,la,l,rfl,.inr (zfv s1 hla),p0,by omega,x0,x1,_,rfl,_,_,rfl,rfl,.inl ⟨by omega,by omega⟩,by show 2 ≤ sizeLine; omega,fun z hz => ?_⟩
   refine ⟨by rw [List.length_map]; omega,s1.trans (zb hz),us ++ [z],by rw [List.map_append]; rfl,?_⟩
   rw [take_snoc hpt,List.map_append]
   exact Paired.snoc (hus.same (zb hz)) zc
  ·rintro ys H1 D ⟨s1,us,rfl,hus⟩ hD
   rw [hbl,List.take_length] at hus
   have t2:=zb (o:=.lst (us.map V.ref)) hD
   have h2D : upd H1 D (.lst (us.map V.ref)) D = some (.lst (us.map V.ref)):=zc
   have hus2:=hus.same t2
   generalize upd H1 D (.lst (us.map V.ref)) = H2 at t2 h2D hus2 ⊢
   refine ⟨p,D,_,rfl,hus2.pts h2D,by rw [List.length_map]; omega,hp,by rw [zjS]; exact zcf p0 hP,fun q hq => ?_,fun z H3 hz s3 h3 => q z H3 ((s1.trans t2).free hz) ((s1.trans t2).trans s3) (by rw [zjS] at h3; exact h3)⟩
   obtain ⟨b,hb,rfl⟩:=List.mem_map.mp hq
   obtain ⟨_,_,y0,y1⟩:=hP.rg b hb
   have v0:=z9 (x:=b.1) p0 l
   have v1:=zaa (x:=b.1) p0 l
   dsimp only
   have h1 : zi p b.1 l * b.2 ≤ 97 * 97:=Int.mul_le_mul (by omega) (by omega) y0 (by omega)
   have h2:=Int.mul_nonneg v0 y0
   omega
theorem ziH : FnScope ["rights","many"] ["rights","many"] (zj s_beyond):=⟨rfl,rfl,rfl,by decide +kernel,rfl,by decide +kernel,by decide +kernel⟩
theorem ziI {fd : FuncData} (T : Txt K mg t) (F : Fun K "beyond" "beyond" s_beyond t.beyond fd) : FnOk P w K mg base CX0 1 t.beyond fd ["rights","many"] (ziA K):=by
 refine F.ok ziH (fun vs H Q E h => ?_) (fun cdv A outer s H vs Q E hr h => ?_)
 ·obtain ⟨a,m,bs,rs,rfl,_⟩:=h
  rfl
 ·obtain ⟨a,m,bs,rs,rfl,ha,hT,hlen,q⟩:=h
  refine ⟨_,(@zn _ _ _ (@zI _ _ _ _ (@zkJ _ _ _ _ _ _ _ _ _ _ _ _ _ _ _ _ _ _ _ _ _ (CompSc.of (N':=["right","number","many"]) (ix:=[none,none,some 1]) (zj s_beyond) ["rights","many"] rfl rfl (by decide +kernel)) rfl (zdt (js:=[0]) (i:=0) (by decide)) (zdt (js:=[1]) (i:=1) (by decide)) (by decide) (by decide) (@zai _ _ _ _ (@pvx _ 0 _ _ rfl)) (fun _ _ _ _ => (@zh _ _ (0) _ (show (["right","number","many"] : List Str).Nodup by decide +kernel) rfl (Or.inl rfl) (by trivial))) (fun _ _ _ _ => (@zU _)) (fun _ _ _ _ => (@zkV _ (K) _ _ _ rfl (@za1 _ _ _ _ _ _ _ _ _ _ (zjR (K:=K) rfl) (@pvx _ 0 _ _ rfl) (@zbb _ _ _ (@pvx _ 2 _ _ rfl)) (@zbD _)))) (fun _ _ _ _ => (@zh _ _ (1) _ (show (["right","number","many"] : List Str).Nodup by decide +kernel) rfl (Or.inl rfl) (by trivial))) (fun _ _ _ _ => (@zU _)) (fun _ _ _ _ => (@pvx _ 1 _ _ rfl)) (by intro _; rfl) (by intros; rfl)))),?_⟩
  have hsl:=sizeLine_eq
  have hbl:=hT.length
  refine ⟨_,rfl,a,rfl,⟨_,ha⟩,zhz (n:=bs.length) (fun i ys H' => ys = (bey m (rs.take i)).map V.int ∧ zy H H') ⟨rfl,fun _ _ e => e⟩ ?_ ?_ ?_ ?_⟩
  ·rintro i ys H1 hi ⟨_,s1⟩
   exact ⟨_,.ref bs[i],s1.seq ha,by rw [List.getElem?_map,List.getElem?_eq_getElem hi]; rfl⟩
  ·rintro ys H1 ⟨_,s1⟩
   exact ⟨_,s1.seq ha,by rw [List.length_map]; exact Nat.le_refl _⟩
  ·rintro i y ys H1 H2 hi ⟨rfl,s1⟩ ⟨rfl,hy⟩
   obtain ⟨b,rfl,hb⟩:=zan (hy _ (s1.seq ha))
   obtain ⟨r,hr',hat⟩:=Paired.get hT hb
   have hlen1:=hlen (i + 1)
   rw [zgk m hr',List.length_append] at hlen1
   refine gY ⟨_,rfl,_,rfl,_,rfl,b,_,rfl,SqT.of (s1 _ _ hat),fun z H3 t2 h2z => ?_⟩
   have ec : za2 (r.map V.int) (some (m : Int)) none = (r.drop m).map V.int:=by
    unfold za2
    rw [HT.sIx_nat,HT.sIx_none,List.length_map,List.map_drop,List.take_of_length_le (by rw [List.length_drop,List.length_map]; exact Nat.le_refl _)]
    by_cases h : m ≤ r.length
    ·rw [Nat.min_eq_left h]
    ·rw [show min m r.length = r.length by omega,List.drop_of_length_le (by rw [List.length_map]; exact Nat.le_refl _),List.drop_of_length_le (by rw [List.length_map]; omega)]
   rw [ec] at h2z
   refine ⟨z,rfl,⟨_,h2z⟩,zhz (n:=(r.drop m).length) (fun j ys H' => ys = (bey m (rs.take i) ++ (r.drop m).take j).map V.int ∧ H' = H3) ⟨by rw [List.take_zero,List.append_nil],rfl⟩ ?_ ?_ ?_ ?_⟩
   ·rintro j ys H4 hj ⟨_,rfl⟩
    exact ⟨_,.int (r.drop m)[j],h2z,by rw [List.getElem?_map,List.getElem?_eq_getElem hj]; rfl⟩
   ·rintro ys H4 ⟨_,rfl⟩
    exact ⟨_,h2z,by rw [List.length_map]; exact Nat.le_refl _⟩
   ·rintro j y ys H4 H5 hj ⟨rfl,rfl⟩ ⟨rfl,hy⟩
    obtain ⟨n,rfl,hn⟩:=zae (hy _ (h2z))
    refine gY ⟨_,rfl,?_,?_,rfl⟩
    ·rw [List.length_map,List.length_append,List.length_take]
     omega
    ·rw [take_snoc hn,← List.append_assoc,List.map_append (l₂:=[n])]
     rfl
   ·rintro ys H4 ⟨rfl,rfl⟩
    exact ⟨by rw [List.take_length,zgk m hr'],s1.trans t2⟩
  ·rintro ys H1 ⟨rfl,s1⟩ D hD
   rw [hbl,List.take_length] at *
   exact q D _ (s1.free hD) (s1.trans (zb hD)) zc
theorem zj6 : FnScope ["polynomial","many"] ["polynomial","many"] (zj zdE):=⟨rfl,rfl,rfl,by decide +kernel,rfl,by decide +kernel,by decide +kernel⟩
theorem zj7 {fd : FuncData} (T : Txt K mg t) (F : Fun K "sized" "sized" zdE t.sized fd) : FnOk P w K mg base CX0 1 t.sized fd ["polynomial","many"] (zjT K):=by
 refine F.ok zj6 (fun vs H Q E h => ?_) (fun cdv A outer s H vs Q E hr h => ?_)
 ·obtain ⟨a,m,q,rfl,_⟩:=h
  rfl
 ·obtain ⟨a,m,cs,rfl,ha,m1,hlen,q⟩:=h
  refine ⟨_,(@zn _ _ _ (@zI _ _ _ _ (@za1 _ _ _ _ _ _ _ _ _ _ zkX (@zg _ _ _ _ _ _ _ _ (@zkY _) (@pvx _ 0 _ _ rfl) (@zg _ _ _ _ _ _ _ _ (@zkZ _) (@zaH _ _ _ _ _ (@za _ _ _ _ _ (@zf _ _ _ _) (@ze _) (by rfl))) (@pvx _ 1 _ _ rfl))) (@zbD _) (@zbb _ _ _ (@pvx _ 1 _ _ rfl))))),?_⟩
  have hsl:=sizeLine_eq
  refine ⟨_,rfl,by show 1 ≤ sizeLine; omega,fun t1 ht1 => ⟨_,rfl,t1,_,[.int 0],rfl,rfl,zc,by simp,by omega,by omega,by show 1 * _ ≤ sizeLine; omega,fun z H1 s1 h1z => ?_⟩⟩
  rw [Int.toNat_natCast,zb4] at h1z
  have s01:=(zb (o:=.tup [.int 0]) ht1).trans s1
  refine ⟨a,z,_,_,rfl,rfl,s01 _ _ ha,h1z,by rw [List.length_map,List.length_map,List.length_replicate]; omega,fun e => ?_,fun y H2 s2 h2y => ?_⟩
  ·have:=congrArg List.length e
   rw [List.length_map,List.length_replicate] at this
   exact absurd this (by show ¬ m = 0; omega)
  rw [← List.map_append] at h2y
  refine ⟨_,rfl,_,rfl,y,_,rfl,h2y,fun x H3 s3 h3x => ?_⟩
  have ec : za2 ((cs ++ List.replicate m 0).map V.int) none (some (m : Int)) = (szd cs m).map V.int:=by
   unfold za2 szd
   rw [HT.sIx_nat,HT.sIx_none,List.drop_zero,Nat.sub_zero,List.length_map,List.length_append,List.length_replicate,Nat.min_eq_left (by omega),List.map_take]
  rw [ec] at h3x
  exact q x H3 ((s01.trans s2).trans s3) h3x
theorem zB : FnScope ["code","rows","p","k","places","parts","e","needed","relation","power","left"] ["code","rows"] (zj zT):=⟨rfl,rfl,rfl,by decide +kernel,rfl,by decide +kernel,by decide +kernel⟩
theorem zdb {fd : FuncData} (T : Txt K mg t) (F : Fun K "joint_locator" "joint_locator" zT t.joint_locator fd) : FnOk P w K mg base CX0 5 t.joint_locator fd ["code","rows"] (zc7 K):=by
 obtain ⟨fd_heard_points,F_heard_points,b_heard_points⟩:=T.f_heard_points
 have G_heard_points:=za9 (P:=P) (w:=w) (base:=base) T F_heard_points
 obtain ⟨fd_times_entries,F_times_entries,b_times_entries⟩:=T.f_times_entries
 have G_times_entries:=zda (P:=P) (w:=w) (base:=base) T F_times_entries
 obtain ⟨fd_first_relation,F_first_relation,b_first_relation⟩:=T.f_first_relation
 have G_first_relation:=zcV (P:=P) (w:=w) (base:=base) T F_first_relation
 obtain ⟨fd_beyond,F_beyond,b_beyond⟩:=T.f_beyond
 have G_beyond:=ziI (P:=P) (w:=w) (base:=base) T F_beyond
 obtain ⟨fd_sized,F_sized,b_sized⟩:=T.f_sized
 have G_sized:=zj7 (P:=P) (w:=w) (base:=base) T F_sized
 refine F.ok zB (fun vs H Q E h => ?_) (fun cdv A outer s H vs Q E hr h => ?_)
 ·obtain ⟨c,tt,ra,p,k,pl,rbs,rws,rfl,_⟩:=h
  rfl
 ·obtain ⟨c,tt,ra,p,k,pl,rbs,rws,rfl,hc,hra,hrw,hrn,hn,hp,hnd,hpl,hok,k0,k1,q⟩:=h
  refine ⟨_,(@zd _ _ _ _ _ (@zax _ _ _ _ _ _ (@pvx _ 0 _ _ rfl) (@zaw _ _ _ _ _ _ rfl (@zl _ _ _ _ _ (@zh _ _ (2) _ zB.nd rfl (Or.inr rfl) (by trivial)) (@zl _ _ _ _ _ (@zh _ _ (3) _ zB.nd rfl (Or.inr rfl) (by trivial)) (@zl _ _ _ _ _ (@zh _ _ (4) _ zB.nd rfl (Or.inl rfl) (by trivial)) (@zO _) (by rfl)) (by rfl)) (by rfl)) (by rfl) (by rfl)) (by rfl) (by rfl) (by rfl)) (by exact (@zd _ _ _ _ _ (@zaJ _ _ _ _ _ _ _ _ _ _ _ _ _ (5) _ _ _ zB.nd rfl (Or.inl rfl) (CompSc.of (N':=["row","code"]) (ix:=[none,some 0]) (zj zT) ["code","rows","p","k","places","parts","e","needed","relation","power","left"] rfl rfl (by decide +kernel)) rfl (@zav _ _ rfl) (@zai _ _ _ _ (@pvx _ 1 _ _ rfl)) (fun _ _ _ _ => (@zh _ _ (0) _ (show (["row","code"] : List Str).Nodup by decide +kernel) rfl (Or.inl rfl) (by trivial))) (fun _ _ _ _ => (@zU _)) (fun _ _ _ _ => (@zt _ _ _ _ _ _ _ _ _ _ _ _ _ _ _ _ G_heard_points (hr.mono (by decide)) rfl T.m_heard_points F_heard_points.kp b_heard_points .nil (@zK _) (@za _ _ _ _ _ (@pvx _ 1 _ _ rfl) (@za _ _ _ _ _ (@pvx _ 0 _ _ rfl) (@ze _) (by rfl)) (by rfl)) (by decide) (by rfl) (by rfl))) (by rfl) (by intro _; rfl) (by trivial)) (by exact (@zd _ _ _ _ _ (@zp _ _ (6) _ _ _ _ zB.nd rfl (Or.inr rfl) (@zlf _ _ _ _ _ _ ziV (@zf _ _ _ _)) (by rfl) (by trivial)) (by exact (@zd _ _ _ _ _ (@zp _ _ (7) _ _ _ _ zB.nd rfl (Or.inl rfl) (@z0 _ _ _ _ (@ze _)) (by rfl) (by trivial)) (by exact (@zd _ _ _ _ _ (@zp _ _ (8) _ _ _ _ zB.nd rfl (Or.inl rfl) (@za7 _ _ _) (by rfl) (by trivial)) (by exact (@zd _ _ _ _ _ (@zfG _ _ _ _ _ _ PassesOwn.never (@zE _ _ _ _ _ _ _ _ (@ziX _) (@pvx _ 8 _ _ rfl) (@za7 _ _ _) (zM _)) (@zd _ _ _ _ _ (@ziQ _ _ (6) _ _ _ _ _ _ zB.nd rfl (Or.inr rfl) (@zf _ _ _ _) zkg (by trivial)) (by exact (@zd _ _ _ _ _ (zft (@zp _ _ (9) _ _ _ _ zB.nd rfl (Or.inr rfl) (@zg _ _ _ _ _ _ _ _ (@zeV _ (K) rfl) (@zg _ _ _ _ _ _ _ _ (@zkU _) (@zaH _ _ _ _ _ (@za _ _ _ _ _ (@zf _ _ _ _) (@ze _) (by rfl))) (@pvx _ 6 _ _ rfl)) (@zaH _ _ _ _ _ (@za _ _ _ _ _ (@zf _ _ _ _) (@ze _) (by rfl)))) (by rfl) (by trivial))) (by exact (@zd _ _ _ _ _ (@zdp _ _ _ _ (@zdL _ _ _ _ _ _ _ _ _ _ _ _ PySem.F.plainAttrs_list PySem.F.slot_list_append PySem.F.type_list_append (@zb9 _) (@pvx _ 7 _ _ rfl) (@za _ _ _ _ _ (@zar _ _ _ _ _ _ _ _ _ _ _ _ _ (CompSc.of (N':=["points","p","power"]) (ix:=[none,some 2,some 9]) (zj zT) ["code","rows","p","k","places","parts","e","needed","relation","power","left"] rfl rfl (by decide +kernel)) rfl (@zav _ _ rfl) (@zai _ _ _ _ (@pvx _ 5 _ _ rfl)) (fun _ _ _ _ => (@zh _ _ (0) _ (show (["points","p","power"] : List Str).Nodup by decide +kernel) rfl (Or.inl rfl) (by trivial))) (fun _ _ _ _ => (@zU _)) (fun _ _ _ _ => (@zt _ _ _ _ _ _ _ _ _ _ _ _ _ _ _ _ G_times_entries (hr.mono (by decide)) rfl T.m_times_entries F_times_entries.kp b_times_entries .nil (@zK _) (@za _ _ _ _ _ (@pvx _ 1 _ _ rfl) (@za _ _ _ _ _ (@pvx _ 2 _ _ rfl) (@za _ _ _ _ _ (@pvx _ 0 _ _ rfl) (@ze _) (by rfl)) (by rfl)) (by rfl)) (by decide) (by rfl) (by rfl))) (by intro _; rfl)) (@ze _) (by rfl)) (by rfl) (by rfl) (by rfl) (by rfl) (by rfl)) (by rfl)) (by exact (@zn _ _ _ (@zp _ _ (8) _ _ _ _ zB.nd rfl (Or.inl rfl) (@zt _ _ _ _ _ _ _ _ _ _ _ _ _ _ _ _ G_first_relation (hr.mono (by decide)) rfl T.m_first_relation F_first_relation.kp b_first_relation .nil (@zK _) (@za _ _ _ _ _ (@pvx _ 2 _ _ rfl) (@za _ _ _ _ _ (@zar _ _ _ _ _ _ _ _ _ _ _ _ _ (CompSc.of (N':=["rights","k","e"]) (ix:=[none,some 3,some 6]) (zj zT) ["code","rows","p","k","places","parts","e","needed","relation","power","left"] rfl rfl (by decide +kernel)) rfl (@zav _ _ rfl) (@zai _ _ _ _ (@pvx _ 7 _ _ rfl)) (fun _ _ _ _ => (@zh _ _ (0) _ (show (["rights","k","e"] : List Str).Nodup by decide +kernel) rfl (Or.inl rfl) (by trivial))) (fun _ _ _ _ => (@zU _)) (fun _ _ _ _ => (@zt _ _ _ _ _ _ _ _ _ _ _ _ _ _ _ _ G_beyond (hr.mono (by decide)) rfl T.m_beyond F_beyond.kp b_beyond .nil (@zK _) (@za _ _ _ _ _ (@pvx _ 0 _ _ rfl) (@za _ _ _ _ _ (@zg _ _ _ _ _ _ _ _ (@zD _) (@pvx _ 1 _ _ rfl) (@pvx _ 2 _ _ rfl)) (@ze _) (by rfl)) (by rfl)) (by decide) (by rfl) (by rfl))) (by intro _; rfl)) (@ze _) (by rfl)) (by rfl)) (by decide) (by rfl) (by rfl)) (by rfl) (by trivial)))))))))) (by exact (@zd _ _ _ _ _ (@zp _ _ (10) _ _ _ _ zB.nd rfl (Or.inr rfl) (@zt _ _ _ _ _ _ _ _ _ _ _ _ _ _ _ _ G_sized (hr.mono (by decide)) rfl T.m_sized F_sized.kp b_sized .nil (@zK _) (@za _ _ _ _ _ (@zat _ _ _ _ _ _ _ _ _ (@zaD _) (by rfl) T.tuple_ boot_tuple (@za _ _ _ _ _ (@pvx _ 8 _ _ rfl) (@ze _) (by rfl)) (by decide) (by decide) (by rfl) (by rfl)) (@za _ _ _ _ _ (@zg _ _ _ _ _ _ _ _ (@zD _) (@pvx _ 6 _ _ rfl) (@zf _ _ _ _)) (@ze _) (by rfl)) (by rfl)) (by decide) (by rfl) (by rfl)) (by rfl) (by trivial)) (by exact (@zn _ _ _ (@zI _ _ _ _ (@zaH _ _ _ _ _ (@za _ _ _ _ _ (@pvx _ 6 _ _ rfl) (@za _ _ _ _ _ (@pvx _ 10 _ _ rfl) (@za _ _ _ _ _ (@zar _ _ _ _ _ _ _ _ _ _ _ _ _ (CompSc.of (N':=["points","p","left","k","e"]) (ix:=[none,some 2,some 10,some 3,some 6]) (zj zT) ["code","rows","p","k","places","parts","e","needed","relation","power","left"] rfl rfl (by decide +kernel)) rfl (@zav _ _ rfl) (@zai _ _ _ _ (@pvx _ 5 _ _ rfl)) (fun _ _ _ _ => (@zh _ _ (0) _ (show (["points","p","left","k","e"] : List Str).Nodup by decide +kernel) rfl (Or.inl rfl) (by trivial))) (fun _ _ _ _ => (@zU _)) (fun _ _ _ _ => (@zt _ _ _ _ _ _ _ _ _ _ _ _ _ _ _ _ G_sized (hr.mono (by decide)) rfl T.m_sized F_sized.kp b_sized .nil (@zK _) (@za _ _ _ _ _ (@zt _ _ _ _ _ _ _ _ _ _ _ _ _ _ _ _ G_times_entries (hr.mono (by decide)) rfl T.m_times_entries F_times_entries.kp b_times_entries .nil (@zK _) (@za _ _ _ _ _ (@pvx _ 1 _ _ rfl) (@za _ _ _ _ _ (@pvx _ 2 _ _ rfl) (@za _ _ _ _ _ (@pvx _ 0 _ _ rfl) (@ze _) (by rfl)) (by rfl)) (by rfl)) (by decide) (by rfl) (by rfl)) (@za _ _ _ _ _ (@zg _ _ _ _ _ _ _ _ (@zD _) (@pvx _ 3 _ _ rfl) (@pvx _ 4 _ _ rfl)) (@ze _) (by rfl)) (by rfl)) (by decide) (by rfl) (by rfl))) (by intro _; rfl)) (@ze _) (by rfl)) (by rfl)) (by rfl))))))))))))))))))),?_⟩
  have hsl:=sizeLine_eq
  have rp:=zo hp
  have p0 : 0 < p:=by omega
  have hrl:=hrw.length
  obtain ⟨ptss,hptss⟩ : ∃ ptss,ptss = rws.map (hps pl):=⟨_,rfl⟩
  have hP : ∀ pts ∈ ptss,Pts p pts:=fun pts h => by
   rw [hptss] at h
   obtain ⟨rw,h1,rfl⟩:=List.mem_map.mp h
   exact zdB hnd hpl (hok rw h1)
  have hPl : ∀ pts ∈ ptss,pts.length ≤ 16:=fun pts h => by
   rw [hptss] at h
   obtain ⟨rw,h1,rfl⟩:=List.mem_map.mp h
   exact Nat.le_trans (zbM pl rw) hn
  have hpt : ptss.length = rws.length:=by rw [hptss,List.length_map]
  refine ⟨_,rfl,c,_,rfl,SqT.of hc.1,rfl,_,_,rfl,_,_,rfl,_,_,rfl,rfl,?_⟩
  refine ⟨_,rfl,ra,rfl,⟨_,hra⟩,z8 (n:=rbs.length) (fun i ys H' => zy H H' ∧ ∃ us : List Addr,ys = us.map V.ref ∧ zfw H' us (ptss.take i)) ⟨fun _ _ e => e,[],rfl,.nil⟩ ?_ ?_ ?_ ?_⟩
  ·rintro i ys H1 hi ⟨s1,_⟩
   exact ⟨_,.ref rbs[i],s1.seq hra,by rw [List.getElem?_map,List.getElem?_eq_getElem hi]; rfl⟩
  ·rintro ys H1 ⟨s1,_⟩
   exact ⟨_,s1.seq hra,by rw [List.length_map]; exact Nat.le_refl _⟩
  ·rintro i y ys H1 H2 hi ⟨s1,us,rfl,hus⟩ ⟨rfl,hy⟩
   obtain ⟨b,rfl,hb⟩:=zan (hy _ (s1.seq hra))
   obtain ⟨rw,hrwi,hat,hrwl⟩:=Paired.get hrw hb
   have hul:=hus.length
   rw [List.length_take] at hul
   refine gY ⟨_,rfl,_,rfl,c,tt,b,p,k,pl,rw,rfl,hc.same s1,⟨SqL.of (s1 _ _ hat),hrwl⟩,by omega,fun l bs H3 hl3 s3 h3l hB => ?_⟩
   refine ⟨by rw [List.length_map]; omega,s1.trans s3,us ++ [l],by rw [List.map_append]; rfl,?_⟩
   have hpi : ptss[i]? = some (hps pl rw):=by rw [hptss,List.getElem?_map,hrwi]; rfl
   rw [take_snoc hpi]
   exact Paired.snoc (hus.same s3) ⟨bs,h3l,hB⟩
  ·rintro ys H1 pa ⟨s1,us,rfl,hus⟩ hpa
   rw [hrl,← hpt,List.take_length] at hus
   have t2:=zb (o:=.lst (us.map V.ref)) hpa
   have h2p : upd H1 pa (.lst (us.map V.ref)) pa = some (.lst (us.map V.ref)):=zc
   have hus2:=hus.same t2
   have s2:=s1.trans t2
   generalize upd H1 pa (.lst (us.map V.ref)) = H2 at t2 h2p hus2 s2 ⊢
   have hul:=hus2.length
   refine ⟨_,rfl,Nat.zero_le _,fun na hna => ?_⟩
   have t3:=zb (o:=.lst []) hna
   refine ⟨fun m σ H' => ∃ (n : Nat) (ns : List Addr) (ev : Int) (rel : V) (e9 e10 : Option V),σ = [some (.ref c),some (.ref ra),some (.int p),some (.int (k : Int)),some (.ref tt),some (.ref pa),some (.int ev),some (.ref na),some rel,e9,e10] ∧ zy H2 H' ∧ H' na = some (.lst (ns.map V.ref)) ∧ NdA p ptss na H' ns (List.range n) ∧
    ((rel = .non ∧ ev = (n : Int) - 1 ∧ m = 20 - n ∧ n ≤ 16 ∧ ∀ e',e' < n → Indep p (zb5 k e' ptss) (zaR p k e' ptss)) ∨ (∃ (rl : Addr) (cc : List Int) (mm e : Nat),rel = .ref rl ∧ ev = (e : Int) ∧ e ≤ 16 ∧ H' rl = some (.lst (cc.map V.int)) ∧ IsP p (mm + 1) cc ∧ mm < e + 1 ∧ gl cc mm = 1 ∧ Dep p (zb5 k e ptss) (zaR p k e ptss) cc ∧ ∀ e',e' < e → Indep p (zb5 k e' ptss) (zaR p k e' ptss))),
    ⟨20,0,[],_,_,_,_,rfl,t3,zc,.nil,.inl ⟨rfl,rfl,rfl,by omega,fun _ h => by omega⟩⟩,?_⟩
   rintro m σ H3 ⟨n,ns,ev,rel,e9,e10,rfl,s3,h3n,hnd3,hst⟩
   have hnl:=hnd3.length
   rw [List.length_range] at hnl
   rcases hst with ⟨rfl,rfl,rfl,hn16,hind⟩ | ⟨rl,cc,mm,e,rfl,rfl,he16,h3r,hcc,hmm,hc1,hdep,hind⟩
   ·refine ⟨_,rfl,rfl,_,rfl,?_⟩
    refine zay (fun _ => ?_) (fun h => absurd rfl h)
    refine ⟨fun σ' H' => ∃ m',m' < 20 - n ∧ ∃ (n : Nat) (ns : List Addr) (ev : Int) (rel : V) (e9 e10 : Option V),σ' = [some (.ref c),some (.ref ra),some (.int p),some (.int (k : Int)),some (.ref tt),some (.ref pa),some (.int ev),some (.ref na),some rel,e9,e10] ∧ zy H2 H' ∧ H' na = some (.lst (ns.map V.ref)) ∧ NdA p ptss na H' ns (List.range n) ∧
     ((rel = .non ∧ ev = (n : Int) - 1 ∧ m' = 20 - n ∧ n ≤ 16 ∧ ∀ e',e' < n → Indep p (zb5 k e' ptss) (zaR p k e' ptss)) ∨ (∃ (rl : Addr) (cc : List Int) (mm e : Nat),rel = .ref rl ∧ ev = (e : Int) ∧ e ≤ 16 ∧ H' rl = some (.lst (cc.map V.int)) ∧ IsP p (mm + 1) cc ∧ mm < e + 1 ∧ gl cc mm = 1 ∧ Dep p (zb5 k e ptss) (zaR p k e ptss) cc ∧ ∀ e',e' < e → Indep p (zb5 k e' ptss) (zaR p k e' ptss))),fun _ _ z => z,?_⟩
    refine ⟨_,rfl,_,_,rfl,rfl,?_⟩
    have e1 : (n : Int) - 1 + 1 = (n : Int):=by omega
    refine ⟨fun σ' H' => ∃ pw : Addr,σ' = [some (.ref c),some (.ref ra),some (.int p),some (.int (k : Int)),some (.ref tt),some (.ref pa),some (.int (n : Int)),some (.ref na),some .non,some (.ref pw),e10] ∧ zy H3 H' ∧ SqT K H' pw ((unit n).map V.int),?_,?_⟩
    ·refine ⟨by show 1 ≤ sizeLine; omega,fun t1 ht1 => ⟨_,rfl,t1,_,[.int 0],rfl,rfl,SqT.of zc,by simp,by omega,by omega,by show 1 * _ ≤ sizeLine; omega,fun z H4 s4 h4z => ?_⟩⟩
     rw [e1,Int.toNat_natCast,zb4] at h4z
     have s34:=(zb (o:=.tup [.int 0]) ht1).trans s4
     refine ⟨by show 1 ≤ sizeLine; omega,fun t2 ht2 => ⟨z,t2,_,_,rfl,rfl,zfv (zb ht2) h4z,SqT.of zc,by simp,by rw [List.length_map,List.length_replicate]; show n + 1 ≤ sizeLine; omega,fun e0 => ?_,fun _ pw hpw => ?_⟩⟩
     ·have hn0 : n = 0:=by
       have:=congrArg List.length e0
       rw [List.length_map,List.length_replicate] at this
       exact this
      subst hn0
      exact ⟨t2,congrArg (fun v : Int => [some (V.ref c),some (.ref ra),some (.int p),some (.int (k : Int)),some (.ref tt),some (.ref pa),some (.int v),some (.ref na),some .non,some (.ref t2),e10]) e1,s34.trans (zb ht2),SqT.of zc⟩
     ·refine ⟨pw,congrArg (fun v : Int => [some (V.ref c),some (.ref ra),some (.int p),some (.int (k : Int)),some (.ref tt),some (.ref pa),some (.int v),some (.ref na),some .non,some (.ref pw),e10]) e1,(s34.trans (zb ht2)).trans (zb hpw),?_⟩
      have : (unit n).map V.int = (List.replicate n (0 : Int)).map V.int ++ [.int 1]:=by unfold unit; rw [List.map_append]; rfl
      rw [this]
      exact SqT.of zc
    ·rintro σ' H4 ⟨pw,rfl,s4,h4p⟩
     have s24:=s3.trans s4
     have h4a:=s24 _ _ h2p
     have hus4:=hus2.same s24
     have h4n:=s4 _ _ h3n
     have hnd4:=hnd3.same s4
     refine ⟨_,rfl,.inl ⟨rfl,_,SqL.of h4n⟩,_,rfl,pa,rfl,⟨_,SqL.of h4a⟩,z8 (n:=us.length) (fun i ys H' => zy H4 H' ∧ ∃ ws : List Addr,ys = ws.map V.ref ∧ zbx H' ws ((ptss.take i).map fun pts => Tp p pts n)) ⟨fun _ _ e => e,[],rfl,.nil⟩ ?_ ?_ ?_ ?_⟩
     ·rintro i ys H5 hi ⟨s5,_⟩
      exact ⟨_,.ref us[i],SqL.of (s5 _ _ h4a),by rw [List.getElem?_map,List.getElem?_eq_getElem hi]; rfl⟩
     ·rintro ys H5 ⟨s5,_⟩
      exact ⟨_,SqL.of (s5 _ _ h4a),by rw [List.length_map]; exact Nat.le_refl _⟩
     ·rintro i y ys H5 H6 hi ⟨s5,ws,rfl,hws⟩ ⟨rfl,hy⟩
      obtain ⟨b,rfl,hb⟩:=zan (hy _ (SqL.of (s5 _ _ h4a)))
      obtain ⟨pts,hpts,bs,hat,hB⟩:=Paired.get hus4 hb
      have hwl:=hws.length
      rw [List.length_map,List.length_take] at hwl
      have hm:=List.mem_of_getElem? hpts
      refine gY ⟨_,rfl,_,rfl,_,rfl,p,pw,b,unit n,bs,pts,rfl,zfv s5 h4p,SqL.of (s5 _ _ hat),hB.same s5,Nat.le_trans (hPl pts hm) (by decide),hp,hP pts hm,fun z H7 hz s7 h7z => ?_⟩
      refine ⟨by rw [List.length_map]; omega,s5.trans s7,ws ++ [z],by rw [List.map_append]; rfl,?_⟩
      rw [take_snoc hpts,List.map_append]
      exact Paired.snoc (hws.same s7) h7z
     ·rintro ys H5 D2 ⟨s5,ws,rfl,hws⟩ hD2
      rw [hul,List.take_length] at hws
      have t6:=zb (o:=.lst (ws.map V.ref)) hD2
      have h6D : upd H5 D2 (.lst (ws.map V.ref)) D2 = some (.lst (ws.map V.ref)):=zc
      have hDn : D2 ≠ na:=fun e => by
       have:=s5 _ _ h4n
       rw [← e,hD2] at this
       cases this
      have s46:=s5.trans t6
      have hws6:=hws.same t6
      generalize upd H5 D2 (.lst (ws.map V.ref)) = H6 at t6 h6D s46 hws6 ⊢
      have h6n:=s46 _ _ h4n
      have hnd6:=hnd4.same s46
      refine ⟨na,_,_,rfl,rfl,h6n,by rw [List.length_map]; omega,?_⟩
      have s27 : zy H2 (upd H6 na (.lst (ns.map V.ref ++ [.ref D2]))):=zW (s24.trans s46) hna
      have h7n : upd H6 na (.lst (ns.map V.ref ++ [.ref D2])) na = some (.lst ((ns ++ [D2]).map V.ref)):=by rw [zc,List.map_append]; rfl
      have hnd7 : NdA p ptss na (upd H6 na (.lst (ns.map V.ref ++ [.ref D2]))) (ns ++ [D2]) (List.range (n + 1)):=by
       rw [List.range_succ]
       exact Paired.snoc (hnd6.put h6n) ⟨ws,by rw [zr hDn]; exact h6D,hDn,hws6.put h6n⟩
      generalize upd H6 na (.lst (ns.map V.ref ++ [.ref D2])) = H7 at s27 h7n hnd7 ⊢
      have hn7:=hnd7.length
      rw [List.length_range] at hn7
      refine ⟨_,rfl,_,rfl,na,rfl,⟨_,SqL.of h7n⟩,z8 (n:=(ns ++ [D2]).length) (fun i ys H' => zy H7 H' ∧ ∃ vs : List Addr,ys = vs.map V.ref ∧ LsA H' vs ((zaR p k n ptss).take i)) ⟨fun _ _ e => e,[],rfl,.nil⟩ ?_ ?_ ?_ ?_⟩
      ·rintro i ys H8 hi ⟨s8,_⟩
       exact ⟨_,.ref (ns ++ [D2])[i],SqL.of (s8 _ _ h7n),by rw [List.getElem?_map,List.getElem?_eq_getElem hi]; rfl⟩
      ·rintro ys H8 ⟨s8,_⟩
       exact ⟨_,SqL.of (s8 _ _ h7n),by rw [List.length_map]; exact Nat.le_refl _⟩
      ·rintro i y ys H8 H9 hi ⟨s8,vs,rfl,hvs⟩ ⟨rfl,hy⟩
       obtain ⟨b,rfl,hb⟩:=zan (hy _ (SqL.of (s8 _ _ h7n)))
       obtain ⟨i',hi',us',hat,_,hT⟩:=Paired.get hnd7 hb
       have hin : i < n + 1:=by omega
       rw [List.getElem?_range hin] at hi'
       cases hi'
       have hvl:=hvs.length
       rw [List.length_take] at hvl
       refine gY ⟨_,rfl,_,rfl,_,rfl,_,_,rfl,rfl,b,k + n,us',_,(by show [V.ref b,V.int ((k : Int) + (n : Int))] = _; rw [Int.natCast_add]),SqL.of (s8 _ _ hat),hT.same s8,fun j => ?_,fun z Ha hz sa haz => ?_⟩
       ·rw [← List.map_take,zdD hp fun q hq => hP q (List.mem_of_mem_take hq)]
        refine Nat.le_trans (zgU (b:=16) fun q hq => ?_) ?_
        ·have:=hPl q (List.mem_of_mem_take hq)
         omega
        ·rw [List.length_take]
         omega
       ·refine ⟨by rw [List.length_map]; omega,s8.trans sa,vs ++ [z],by rw [List.map_append]; rfl,?_⟩
        have hvi : (zaR p k n ptss)[i]? = some (bey (k + n) (ptss.map fun pts => Tp p pts i)):=by
         unfold zaR
         rw [List.getElem?_map,List.getElem?_range hin]
         rfl
        rw [take_snoc hvi]
        exact Paired.snoc (hvs.same sa) haz
      ·rintro ys H8 D3 ⟨s8,vs,rfl,hvs⟩ hD3
       have hvn : (zaR p k n ptss).length = n + 1:=by unfold zaR; rw [List.length_map,List.length_range]
       rw [hn7,← hvn,List.take_length] at hvs
       have t9:=zb (o:=.lst (vs.map V.ref)) hD3
       have h9D : upd H8 D3 (.lst (vs.map V.ref)) D3 = some (.lst (vs.map V.ref)):=zc
       have hvs9:=hvs.same t9
       have s79:=s8.trans t9
       generalize upd H8 D3 (.lst (vs.map V.ref)) = H9 at t9 h9D hvs9 s79 ⊢
       refine ⟨p,D3,vs,zaR p k n ptss,zb5 k n ptss,rfl,h9D,hvs9,(fun e => by (rw [e] at hvn; cases hvn)),by omega,?_,zk3 hp hP,hp,fun Ha sa hI => ?_,fun l cc mm Ha hl sa hal hcc hmm hc1 hD => ?_⟩
       ·refine Nat.le_trans (zgU (b:=16) fun q hq => ?_) (by omega)
        have:=hPl q hq
        omega
       ·have hlt:=zjZ hp hPl hI
        refine ⟨20 - (n + 1),by omega,n + 1,ns ++ [D2],_,_,_,_,rfl,s27.trans (s79.trans sa),(s79.trans sa) _ _ h7n,hnd7.same (s79.trans sa),.inl ⟨rfl,by omega,rfl,by omega,fun e' he' => ?_⟩⟩
        by_cases e : e' = n
        ·subst e; exact hI
        ·exact hind e' (by omega)
       ·exact ⟨0,by omega,n + 1,ns ++ [D2],_,_,_,_,rfl,s27.trans (s79.trans sa),(s79.trans sa) _ _ h7n,hnd7.same (s79.trans sa),.inr ⟨l,cc,mm,n,rfl,rfl,hn16,hal,hcc,by omega,hc1,hD,hind⟩⟩
   ·refine ⟨_,rfl,rfl,_,rfl,?_⟩
    refine zay (fun h => absurd h (by simp)) (fun _ => ?_)
    have h3a:=s3 _ _ h2p
    have hus3:=hus2.same s3
    have hcl : cc.length = mm + 1:=hcc.1
    refine ⟨_,rfl,rl,_,rfl,.inl ⟨SqL.of h3r,fun tl htl => ?_⟩⟩
    have t4:=zb (o:=.tup (cc.map V.int)) htl
    have h4t : upd H3 tl (.tup (cc.map V.int)) tl = some (.tup (cc.map V.int)):=zc
    generalize upd H3 tl (.tup (cc.map V.int)) = H4 at t4 h4t ⊢
    refine ⟨_,rfl,_,_,rfl,rfl,tl,e + 1,cc,rfl,h4t,by omega,by omega,fun lf H5 s5 h5f => ?_⟩
    have L:=zmh hp (k:=k) hP hcc hmm hc1 hdep hind
    generalize szd cc (e + 1) = left at h5f L ⊢
    have s35:=t4.trans s5
    have h5a:=s35 _ _ h3a
    have hus5:=hus3.same s35
    refine ⟨_,rfl,_,rfl,_,rfl,pa,rfl,⟨_,SqL.of h5a⟩,z8 (n:=us.length) (fun i ys H' => zy H5 H' ∧ ∃ ws : List Addr,ys = ws.map V.ref ∧ zbx H' ws ((ptss.take i).map fun pts => szd (thr p (tmP p left pts)) (k + e))) ⟨fun _ _ e => e,[],rfl,.nil⟩ ?_ ?_ ?_ ?_⟩
    ·rintro i ys H6 hi ⟨s6,_⟩
     exact ⟨_,.ref us[i],SqL.of (s6 _ _ h5a),by rw [List.getElem?_map,List.getElem?_eq_getElem hi]; rfl⟩
    ·rintro ys H6 ⟨s6,_⟩
     exact ⟨_,SqL.of (s6 _ _ h5a),by rw [List.length_map]; exact Nat.le_refl _⟩
    ·rintro i y ys H6 H7 hi ⟨s6,ws,rfl,hws⟩ ⟨rfl,hy⟩
     obtain ⟨b,rfl,hb⟩:=zan (hy _ (SqL.of (s6 _ _ h5a)))
     obtain ⟨pts,hpts,bs,hat,hB⟩:=Paired.get hus5 hb
     have hwl:=hws.length
     rw [List.length_map,List.length_take] at hwl
     have hm:=List.mem_of_getElem? hpts
     have hl16:=hPl pts hm
     refine gY ⟨_,rfl,_,rfl,_,rfl,p,lf,b,left,bs,pts,rfl,SqT.of (s6 _ _ h5f),SqL.of (s6 _ _ hat),hB.same s6,Nat.le_trans hl16 (by decide),hp,hP pts hm,fun z H8 hz s8 h8z => ?_⟩
     refine ⟨_,rfl,_,rfl,_,_,rfl,rfl,z,k + e,_,(by show [V.ref z,V.int ((k : Int) + (e : Int))] = _; rw [Int.natCast_add]),h8z,by omega,by rw [zcx hp (hP pts hm)]; omega,fun x H9 s9 h9x => ?_⟩
     refine ⟨by rw [List.length_map]; omega,s6.trans (s8.trans s9),ws ++ [x],by rw [List.map_append]; rfl,?_⟩
     rw [take_snoc hpts,List.map_append]
     exact Paired.snoc (hws.same (s8.trans s9)) h9x
    ·rintro ys H6 D2 ⟨s6,ws,rfl,hws⟩ hD2
     rw [hul,List.take_length] at hws
     have t7:=zb (o:=.lst (ws.map V.ref)) hD2
     have h7D : upd H6 D2 (.lst (ws.map V.ref)) D2 = some (.lst (ws.map V.ref)):=zc
     have hws7:=hws.same t7
     have s57:=s6.trans t7
     generalize upd H6 D2 (.lst (ws.map V.ref)) = H7 at t7 h7D hws7 s57 ⊢
     refine ⟨by show 3 ≤ sizeLine; omega,fun z hz => ?_⟩
     have t8:=zb (o:=.tup [.int (e : Int),.ref lf,.ref D2]) hz
     have s27:=(s2.trans s3).trans (s35.trans s57)
     exact q z lf D2 ws e left _ _ (s27.trans t8) zc ((s57.trans t8) _ _ h5f) (t8 _ _ h7D) (hws7.same t8) he16 (by rw [← hptss]; exact L)
theorem zaZ : FnScope ["code","row","e","left","rights"] ["code","row"] (zj zbf):=⟨rfl,rfl,rfl,by decide +kernel,rfl,by decide +kernel,by decide +kernel⟩
theorem zcs {fd : FuncData} (T : Txt K mg t) (F : Fun K "locator_of" "locator_of" zbf t.locator_of fd) : FnOk P w K mg base CX0 6 t.locator_of fd ["code","row"] (zeq K):=by
 obtain ⟨fd_joint_locator,F_joint_locator,b_joint_locator⟩:=T.f_joint_locator
 have G_joint_locator:=zdb (P:=P) (w:=w) (base:=base) T F_joint_locator
 refine F.ok zaZ (fun vs H Q E h => ?_) (fun cdv A outer s H vs Q E hr h => ?_)
 ·obtain ⟨c,tt,r,p,k,pl,rw,rfl,_⟩:=h
  rfl
 ·obtain ⟨c,tt,r,p,k,pl,rw,rfl,hc,hra,hrl,hn,hp,hnd,hpl,hrg,k0,k1,q⟩:=h
  refine ⟨_,(@zd _ _ _ _ _ (@zax _ _ _ _ _ _ (@zt _ _ _ _ _ _ _ _ _ _ _ _ _ _ _ _ G_joint_locator (hr.mono (by decide)) rfl T.m_joint_locator F_joint_locator.kp b_joint_locator .nil (@zK _) (@za _ _ _ _ _ (@pvx _ 0 _ _ rfl) (@za _ _ _ _ _ (@z0 _ _ _ _ (@za _ _ _ _ _ (@pvx _ 1 _ _ rfl) (@ze _) (by rfl))) (@ze _) (by rfl)) (by rfl)) (by decide) (by rfl) (by rfl)) (@zaw _ _ _ _ _ _ rfl (@zl _ _ _ _ _ (@zh _ _ (2) _ zaZ.nd rfl (Or.inl rfl) (by trivial)) (@zl _ _ _ _ _ (@zh _ _ (3) _ zaZ.nd rfl (Or.inl rfl) (by trivial)) (@zl _ _ _ _ _ (@zh _ _ (4) _ zaZ.nd rfl (Or.inl rfl) (by trivial)) (@zO _) (by rfl)) (by rfl)) (by rfl)) (by rfl) (by rfl)) (by rfl) (by rfl) (by rfl)) (by exact (@zn _ _ _ (@zI _ _ _ _ (@zaH _ _ _ _ _ (@za _ _ _ _ _ (@pvx _ 2 _ _ rfl) (@za _ _ _ _ _ (@pvx _ 3 _ _ rfl) (@za _ _ _ _ _ (@zH _ _ _ _ _ _ _ (@zw _) (@pvx _ 4 _ _ rfl) (@zf _ _ _ _) (fun _ _ => rfl)) (@ze _) (by rfl)) (by rfl)) (by rfl))))))),?_⟩
  have hsl:=sizeLine_eq
  refine ⟨_,rfl,_,rfl,by show 1 ≤ sizeLine; omega,fun ra hrA => ?_⟩
  have t1:=zb (o:=.lst [.ref r]) hrA
  refine ⟨c,tt,ra,p,k,pl,[r],[rw],rfl,hc.same t1,SqL.of zc,.cons ⟨t1 _ _ hra,hrl⟩ .nil,(by show 1 ≤ 10; decide),hn,hp,hnd,hpl,fun rw' h => ?_,k0,k1,fun z la l3 us e left rights H2 s2 h2z h2l h2r hT he L => ?_⟩
  ·obtain rfl : rw' = rw:=by simpa using h
   exact hrg
  have hl:=hT.length
  have hr1 : rights.length = 1:=by rw [L.rt]; rfl
  obtain ⟨u0,rfl⟩ : ∃ u0,us = [u0]:=List.length_eq_one_iff.mp (by omega)
  obtain ⟨right,rfl⟩ : ∃ r0,rights = [r0]:=List.length_eq_one_iff.mp hr1
  obtain ⟨r',hr',hu⟩:=Paired.get hT (i:=0) (a:=u0) rfl
  cases hr'
  refine ⟨z,_,rfl,SqT.of h2z,rfl,_,_,rfl,_,_,rfl,_,_,rfl,rfl,?_⟩
  refine ⟨_,rfl,_,rfl,_,rfl,l3,_,_,_,rfl,rfl,SqL.of h2r,rfl,by show 3 ≤ sizeLine; omega,fun y hy => ?_⟩
  have s12:=t1.trans s2
  exact q y la u0 e left right _ (s12.trans (zb hy)) zc ((zb hy) _ _ h2l) ((zb hy) _ _ hu) he L
end
end My
end
section
set_option maxHeartbeats 3999000
namespace My
open PySem L2 PyProof.Rows
section
variable {P : Program} {w : World} {K : PySem.W.Frag} {mg : Str → Option Value} {base : Heap} {t : Adr}
theorem zbP : FnScope ["things","many","chosen","step"] ["things","many"] (zj zbg):=⟨rfl,rfl,rfl,by decide +kernel,rfl,by decide +kernel,by decide +kernel⟩
theorem zgY {fd : FuncData} (T : Txt K mg t) (F : Fun K "choices" "choices" zbg t.choices fd) : FnOk P w K mg base CX0 1 t.choices fd ["things","many"] (zgQ K):=by
 refine F.ok zbP (fun vs H Q E h => ?_) (fun cdv A outer s H vs Q E hr h => ?_)
 ·obtain ⟨a,m,xs,rfl,_⟩:=h
  rfl
 ·obtain ⟨a,m,xs,rfl,hS,hx,hm,q⟩:=h
  refine ⟨_,(@zd _ _ _ _ _ (@zp _ _ (2) _ _ _ _ zbP.nd rfl (Or.inl rfl) (@z0 _ _ _ _ (@za _ _ _ _ _ (@zaH _ _ _ _ _ (@za _ _ _ _ _ (@zf _ _ _ _) (@za _ _ _ _ _ (@z0 _ _ _ _ (@ze _)) (@ze _) (by rfl)) (by rfl))) (@ze _) (by rfl))) (by rfl) (by trivial)) (by exact (@zd _ _ _ _ _ (@zaP _ _ _ _ _ _ _ _ PassesOwn.never rfl (@zaf _ _ _ _ _ _ rfl T.range_ (@za _ _ _ _ _ (@pvx _ 1 _ _ rfl) (@ze _) (by rfl)) (by rfl)) (@zh _ _ (3) _ zbP.nd rfl (Or.inl rfl) (by trivial)) (@zn _ _ _ (@zgP _ _ _ _ _ _ _ _ _ _ _ _ _ _ _ _ _ _ _ _ _ (2) _ _ _ zbP.nd rfl (Or.inl rfl) (CompSc.of (N':=["start","picked","at","things"]) (ix:=[none,none,none,some 0]) (zj zbg) ["things","many","chosen","step"] rfl rfl (by decide +kernel)) rfl (zjr (js:=[0,1]) (zdX (js:=[0,1]) (i:=0) (by decide) (zdX (js:=[0,1]) (i:=1) (by decide) (zhl (js:=[0,1]))))) (zdt (js:=[2]) (i:=2) (by decide)) (by decide) (by decide) (@zai _ _ _ _ (@pvx _ 2 _ _ rfl)) (fun _ _ _ _ => (@zaY _ (K) _ _ _ (2) _ rfl rfl (@zl _ _ _ _ _ (@zh _ _ (0) _ (show (["start","picked","at","things"] : List Str).Nodup by decide +kernel) rfl (Or.inl rfl) (by trivial)) (@zl _ _ _ _ _ (@zh _ _ (1) _ (show (["start","picked","at","things"] : List Str).Nodup by decide +kernel) rfl (Or.inl rfl) (by trivial)) (@zO _) (by rfl)) (by rfl)) (by rfl) (by rfl))) (fun _ _ _ _ => (@zU _)) (fun _ _ _ _ => (@zh1 _ _ _ _ _ _ _ rfl T.range_ (@za _ _ _ _ _ (@pvx _ 0 _ _ rfl) (@za _ _ _ _ _ (@zu _ _ _ _ _ _ _ _ _ (@zbr _ (K) rfl) (by rfl) T.len_ boot_len (@za _ _ _ _ _ (@pvx _ 3 _ _ rfl) (@ze _) (by rfl)) (by decide) (by decide) (by rfl) (by rfl)) (@ze _) (by rfl)) (by rfl)) (by rfl) (by rfl))) (fun _ _ _ _ => (@zh _ _ (2) _ (show (["start","picked","at","things"] : List Str).Nodup by decide +kernel) rfl (Or.inl rfl) (by trivial))) (fun _ _ _ _ => (@zU _)) (fun _ _ _ _ => (@zaH _ _ _ _ _ (@za _ _ _ _ _ (@zg _ _ _ _ _ _ _ _ (@zD _) (@pvx _ 2 _ _ rfl) (@zf _ _ _ _)) (@za _ _ _ _ _ (@zg _ _ _ _ _ _ _ _ (@zdN _) (@pvx _ 1 _ _ rfl) (@z0 _ _ _ _ (@za _ _ _ _ _ (@zH _ _ _ _ _ _ _ (@zb0 _ (K) rfl) (@pvx _ 3 _ _ rfl) (@pvx _ 2 _ _ rfl) (fun _ _ => rfl)) (@ze _) (by rfl)))) (@ze _) (by rfl)) (by rfl)))) (by rfl) (by intro _; rfl) (by intros; rfl) (by trivial))) (by intro _; rfl)) (by exact (@zn _ _ _ (@zI _ _ _ _ (@zar _ _ _ _ _ _ _ _ _ _ _ _ _ (CompSc.of (N':=["start","picked"]) (ix:=[none,none]) (zj zbg) ["things","many","chosen","step"] rfl rfl (by decide +kernel)) rfl (@zbI _ _ _ _ (@zZ _ _ _ rfl (@zZ _ _ _ rfl (@zbd _)))) (@zai _ _ _ _ (@pvx _ 2 _ _ rfl)) (fun _ _ _ _ => (@zaY _ (K) _ _ _ (2) _ rfl rfl (@zl _ _ _ _ _ (@zh _ _ (0) _ (show (["start","picked"] : List Str).Nodup by decide +kernel) rfl (Or.inl rfl) (by trivial)) (@zl _ _ _ _ _ (@zh _ _ (1) _ (show (["start","picked"] : List Str).Nodup by decide +kernel) rfl (Or.inl rfl) (by trivial)) (@zO _) (by rfl)) (by rfl)) (by rfl) (by rfl))) (fun _ _ _ _ => (@zU _)) (fun _ _ _ _ => (@pvx _ 1 _ _ rfl)) (by intro _; rfl)))))))),?_⟩
  have hsl:=sizeLine_eq
  refine ⟨Nat.zero_le _,fun L0 hL0 => ⟨by show 2 ≤ sizeLine; omega,fun T0 hT0 => ⟨by show 1 ≤ sizeLine; omega,fun c hc => ?_⟩⟩⟩
  have u0:=zb (o:=.lst []) hL0
  have u1:=zb (o:=.tup [.int 0,.ref L0]) hT0
  have u2:=zb (o:=.lst [.ref T0]) hc
  have hch0 : zd4 (upd (upd (upd H L0 (.lst [])) T0 (.tup [.int 0,.ref L0])) c (.lst [.ref T0])) [T0] (chs xs 0):=.cons ⟨L0,u2 _ _ zc,(u1.trans u2) _ _ zc⟩ .nil
  have hc0 : upd (upd (upd H L0 (.lst [])) T0 (.tup [.int 0,.ref L0])) c (.lst [.ref T0]) c = some (.lst ([T0].map V.ref)):=zc
  have s0:=(u0.trans u1).trans u2
  generalize upd (upd (upd H L0 (.lst [])) T0 (.tup [.int 0,.ref L0])) c (.lst [.ref T0]) = H0 at hch0 hc0 s0 ⊢
  refine ⟨_,rfl,_,rfl,by omega,by omega,?_⟩
  rw [Int.toNat_natCast]
  refine zaO (lo:=0) (n:=m) (fun i σ H' => ∃ (c : Addr) (ts : List Addr) (e3 : Option V),σ = [some (.ref a),some (.int m),some (.ref c),e3] ∧ zy H H' ∧ H' c = some (.lst (ts.map V.ref)) ∧ zd4 H' ts (chs xs i)) ⟨c,[T0],none,rfl,s0,hc0,hch0⟩ ?_ ?_
  ·rintro i σ H1 hi ⟨c,ts,e3,rfl,s1,h1c,hch⟩
   have hcl:=hch.length
   have hsm:=zc3 (xs:=xs) (i + 1) hx
   have hfl : ((chs xs i).flatMap (nxt xs)).length ≤ 65536:=hsm
   refine ⟨_,rfl,c,rfl,⟨_,SqL.of h1c⟩,zhz (n:=ts.length) (fun i' ys H' => ∃ us : List Addr,ys = us.map V.ref ∧ zy H1 H' ∧ zd4 H' us (((chs xs i).take i').flatMap (nxt xs))) ⟨[],rfl,fun _ _ e => e,.nil⟩ ?_ ?_ ?_ ?_⟩
   ·rintro i' ys H2 hi' ⟨us,_,s2,_⟩
    exact ⟨_,.ref ts[i'],SqL.of (s2 _ _ h1c),by rw [List.getElem?_map,List.getElem?_eq_getElem hi']; rfl⟩
   ·rintro ys H2 ⟨us,_,s2,_⟩
    exact ⟨_,SqL.of (s2 _ _ h1c),by rw [List.length_map]; exact Nat.le_refl _⟩
   ·rintro i' y ys H2 H3 hi' ⟨us,rfl,s2,hus⟩ ⟨rfl,hy⟩
    obtain ⟨tt,rfl,htt⟩:=zan (hy _ (SqL.of (s2 _ _ h1c)))
    obtain ⟨cc,hcc,hat⟩:=Paired.get hch htt
    obtain ⟨L,hL1,hL2⟩:=hat.same s2
    have hle:=zmb (List.mem_of_getElem? hcc)
    have hpl:=zgd (List.mem_of_getElem? hcc)
    obtain ⟨st,pk⟩:=cc
    dsimp only at hL1 hL2 hle hpl
    refine gY2 (SqT.of hL1) ?_
    refine ⟨_,rfl,_,rfl,a,xs,rfl,.inl ((s1.trans s2).seq hS),_,_,rfl,⟨by omega,by omega,by omega,by omega⟩,?_⟩
    have en : ((xs.length : Int) - (st : Int)).toNat = xs.length - st:=by omega
    rw [en]
    refine zhz (n:=xs.length - st) (fun j ys H' => ∃ us : List Addr,ys = us.map V.ref ∧ zy H3 H' ∧ zd4 H' us (((chs xs i).take i').flatMap (nxt xs) ++ (nxt xs (st,pk)).take j)) ⟨us,rfl,fun _ _ e => e,by rw [List.take_zero,List.append_nil]; exact hus⟩ (fun j ys H' hj _ => hj) (fun ys H' _ => Nat.le_refl _) ?_ ?_
    ·rintro j z ys H4 H5 hj ⟨us,rfl,s4,hus⟩ ⟨rfl,rfl⟩
     obtain ⟨x,hx'⟩ : ∃ x,xs[st + j]? = some x:=⟨xs[st + j]'(by omega),by simp⟩
     have hat : atI xs ((st : Int) + (j : Int)) = some x:=by
      have e : ((st + j : Nat) : Int) = (st : Int) + j:=by omega
      rw [← e]
      exact zam hx'
     have hng:=zkL (c:=(st,pk)) hx'
     have hul:=hus.length
     have hpart:=ziy (f:=nxt xs) hcc (show j < (nxt xs (st,pk)).length by rw [zfm]; exact hj)
     have hnl:=zfm xs (st,pk)
     refine gY ?_
     refine ⟨_,rfl,_,_,rfl,rfl,_,rfl,_,rfl,_,rfl,a,xs,_,x,rfl,rfl,((s1.trans s2).trans s4).seq hS,hat,by show 1 ≤ sizeLine; omega,fun b hb => ?_⟩
     have v1:=zb (o:=.lst [x]) hb
     refine ⟨L,b,pk,[x],rfl,rfl,(s4.trans v1) _ _ hL2,zc,by show pk.length + 1 ≤ sizeLine; omega,fun L2 hL2' => ⟨by show 2 ≤ sizeLine; omega,fun T2 hT2 => ⟨?_,us ++ [T2],by rw [List.map_append]; rfl,?_,?_⟩⟩⟩
     ·rw [List.length_map,hul,List.length_append,List.length_take]
      omega
     ·exact s4.trans (v1.trans ((zb hL2').trans (zb hT2)))
     ·rw [take_snoc hng,← List.append_assoc]
      refine Paired.snoc (hus.same (v1.trans ((zb hL2').trans (zb hT2)))) ⟨L2,?_,(zb hT2) _ _ zc⟩
      rw [zc]
      show some (HO.tup [.int ((st : Int) + (j : Int) + 1),.ref L2]) = some (HO.tup [.int ((st + j + 1 : Nat) : Int),.ref L2])
      have e : ((st + j + 1 : Nat) : Int) = (st : Int) + j + 1:=by omega
      rw [e]
    ·rintro ys H4 ⟨us,rfl,s4,hus⟩
     rw [List.take_of_length_le (l:=nxt xs (st,pk)) (by rw [zfm]; exact Nat.le_refl _)] at hus
     exact ⟨us,rfl,s2.trans s4,by rw [ziz hcc]; exact hus⟩
   ·rintro ys H2 ⟨us,rfl,s2,hus⟩ D hD
    rw [hcl,List.take_of_length_le (Nat.le_refl _)] at hus
    exact ⟨D,us,_,rfl,s1.trans (s2.trans (zb hD)),zc,hus.same (zb hD)⟩
  ·rintro σ H1 ⟨c,ts,e3,rfl,s1,h1c,hch⟩
   have hcl:=hch.length
   have hsm:=zc3 (xs:=xs) m hx
   refine ⟨_,rfl,c,rfl,⟨_,SqL.of h1c⟩,z8 (n:=ts.length) (fun i ys H' => H' = H1 ∧ ∃ us : List Addr,ys = us.map V.ref ∧ zge H1 us (((chs xs m).map (·.2)).take i)) ⟨rfl,[],rfl,.nil⟩ ?_ ?_ ?_ ?_⟩
   ·rintro i ys H2 hi ⟨rfl,_⟩
    exact ⟨_,.ref ts[i],SqL.of h1c,by rw [List.getElem?_map,List.getElem?_eq_getElem hi]; rfl⟩
   ·rintro ys H2 ⟨rfl,_⟩
    exact ⟨_,SqL.of h1c,by rw [List.length_map]; exact Nat.le_refl _⟩
   ·rintro i y ys H2 H3 hi ⟨rfl,us,rfl,hus⟩ ⟨rfl,hy⟩
    obtain ⟨tt,rfl,htt⟩:=zan (hy _ (SqL.of h1c))
    obtain ⟨cc,hcc,L,hL1,hL2⟩:=Paired.get hch htt
    have hul:=hus.length
    refine gY2 (SqT.of hL1) ⟨_,rfl,?_,rfl,us ++ [L],by rw [List.map_append]; rfl,?_⟩
    ·rw [List.length_map,hul,List.length_take,List.length_map]
     omega
    ·have hcc' : ((chs xs m).map (·.2))[i]? = some cc.2:=by rw [List.getElem?_map,hcc]; rfl
     rw [take_snoc hcc']
     exact Paired.snoc hus hL2
   ·rintro ys H2 D ⟨rfl,us,rfl,hus⟩ hD
    rw [List.take_of_length_le (by rw [List.length_map,hcl]; exact Nat.le_refl _)] at hus
    exact q D us _ (s1.free hD) (s1.trans (zb hD)) zc (hus.same (zb hD))
theorem zdF : FnScope ["code","row","polynomial","p","k","places"] ["code","row","polynomial"] (zj zee):=⟨rfl,rfl,rfl,by decide +kernel,rfl,by decide +kernel,by decide +kernel⟩
theorem zhR {fd : FuncData} (T : Txt K mg t) (F : Fun K "fits" "fits" zee t.fits fd) : FnOk P w K mg base CX0 2 t.fits fd ["code","row","polynomial"] (zhi K):=by
 obtain ⟨fd_value_at,F_value_at,b_value_at⟩:=T.f_value_at
 have G_value_at:=zbn (P:=P) (w:=w) (base:=base) T F_value_at
 refine F.ok zdF (fun vs H Q E h => ?_) (fun cdv A outer s H vs Q E hr h => ?_)
 ·obtain ⟨c,tt,ra,po,p,k,pl,poly,rw,rfl,_⟩:=h
  rfl
 ·obtain ⟨c,tt,ra,po,p,k,pl,poly,rw,rfl,hc,hra,hrl,hpo,p0,p1,hpl,hn,q⟩:=h
  refine ⟨_,(@zd _ _ _ _ _ (@zax _ _ _ _ _ _ (@pvx _ 0 _ _ rfl) (@zaw _ _ _ _ _ _ rfl (@zl _ _ _ _ _ (@zh _ _ (3) _ zdF.nd rfl (Or.inr rfl) (by trivial)) (@zl _ _ _ _ _ (@zh _ _ (4) _ zdF.nd rfl (Or.inl rfl) (by trivial)) (@zl _ _ _ _ _ (@zh _ _ (5) _ zdF.nd rfl (Or.inl rfl) (by trivial)) (@zO _) (by rfl)) (by rfl)) (by rfl)) (by rfl) (by rfl)) (by rfl) (by rfl) (by rfl)) (by exact (@zn _ _ _ (@zI _ _ _ _ (@zar _ _ _ _ _ _ _ _ _ _ _ _ _ (CompSc.of (N':=["at","place","entry","p","polynomial"]) (ix:=[none,none,none,some 3,some 2]) (zj zee) ["code","row","polynomial","p","k","places"] rfl rfl (by decide +kernel)) rfl (@zbI _ _ _ _ (@zZ _ _ _ rfl (@zim _ _ _ (@zbI _ _ _ _ (@zZ _ _ _ rfl (@zZ _ _ _ rfl (@zbd _)))) (@zbd _) zgK))) (@zgJ _ _ _ _ _ _ _ _ _ _ _ rfl T.enumerate_ rfl T.zip_ (@za _ _ _ _ _ (@pvx _ 5 _ _ rfl) (@za _ _ _ _ _ (@pvx _ 1 _ _ rfl) (@ze _) (by rfl)) (by rfl)) (by rfl) (by rfl) (by rfl)) (fun _ _ _ _ => (@zaY _ (K) _ _ _ (2) _ rfl rfl (@zl _ _ _ _ _ (@zh _ _ (0) _ (show (["at","place","entry","p","polynomial"] : List Str).Nodup by decide +kernel) rfl (Or.inl rfl) (by trivial)) (@zl _ _ _ _ _ (@zaY _ (K) _ _ _ (2) _ rfl rfl (@zl _ _ _ _ _ (@zh _ _ (1) _ (show (["at","place","entry","p","polynomial"] : List Str).Nodup by decide +kernel) rfl (Or.inl rfl) (by trivial)) (@zl _ _ _ _ _ (@zh _ _ (2) _ (show (["at","place","entry","p","polynomial"] : List Str).Nodup by decide +kernel) rfl (Or.inl rfl) (by trivial)) (@zO _) (by rfl)) (by rfl)) (by rfl) (by rfl)) (@zO _) (by rfl)) (by rfl)) (by rfl) (by rfl))) (fun _ _ _ _ => (@za3 _ _ _ (@zE _ _ _ _ _ _ _ _ (@zdd _) (@pvx _ 2 _ _ rfl) (@zt _ _ _ _ _ _ _ _ _ _ _ _ _ _ _ _ G_value_at (hr.mono (by decide)) rfl T.m_value_at F_value_at.kp b_value_at .nil (@zK _) (@za _ _ _ _ _ (@pvx _ 3 _ _ rfl) (@za _ _ _ _ _ (@pvx _ 4 _ _ rfl) (@za _ _ _ _ _ (@pvx _ 1 _ _ rfl) (@ze _) (by rfl)) (by rfl)) (by rfl)) (by decide) (by rfl) (by rfl)) (zM _)))) (fun _ _ _ _ => (@pvx _ 0 _ _ rfl)) (by intro _; rfl)))))),?_⟩
  refine ⟨_,rfl,c,_,rfl,SqT.of hc.1,rfl,_,_,rfl,_,_,rfl,_,_,rfl,rfl,?_⟩
  refine ⟨_,rfl,_,rfl,tt,ra,_,_,rfl,SqT.of hc.2,SqL.of hra,z8 (n:=pl.length) (fun i ys H' => ys = (zcm p pl rw poly i).map V.int ∧ zy H H') ⟨rfl,fun _ _ e => e⟩ ?_ ?_ ?_ ?_⟩
  ·rintro i ys H3 hi ⟨_,s3⟩
   obtain ⟨o,ho⟩ : ∃ o,rw[i]? = some o:=⟨rw[i]'(by omega),by simp⟩
   exact ⟨_,_,.int pl[i],enc o,SqT.of (s3 _ _ hc.2),SqL.of (s3 _ _ hra),by rw [List.getElem?_map,List.getElem?_eq_getElem hi]; rfl,by rw [List.getElem?_map,ho]; rfl⟩
  ·rintro ys H3 ⟨_,s3⟩
   exact ⟨_,_,SqT.of (s3 _ _ hc.2),SqL.of (s3 _ _ hra),by rw [List.length_map]⟩
  ·rintro i xx ys H3 H4 hi ⟨rfl,s3⟩ ⟨T1,T2,u,v,hT1,hT2,hne,rfl,rfl,hu,hv⟩
   obtain ⟨x,rfl,hx⟩:=zae (hu _ (SqT.of (s3 _ _ hc.2)))
   obtain ⟨o,rfl,ho⟩:=zfe (hv _ (SqL.of (s3 _ _ hra)))
   obtain ⟨x0,x1⟩:=hpl x (List.mem_of_getElem? hx)
   have s4 : zy H3 (upd (upd H3 T1 (.tup [.int x,enc o])) T2 (.tup [.int i,.ref T1])):=zW (zb hT1) hT2
   refine ⟨T2,_,rfl,SqT.of zc,rfl,_,_,rfl,_,_,rfl,T1,_,rfl,SqT.of (by rw [zr hne]; exact zc),rfl,_,_,rfl,_,_,rfl,rfl,rfl,?_⟩
   refine ⟨_,rfl,_,rfl,_,rfl,_,rfl,p,x,po,poly,rfl,.inr (SqT.of ((s3.trans s4) _ _ hpo)),p0,p1,x0,x1,zjk o _,_,rfl,?_⟩
   rw [zeP,zf0 hx ho,List.map_append]
   have hlen:=zfZ p pl rw poly i
   refine zay (fun h1 => ⟨_,rfl,zX (by rw [List.length_map]; omega),?_,s3.trans s4⟩) (fun h1 => ⟨?_,s3.trans s4⟩)
   ·rw [if_pos h1]
    rfl
   ·rw [if_neg h1]
    simp
  ·rintro ys H3 D ⟨rfl,s3⟩ hD
   exact q D _ (s3.free hD) (s3.trans (zb hD)) zc
theorem zdc : FnScope ["code","row","polynomial","places","some"] ["code","row","polynomial"] (zj zbz):=⟨rfl,rfl,rfl,by decide +kernel,rfl,by decide +kernel,by decide +kernel⟩
theorem ziJ {fd : FuncData} (T : Txt K mg t) (F : Fun K "_law_fits" "_law_fits" zbz t.l_fits fd) : FnOk P w K mg base CX0 2 t.l_fits fd ["code","row","polynomial"] (zih K):=by
 obtain ⟨fd_l_value,F_l_value,b_l_value⟩:=T.f_l_value
 have G_l_value:=zcz (P:=P) (w:=w) (base:=base) T F_l_value
 refine F.ok zdc (fun vs H Q E h => ?_) (fun cdv A outer s H vs Q E hr h => ?_)
 ·obtain ⟨c,tt,ra,po,p,k,pl,poly,rw,rfl,_⟩:=h
  rfl
 ·obtain ⟨c,tt,ra,po,p,k,pl,poly,rw,rfl,hc,hra,hrl,hpo,p0,p1,hpl,hn,q⟩:=h
  refine ⟨_,(@zd _ _ _ _ _ (@zp _ _ (3) _ _ _ _ zdc.nd rfl (Or.inr rfl) (@zH _ _ _ _ _ _ _ (@zbE _) (@pvx _ 0 _ _ rfl) (@zf _ _ _ _) (fun _ _ => rfl)) (by rfl) (by trivial)) (by exact (@zd _ _ _ _ _ (@zaJ _ _ _ _ _ _ _ _ _ _ _ _ _ (4) _ _ _ zdc.nd rfl (Or.inl rfl) (CompSc.of (N':=["number","row"]) (ix:=[none,some 1]) (zj zbz) ["code","row","polynomial","places","some"] rfl rfl (by decide +kernel)) rfl (@zav _ _ rfl) (@zaf _ _ _ _ _ _ rfl T.range_ (@za _ _ _ _ _ (@zu _ _ _ _ _ _ _ _ _ (@zq _) (by rfl) T.len_ boot_len (@za _ _ _ _ _ (@pvx _ 1 _ _ rfl) (@ze _) (by rfl)) (by decide) (by decide) (by rfl) (by rfl)) (@ze _) (by rfl)) (by rfl)) (fun _ _ _ _ => (@zh _ _ (0) _ (show (["number","row"] : List Str).Nodup by decide +kernel) rfl (Or.inl rfl) (by trivial))) (fun _ _ _ _ => (@za3 _ _ _ (@zE _ _ _ _ _ _ _ _ (@ze2 _) (@zH _ _ _ _ _ _ _ (@zb0 _ (K) rfl) (@pvx _ 1 _ _ rfl) (@pvx _ 0 _ _ rfl) (fun _ _ => rfl)) (@za7 _ _ _) (zM _)))) (fun _ _ _ _ => (@pvx _ 0 _ _ rfl)) (by rfl) (by intro _; rfl) (by trivial)) (by exact (@zn _ _ _ (@zI _ _ _ _ (@zar _ _ _ _ _ _ _ _ _ _ _ _ _ (CompSc.of (N':=["number","code","polynomial","places","row"]) (ix:=[none,some 0,some 2,some 3,some 1]) (zj zbz) ["code","row","polynomial","places","some"] rfl rfl (by decide +kernel)) rfl (@zav _ _ rfl) (@zai _ _ _ _ (@pvx _ 4 _ _ rfl)) (fun _ _ _ _ => (@zh _ _ (0) _ (show (["number","code","polynomial","places","row"] : List Str).Nodup by decide +kernel) rfl (Or.inl rfl) (by trivial))) (fun _ _ _ _ => (@za3 _ _ _ (@zE _ _ _ _ _ _ _ _ (@zdd _) (@zt _ _ _ _ _ _ _ _ _ _ _ _ _ _ _ _ G_l_value (hr.mono (by decide)) rfl T.m_l_value F_l_value.kp b_l_value .nil (@zK _) (@za _ _ _ _ _ (@zH _ _ _ _ _ _ _ (@zg9 _ (K) rfl) (@pvx _ 1 _ _ rfl) (@zf _ _ _ _) (fun _ _ => rfl)) (@za _ _ _ _ _ (@pvx _ 2 _ _ rfl) (@za _ _ _ _ _ (@zH _ _ _ _ _ _ _ (@zg9 _ (K) rfl) (@pvx _ 3 _ _ rfl) (@pvx _ 0 _ _ rfl) (fun _ _ => rfl)) (@ze _) (by rfl)) (by rfl)) (by rfl)) (by decide) (by rfl) (by rfl)) (@zH _ _ _ _ _ _ _ (@zb0 _ (K) rfl) (@pvx _ 4 _ _ rfl) (@pvx _ 0 _ _ rfl) (fun _ _ => rfl)) (zM _)))) (fun _ _ _ _ => (@pvx _ 0 _ _ rfl)) (by intro _; rfl)))))))),?_⟩
  refine ⟨_,rfl,c,_,_,_,rfl,rfl,SqT.of hc.1,rfl,?_⟩
  refine ⟨_,rfl,ra,_,rfl,.inl (SqL.of hra),_,rfl,by rw [List.length_map]; omega,by rw [List.length_map]; omega,?_⟩
  rw [List.length_map,Int.toNat_natCast]
  refine z8 (n:=rw.length) (fun i ys H' => ys = (zbj rw i).map V.int ∧ H' = H) ⟨rfl,rfl⟩ (fun i ys H' hi _ => hi) (fun ys H' _ => Nat.le_refl _) ?_ ?_
  ·rintro i xx ys H4 H5 hi ⟨rfl,rfl⟩ ⟨rfl,rfl⟩
   obtain ⟨o,ho⟩ : ∃ o,rw[i]? = some o:=⟨rw[i]'(by omega),by simp⟩
   have hat : atI (rw.map enc) (0 + (i : Int)) = some (enc o):=by
    rw [Int.zero_add]
    exact zam (by rw [List.getElem?_map,ho]; rfl)
   refine ⟨_,rfl,_,rfl,ra,_,_,_,rfl,rfl,SqL.of hra,hat,rfl,_,rfl,?_⟩
   have hl:=zcH rw i
   rw [zgL,ho,List.map_append]
   refine zay (fun h1 => ⟨_,rfl,zX (by rw [List.length_map]; omega),?_,rfl⟩) (fun h1 => ⟨?_,rfl⟩)
   ·cases o with
    | none => exact absurd h1 (by simp [enc])
    | some z => rw [Int.zero_add]; rfl
   ·cases o with
    | none => simp
    | some z => exact absurd (by simp [enc]) h1
  ·rintro ys H4 D ⟨rfl,rfl⟩ hD
   have sD:=zb (o:=.lst ((zbj rw rw.length).map V.int)) hD
   have hDD : upd H4 D (.lst ((zbj rw rw.length).map V.int)) D = some (.lst ((zbj rw rw.length).map V.int)):=zc
   generalize upd H4 D (.lst ((zbj rw rw.length).map V.int)) = H5 at sD hDD ⊢
   have hsl:=zcH rw rw.length
   refine ⟨_,rfl,D,rfl,⟨_,SqL.of hDD⟩,zeO (K:=K) (xs:=(zbj rw rw.length).map V.int) (kp:=zlW p pl rw poly) (f:=id) (SqL.of hDD) (by rw [List.length_map]; omega) ?_ ?_⟩
   ·intro j xx R B hx hR
    obtain ⟨z,rfl,hz⟩:=zae hx
    obtain ⟨m,rfl,hm⟩:=zik (List.mem_of_getElem? hz)
    obtain ⟨o,ho⟩ : ∃ o,rw[m]? = some o:=⟨rw[m]'(by omega),by simp⟩
    obtain ⟨x,hx⟩ : ∃ x,pl[m]? = some x:=⟨pl[m]'(by omega),by simp⟩
    obtain ⟨x0,x1⟩:=hpl x (List.mem_of_getElem? hx)
    refine ⟨_,rfl,c,_,_,_,rfl,rfl,SqT.of (sD _ _ hc.1),rfl,_,rfl,_,rfl,_,rfl,tt,_,_,.int x,rfl,rfl,SqT.of (sD _ _ hc.2),zam (by rw [List.getElem?_map,hx]; rfl),p,x,po,poly,rfl,.inr (SqT.of (sD _ _ hpo)),p0,p1,x0,x1,_,rfl,_,rfl,ra,_,_,enc o,rfl,rfl,SqL.of (sD _ _ hra),zam (by rw [List.getElem?_map,ho]; rfl),zii o _,_,rfl,?_⟩
    have e : zlW p pl rw poly (.int (m : Int)) = decide (V.int (zi p x poly) = enc o):=by
     show zbT p pl rw poly ((m : Int)).toNat = _
     rw [Int.toNat_natCast,zf0 hx ho]
     exact decide_eq_decide.mpr ⟨fun e => e.symm,fun e => e.symm⟩
    rw [e] at hR
    refine zay (fun h1 => ⟨_,rfl,?_⟩) (fun h1 => ?_)
    ·rw [if_pos h1] at hR
     exact hR
    ·rw [if_neg h1] at hR
     exact hR
   ·intro D2 hD2
    refine q D2 _ (sD.free hD2) (sD.trans (zb hD2)) ?_
    rw [zc,zij,hrl]
theorem zhS {p : Int} {pts : List (Int × Int)} (hP : Pts p pts) : pts.map (md p) = pts:=by
 refine (List.map_congr_left fun q hq => ?_).trans (List.map_id _)
 obtain ⟨_,_,h1,h2⟩:=hP.rg q hq
 show (q.1,q.2 % p) = q
 rw [Int.emod_eq_of_lt h1 h2]
theorem zap : FnScope ["code","points","p","k","places","found","picked"] ["code","points"] (zj zaF):=⟨rfl,rfl,rfl,by decide +kernel,rfl,by decide +kernel,by decide +kernel⟩
theorem zeh {fd : FuncData} (T : Txt K mg t) (F : Fun K "all_through" "all_through" zaF t.all_through fd) : FnOk P w K mg base CX0 4 t.all_through fd ["code","points"] (zd7 K):=by
 obtain ⟨fd_choices,F_choices,b_choices⟩:=T.f_choices
 have G_choices:=zgY (P:=P) (w:=w) (base:=base) T F_choices
 obtain ⟨fd_through,F_through,b_through⟩:=T.f_through
 have G_through:=zcA (P:=P) (w:=w) (base:=base) T F_through
 refine F.ok zap (fun vs H Q E h => ?_) (fun cdv A outer s H vs Q E hr h => ?_)
 ·obtain ⟨c,tt,a,p,k,pl,bs,pts,rfl,_⟩:=h
  rfl
 ·obtain ⟨c,tt,a,p,k,pl,bs,pts,rfl,hc,hS,hB,hn,hp,hP,k0,k1,q⟩:=h
  have hu : (A.deeper (envOfC (Str.ofString "all_through") (zj zaF) s.heap.objs.size t.all_through cdv)).units + 1 < cLine:=by have:=hr.units; omega
  refine ⟨_,(@zd _ _ _ _ _ (@zax _ _ _ _ _ _ (@pvx _ 0 _ _ rfl) (@zaw _ _ _ _ _ _ rfl (@zl _ _ _ _ _ (@zh _ _ (2) _ zap.nd rfl (Or.inl rfl) (by trivial)) (@zl _ _ _ _ _ (@zh _ _ (3) _ zap.nd rfl (Or.inl rfl) (by trivial)) (@zl _ _ _ _ _ (@zh _ _ (4) _ zap.nd rfl (Or.inl rfl) (by trivial)) (@zO _) (by rfl)) (by rfl)) (by rfl)) (by rfl) (by rfl)) (by rfl) (by rfl) (by rfl)) (by exact (@zd _ _ _ _ _ (@zp _ _ (5) _ _ _ _ zap.nd rfl (Or.inl rfl) (@zjq _ _) (by rfl) (by trivial)) (by exact (@zd _ _ _ _ _ (@zaP _ _ _ _ _ _ _ _ PassesOwn.never rfl (@zai _ _ _ _ (@zt _ _ _ _ _ _ _ _ _ _ _ _ _ _ _ _ G_choices (hr.mono (by decide)) rfl T.m_choices F_choices.kp b_choices .nil (@zK _) (@za _ _ _ _ _ (@pvx _ 1 _ _ rfl) (@za _ _ _ _ _ (@pvx _ 3 _ _ rfl) (@ze _) (by rfl)) (by rfl)) (by decide) (by rfl) (by rfl))) (@zh _ _ (6) _ zap.nd rfl (Or.inl rfl) (by trivial)) (@zn _ _ _ (@zky _ _ _ _ _ _ _ _ _ hu (@pvx _ 5 _ _ rfl) (@zt _ _ _ _ _ _ _ _ _ _ _ _ _ _ _ _ G_through (hr.mono (by decide)) rfl T.m_through F_through.kp b_through .nil (@zK _) (@za _ _ _ _ _ (@pvx _ 2 _ _ rfl) (@za _ _ _ _ _ (@pvx _ 6 _ _ rfl) (@ze _) (by rfl)) (by rfl)) (by decide) (by rfl) (by rfl)) (@zeu _ _ _ _) rfl)) (by intro _; rfl)) (by exact (@zn _ _ _ (@zI _ _ _ _ (@zu _ _ _ _ _ _ _ _ _ (@zfl _ rfl) (by rfl) T.sorted_ boot_sorted (@za _ _ _ _ _ (@pvx _ 5 _ _ rfl) (@ze _) (by rfl)) (by decide) (by decide) (by rfl) (by rfl)))))))))),?_⟩
  have hsl:=sizeLine_eq
  have rp:=zo hp
  obtain ⟨zs,rfl,rfl,hz⟩:=hB.zs
  rw [List.length_map] at hn
  refine ⟨_,rfl,c,_,rfl,SqT.of hc.1,rfl,_,_,rfl,_,_,rfl,_,_,rfl,rfl,fun D hD => ?_⟩
  have s0:=zb (o:=.dT []) hD
  have hD0 : upd H D (.dT []) D = some (.dT []):=zc
  generalize upd H D (.dT []) = H0 at s0 hD0 ⊢
  refine ⟨_,rfl,_,rfl,a,k,_,rfl,s0.seq hS,by rw [List.length_map,List.length_map]; omega,by omega,fun l ls H1 hl s1 h1l hpk => ?_⟩
  have hlD : l ≠ D:=fun e => by rw [e,hD0] at hl; cases hl
  rw [List.map_map,zeU (V.ref ∘ fun z : Addr × Int × Int => z.1) zs k] at hpk
  have hpl:=hpk.length
  rw [List.length_map,List.length_map] at hpl
  have hsm:=zc3 (xs:=zs) k hn
  obtain ⟨zks,hzks⟩ : ∃ zks,(chs zs k).map (·.2) = zks:=⟨_,rfl⟩
  rw [hzks] at hpk
  have hzl : ls.length = zks.length:=by rw [hpl,← hzks,List.length_map]
  have hH1D : H1 D = some (.dT []):=s1 _ _ hD0
  have hid:=zjj H1 D
  refine ⟨l,rfl,⟨_,SqL.of h1l⟩,zcC (K:=K) (a:=l) (xs:=ls.map V.ref) (fun i σ H' => ∃ (kvs : List (List Key × V)) (mss : List (List Int)) (e6 : Option V),σ = [some (.ref c),some (.ref a),some (.int p),some (.int k),some (.ref tt),some (.ref D),e6] ∧
   zy (hide H1 D) H' ∧ H' D = some (.dT kvs) ∧ KeysAre kvs mss ∧ mss.Nodup ∧ mss.length ≤ i ∧ ∀ x,x ∈ mss ↔ ∃ zk ∈ zks.take i,x = thr p (zk.map (·.2)))
   ⟨[],[],none,rfl,hid,hH1D,rfl,by simp,Nat.le_refl _,fun x => by simp⟩ (fun i σ H' _ ⟨_,_,_,_,s3,_⟩ => SqL.of (s3 _ _ (zds h1l hlD))) ?_ ?_⟩
  ·rintro i y σ H2 hy ⟨kvs,mss,e6,rfl,s2,h2D,hkm,hnd,hml,hmem⟩
   obtain ⟨b,rfl,hbi⟩:=zan hy
   obtain ⟨hi,_⟩:=List.getElem?_eq_some_iff.mp hbi
   obtain ⟨vk,hvk,hb1⟩:=Paired.get hpk hbi
   obtain ⟨zk,hzk,rfl⟩ : ∃ zk,zks[i]? = some zk ∧ vk = zk.map (V.ref ∘ fun z : Addr × Int × Int => z.1):=by
    rw [List.getElem?_map] at hvk
    cases e : zks[i]? with
    | none => rw [e] at hvk; cases hvk
    | some zk => rw [e] at hvk; exact ⟨zk,rfl,(Option.some.inj hvk).symm⟩
   have hbD : b ≠ D:=fun e => by rw [e,hH1D] at hb1; cases hb1
   obtain ⟨hsub,hlen⟩:=zfo.mp (by rw [hzks]; exact List.mem_of_getElem? hzk : zk ∈ (chs zs k).map (·.2))
   have hPk : Pts p (zk.map (·.2)):=hP.sub (hsub.map _)
   have hpts : zjf K H2 b (zk.map (·.2)):=by
    refine ⟨zk.map (·.1),?_,by rw [List.length_map,List.length_map],fun j b' q' h1 h2 => ?_⟩
    ·have:=s2 _ _ (zds hb1 hbD)
     rw [List.map_map]
     exact SqL.of this
    ·rw [List.getElem?_map] at h1 h2
     cases e : zk[j]? with
     | none => rw [e] at h1; cases h1
     | some z =>
      rw [e] at h1 h2
      cases h1
      cases h2
      have hz1:=hz z (hsub.subset (List.mem_of_getElem? e))
      have hzD : z.1 ≠ D:=zF hz1 hD
      exact s2 _ _ (zds ((s0.trans s1) _ _ hz1) hzD)
   have hmf : kvs.length = mss.length:=by
    have:=congrArg List.length hkm
    rw [List.length_map,List.length_map] at this
    exact this
   refine ⟨_,rfl,_,rfl,_,rfl,p,b,_,rfl,hpts,by rw [List.length_map]; omega,hp,(by rw [zhS hPk]; exact hPk),(fun q hq => by have:=hPk.rg q hq; omega),fun tl H3 htl s3 h3 => ?_⟩
   rw [zhS hPk] at h3
   have h3D:=s3 _ _ h2D
   refine ⟨D,_,rfl,zjo.t (k:=(thr p (zk.map (·.2))).map Sum.inl) h3D (by rw [h3,List.map_map]; rfl) (by omega),?_⟩
   obtain ⟨mss',m1,m2,m3,m4⟩:=zjN hkm hnd (thr p (zk.map (·.2))) (.bl true)
   refine ⟨_,mss',_,rfl,?_,zc,m1,m2,by omega,fun x => ?_⟩
   ·refine zW (s2.trans s3) ?_
    unfold hide
    rw [if_pos rfl]
   ·rw [m4 x,hmem x,take_snoc hzk]
    constructor
    ·rintro (⟨zk',h1,h2⟩ | e)
     ·exact ⟨zk',List.mem_append_left _ h1,h2⟩
     ·exact ⟨zk,List.mem_append_right _ (List.mem_singleton.mpr rfl),e⟩
    ·rintro ⟨zk',h1,h2⟩
     rcases (List.mem_append.mp h1) with h1 | h1
     ·exact .inl ⟨zk',h1,h2⟩
     ·rw [List.mem_singleton.mp h1] at h2
      exact .inr h2
  ·rintro σ H2 ⟨kvs,mss,e6,rfl,s2,h2D,hkm,hnd,hml,hmem⟩
   rw [List.length_map,hzl] at hmem hml
   rw [List.take_length] at hmem
   rw [← hzl,hpl] at hml
   have hall : ∀ x,x ∈ mss ↔ ∃ pk ∈ (chs (zs.map (·.2)) k).map (·.2),x = thr p pk:=fun x => by
    rw [hmem x,zeU,hzks]
    constructor
    ·rintro ⟨zk,h1,h2⟩
     exact ⟨_,List.mem_map_of_mem h1,h2⟩
    ·rintro ⟨pk,h1,h2⟩
     obtain ⟨zk,h3,rfl⟩:=List.mem_map.mp h1
     exact ⟨zk,h3,h2⟩
   have hisP : ∀ x ∈ mss,IsP p k x:=fun x hx => by
    obtain ⟨pk,h1,rfl⟩:=(hall x).mp hx
    exact zhF hp hP h1
   refine ⟨_,rfl,D,k,p,kvs,mss,rfl,h2D,hkm,fun ms hm => hisP ms hm,k0,by omega,fun r ps' hr' hperm hsort hH => ?_⟩
   have hHs : zy H H2:=fun x u e => s2 _ _ (zds ((s0.trans s1) _ _ e) (zF e hD))
   have e1 : ps'.map (fun q => V.ref q.1) = (ps'.map (·.1)).map V.ref:=by rw [List.map_map]; rfl
   rw [e1]
   refine q r (ps'.map (·.1)) (ps'.map (·.2)) _ (hHs.free hr') (hHs.trans (zb hr')) zc ((zbx.of hH).same (zb hr')) (by rw [hperm.length_eq]; omega) (zkP (by omega) (fun x hx => hisP x (hperm.mem_iff.mp hx)) (hperm.nodup_iff.mpr hnd) ?_) fun x => ?_
   ·rw [List.pairwise_map]
    exact hsort
   ·rw [hperm.mem_iff]
    exact hall x
def zfz (K : PySem.W.Frag) : Sp:=fun vs H Q _ => ∃ (c tt r : Addr) (p : Int) (k : Nat) (T : Int) (pl : List Int) (rw : List (Option Int)),vs = [.ref c,.ref r,.int T] ∧ zaU H c tt p k pl ∧ H r = some (.lst (rw.map enc)) ∧ rw.length = pl.length ∧ pl.length ≤ 16 ∧ p ∈ zm ∧ pl.Nodup ∧ (∀ x ∈ pl,0 ≤ x ∧ x < p) ∧ (∀ z,some z ∈ rw → 0 ≤ z ∧ z < p) ∧ 1 ≤ k ∧ k ≤ 100 ∧ (k : Int) ≤ T ∧
 ∀ (l : Addr) (rs : List Addr) (qs : List (List Int)) (H' : Hp),H l = none → zy H H' → H' l = some (.lst (rs.map V.ref)) → zbx H' rs qs → zd6 p k qs → (∀ q,q ∈ qs ↔ IsP p k q ∧ T ≤ (hits p q (hps pl rw) : Int)) → Q (.ref l) H'
theorem zbo : FnScope ["code","row","t","k","points","first"] ["code","row","t"] (zj zbk):=⟨rfl,rfl,rfl,by decide +kernel,rfl,by decide +kernel,by decide +kernel⟩
theorem zgq {fd : FuncData} (T : Txt K mg t) (F : Fun K "all_near" "all_near" zbk t.all_near fd) : FnOk P w K mg base CX0 5 t.all_near fd ["code","row","t"] (zfz K):=by
 obtain ⟨fd_heard_points,F_heard_points,b_heard_points⟩:=T.f_heard_points
 have G_heard_points:=za9 (P:=P) (w:=w) (base:=base) T F_heard_points
 obtain ⟨fd_fits,F_fits,b_fits⟩:=T.f_fits
 have G_fits:=zhR (P:=P) (w:=w) (base:=base) T F_fits
 obtain ⟨fd_all_through,F_all_through,b_all_through⟩:=T.f_all_through
 have G_all_through:=zeh (P:=P) (w:=w) (base:=base) T F_all_through
 refine F.ok zbo (fun vs H Q E h => ?_) (fun cdv A outer s H vs Q E hr h => ?_)
 ·obtain ⟨c,tt,r,p,k,T',pl,rw,rfl,_⟩:=h
  rfl
 ·obtain ⟨c,tt,r,p,k,T',pl,rw,rfl,hc,hra,hrl,hn,hp,hnd,hpl,hrw,k0,k1,h1,q⟩:=h
  refine ⟨_,(@zd _ _ _ _ _ (@zp _ _ (3) _ _ _ _ zbo.nd rfl (Or.inl rfl) (@zH _ _ _ _ _ _ _ (@zbE _) (@pvx _ 0 _ _ rfl) (@zf _ _ _ _) (fun _ _ => rfl)) (by rfl) (by trivial)) (by exact (@zd _ _ _ _ _ (@zaT _ _ _ _ _ _ _ _ (@zE _ _ _ _ _ _ _ _ (@zfJ _) (@pvx _ 2 _ _ rfl) (@pvx _ 3 _ _ rfl) (zM _)) (@zhZ _ _) (@zah _)) (by exact (@zd _ _ _ _ _ (@zp _ _ (4) _ _ _ _ zbo.nd rfl (Or.inl rfl) (@zt _ _ _ _ _ _ _ _ _ _ _ _ _ _ _ _ G_heard_points (hr.mono (by decide)) rfl T.m_heard_points F_heard_points.kp b_heard_points .nil (@zK _) (@za _ _ _ _ _ (@pvx _ 0 _ _ rfl) (@za _ _ _ _ _ (@pvx _ 1 _ _ rfl) (@ze _) (by rfl)) (by rfl)) (by decide) (by rfl) (by rfl)) (by rfl) (by trivial)) (by exact (@zd _ _ _ _ _ (@zaT _ _ _ _ _ _ _ _ (@zE _ _ _ _ _ _ _ _ (@zey _) (@pvx _ 2 _ _ rfl) (@zu _ _ _ _ _ _ _ _ _ (@zq _) (by rfl) T.len_ boot_len (@za _ _ _ _ _ (@pvx _ 4 _ _ rfl) (@ze _) (by rfl)) (by decide) (by decide) (by rfl) (by rfl)) (zM _)) (@zn _ _ _ (@zI _ _ _ _ (@z0 _ _ _ _ (@ze _)))) (@zah _)) (by exact (@zd _ _ _ _ _ (@zp _ _ (5) _ _ _ _ zbo.nd rfl (Or.inl rfl) (@za1 _ _ _ _ _ _ _ _ _ _ zb8 (@pvx _ 4 _ _ rfl) (@zbD _) (@zbb _ _ _ (@zg _ _ _ _ _ _ _ _ (@zD _) (@zg _ _ _ _ _ _ _ _ (@za8 _) (@zu _ _ _ _ _ _ _ _ _ (@zq _) (by rfl) T.len_ boot_len (@za _ _ _ _ _ (@pvx _ 4 _ _ rfl) (@ze _) (by rfl)) (by decide) (by decide) (by rfl) (by rfl)) (@pvx _ 2 _ _ rfl)) (@pvx _ 3 _ _ rfl)))) (by rfl) (by trivial)) (by exact (@zn _ _ _ (@zI _ _ _ _ (@zar _ _ _ _ _ _ _ _ _ _ _ _ _ (CompSc.of (N':=["polynomial","code","row","t"]) (ix:=[none,some 0,some 1,some 2]) (zj zbk) ["code","row","t","k","points","first"] rfl rfl (by decide +kernel)) rfl (@zav _ _ rfl) (@zai _ _ _ _ (@zt _ _ _ _ _ _ _ _ _ _ _ _ _ _ _ _ G_all_through (hr.mono (by decide)) rfl T.m_all_through F_all_through.kp b_all_through .nil (@zK _) (@za _ _ _ _ _ (@pvx _ 0 _ _ rfl) (@za _ _ _ _ _ (@pvx _ 5 _ _ rfl) (@ze _) (by rfl)) (by rfl)) (by decide) (by rfl) (by rfl))) (fun _ _ _ _ => (@zh _ _ (0) _ (show (["polynomial","code","row","t"] : List Str).Nodup by decide +kernel) rfl (Or.inl rfl) (by trivial))) (fun _ _ _ _ => (@za3 _ _ _ (@zE _ _ _ _ _ _ _ _ (@zg4 _) (@zu _ _ _ _ _ _ _ _ _ (@zbr _ (K) rfl) (by rfl) T.len_ boot_len (@za _ _ _ _ _ (@zt _ _ _ _ _ _ _ _ _ _ _ _ _ _ _ _ G_fits (hr.mono (by decide)) rfl T.m_fits F_fits.kp b_fits .nil (@zK _) (@za _ _ _ _ _ (@pvx _ 1 _ _ rfl) (@za _ _ _ _ _ (@pvx _ 2 _ _ rfl) (@za _ _ _ _ _ (@pvx _ 0 _ _ rfl) (@ze _) (by rfl)) (by rfl)) (by rfl)) (by decide) (by rfl) (by rfl)) (@ze _) (by rfl)) (by decide) (by decide) (by rfl) (by rfl)) (@pvx _ 3 _ _ rfl) (zM _)))) (fun _ _ _ _ => (@pvx _ 0 _ _ rfl)) (by intro _; rfl)))))))))))))),?_⟩
  have hsl:=sizeLine_eq
  have rp:=zo hp
  have hR : RowAt K H r pl.length rw:=⟨SqL.of hra,hrl⟩
  have hP:=zdB hnd hpl hrw
  have hhl:=zbM pl rw
  refine ⟨_,rfl,c,_,_,_,rfl,rfl,SqT.of hc.1,rfl,?_⟩
  refine ⟨_,rfl,_,rfl,_,_,rfl,rfl,_,rfl,?_⟩
  ·refine zay (fun h => absurd (of_decide_eq_true h) (by omega)) (fun _ => ?_)
   refine ⟨_,rfl,_,rfl,c,tt,r,p,k,pl,rw,rfl,hc,hR,by omega,fun l bs H1 hl1 s1 h1l hB => ?_⟩
   have hbl : bs.length = (hps pl rw).length:=hB.length
   refine ⟨_,rfl,_,rfl,l,_,rfl,.inl (SqL.of h1l),_,_,rfl,rfl,_,rfl,?_⟩
   rw [List.length_map]
   refine zay (fun hlt => ?_) (fun hge => ?_)
   ·have hlt:=of_decide_eq_true hlt
    refine ⟨Nat.zero_le _,fun z hz => q z [] [] _ (s1.free hz) (s1.trans (zb hz)) zc .nil ⟨by simp,.nil⟩ fun x => ?_⟩
    have:=List.length_filter_le (hit p x) (hps pl rw)
    constructor
    ·intro h; cases h
    ·rintro ⟨_,h⟩
     unfold hits at h
     omega
   ·have hge : ¬ T' > (bs.length : Int):=fun h => hge (decide_eq_true h)
    obtain ⟨tn,rfl⟩ : ∃ tn : Nat,T' = tn:=⟨T'.toNat,by omega⟩
    refine ⟨_,rfl,_,rfl,l,_,rfl,.inl (SqL.of h1l),_,rfl,_,_,rfl,rfl,_,rfl,_,_,rfl,rfl,_,rfl,l,_,rfl,SqL.of h1l,fun z hz => ?_⟩
    have ecut : ((bs.map V.ref).length : Int) - (tn : Int) + (k : Int) = ((bs.length - tn + k : Nat) : Int):=by rw [List.length_map]; omega
    rw [ecut,zgV,← List.map_take]
    have v1:=zb (o:=.lst ((bs.take (bs.length - tn + k)).map V.ref)) hz
    have hzz : upd H1 z (.lst ((bs.take (bs.length - tn + k)).map V.ref)) z = some (.lst ((bs.take (bs.length - tn + k)).map V.ref)):=zc
    have s2:=s1.trans v1
    have hB2:=(hB.same v1).take (bs.length - tn + k)
    generalize upd H1 z (.lst ((bs.take (bs.length - tn + k)).map V.ref)) = H2 at v1 hzz s2 hB2 ⊢
    have hPt : Pts p ((hps pl rw).take (bs.length - tn + k)):=hP.sub (List.take_sublist _ _)
    refine ⟨_,rfl,_,rfl,c,tt,z,p,k,pl,_,_,rfl,hc.same s2,SqL.of hzz,hB2,by rw [List.length_take]; omega,hp,hPt,k0,k1,fun l2 rs qs H3 hl2 s3 h3l hT hql hRise hmem => ?_⟩
    have hrq:=hT.length
    have s13:=s2.trans s3
    refine ⟨l2,rfl,⟨_,SqL.of h3l⟩,z8 (n:=rs.length) (fun i ys H' => zy H3 H' ∧ ∃ us : List Addr,ys = us.map V.ref ∧ us.length ≤ i ∧ zbx H' us ((qs.take i).filter fun x => decide ((tn : Int) ≤ (hits p x (hps pl rw) : Int)))) ⟨fun _ _ e => e,[],rfl,Nat.le_refl _,.nil⟩ ?_ ?_ ?_ ?_⟩
    ·rintro i ys H4 hi ⟨s4,_⟩
     exact ⟨_,.ref rs[i],SqL.of (s4 _ _ h3l),by rw [List.getElem?_map,List.getElem?_eq_getElem hi]; rfl⟩
    ·rintro ys H4 ⟨s4,_⟩
     exact ⟨_,SqL.of (s4 _ _ h3l),by rw [List.length_map]; exact Nat.le_refl _⟩
    ·rintro i y ys H4 H5 hi ⟨s4,us,rfl,hul,hus⟩ ⟨rfl,hy⟩
     obtain ⟨rb,rfl,hrb⟩:=zan (hy _ (SqL.of (s4 _ _ h3l)))
     obtain ⟨qq,hqq,hat⟩:=Paired.get hT hrb
     have s14:=s13.trans s4
     refine ⟨_,rfl,_,rfl,_,rfl,c,tt,r,rb,p,k,pl,qq,rw,rfl,hc.same s14,s14 _ _ hra,hrl,s4 _ _ hat,by omega,by omega,hpl,by omega,fun fl H6 hfl s6 h6 => ?_⟩
     refine ⟨fl,_,rfl,.inl (SqL.of h6),_,rfl,_,_,rfl,rfl,_,rfl,?_⟩
     have ef : ((zcm p pl rw qq pl.length).map V.int).length = hits p qq (hps pl rw):=by rw [List.length_map]; exact zdC hrl
     rw [ef]
     have hsn : (qs.take (i + 1)).filter (fun x => decide ((tn : Int) ≤ (hits p x (hps pl rw) : Int))) = (qs.take i).filter (fun x => decide ((tn : Int) ≤ (hits p x (hps pl rw) : Int))) ++ [qq].filter (fun x => decide ((tn : Int) ≤ (hits p x (hps pl rw) : Int))):=by rw [take_snoc hqq,List.filter_append]
     refine zay (fun h => ⟨_,rfl,?_,s4.trans s6,us ++ [rb],by rw [List.map_append]; rfl,by rw [List.length_append]; exact Nat.succ_le_succ hul,?_⟩) (fun h => ⟨s4.trans s6,us,rfl,by omega,?_⟩)
     ·rw [List.length_map]; omega
     ·rw [hsn,List.filter_cons_of_pos (p:=fun x => decide ((tn : Int) ≤ (hits p x (hps pl rw) : Int))) h]
      exact Paired.snoc (hus.same s6) ((s4.trans s6) _ _ hat)
     ·rw [hsn,List.filter_cons_of_neg (p:=fun x => decide ((tn : Int) ≤ (hits p x (hps pl rw) : Int))) h,List.filter_nil,List.append_nil]
      exact hus.same s6
    ·rintro ys H4 D ⟨s4,us,rfl,hul,hus⟩ hD
     rw [hrq,List.take_length] at hus
     have s14:=s13.trans s4
     refine q D us _ _ (s14.free hD) (s14.trans (zb hD)) zc (hus.same (zb hD)) (hRise.filter _) fun x => ?_
     rw [List.mem_filter,hmem x,decide_eq_true_iff]
     constructor
     ·rintro ⟨⟨pk,h1,rfl⟩,h2⟩
      exact ⟨zhF hp hPt h1,h2⟩
     ·rintro ⟨h1',h2⟩
      exact ⟨zgR hp hP h1' (t:=tn) (by omega) (by omega) (by omega),h2⟩
end
end My
end
section
set_option maxHeartbeats 3999000
namespace My
open PySem L2 PyProof.Rows
section
variable {p : Int} {k : Nat} {pts : List (Int × Int)} {f : List Int}
def zcB (p : Int) (f : List Int) (pts : List (Int × Int)) : List Int:=(pts.filter fun a => !hit p f a).map (·.1)
theorem zbA (p : Int) (f : List Int) (pts : List (Int × Int)) : hits p f pts + (zcB p f pts).length = pts.length:=by
 unfold hits zcB
 rw [List.length_map]
 induction pts with
 | nil => rfl
 | cons a l ih =>
  cases h : hit p f a
  ·rw [List.filter_cons_of_neg (by simp [h]),List.filter_cons_of_pos (by simp [h]),List.length_cons,List.length_cons]
   omega
  ·rw [List.filter_cons_of_pos h,List.filter_cons_of_neg (by simp [h]),List.length_cons,List.length_cons]
   omega
theorem zk9 (hp : p ∈ zm) (hf : IsP p k f) : Good p k (zcB p f pts).length [pts] (zcr p (zcB p f pts)):=by
 have rp:=zo hp
 intro q hq
 obtain rfl : q = pts:=by simpa using hq
 have hw:=zec hp (zcB p f q)
 refine ⟨(zc8 f (zcr p (zcB p f q)) (k + (zcB p f q).length) ((zcB p f q).length + 1)).map (· % p),⟨by rw [List.length_map]; unfold zc8; rw [List.length_map,List.length_range],fun c hc => ?_⟩,fun a ha => ?_⟩
 ·obtain ⟨d,_,rfl⟩:=List.mem_map.mp hc
  exact ⟨Int.emod_nonneg _ (by omega),Int.emod_lt_of_pos _ (by omega)⟩
 ·refine Cg.eq ?_ (z9 (by omega) _) (zaa (by omega) _) (Int.emod_nonneg _ (by omega)) (Int.emod_lt_of_pos _ (by omega))
  refine (zeW _).trans ((zj0 (by rw [hf.1]; exact Nat.le_refl _) (by rw [hw.1]; exact Nat.le_refl _)).trans (Cg.trans ?_ (Cg.emod _ _).symm))
  cases hh : hit p f a
  ·have hz : Cg p (zi p a.1 (zcr p (zcB p f q))) 0:=(zfx _).trans (Cg.of_eq (zeb (List.mem_map.mpr ⟨a,List.mem_filter.mpr ⟨ha,by rw [hh]; rfl⟩,rfl⟩)))
   exact (hz.mul (Cg.refl p _)).trans ((Cg.of_eq (by omega)).trans (hz.mul (Cg.refl p a.2)).symm)
  ·have : zi p a.1 f = a.2:=of_decide_eq_true hh
   rw [this]
   exact Cg.refl _ _
theorem zmY (hP : Pts p pts) {a b : Int × Int} (ha : a ∈ pts) (hb : b ∈ pts) (e : a.1 = b.1) : a = b:=by
 obtain ⟨i,hi⟩:=List.getElem?_of_mem ha
 (obtain ⟨j,hj⟩:=List.getElem?_of_mem hb)
 have h1 : (pts.map (·.1))[i]? = some a.1:=by rw [List.getElem?_map,hi]; rfl
 have h2 : (pts.map (·.1))[j]? = some b.1:=by rw [List.getElem?_map,hj]; rfl
 have hij : i = j:=(List.getElem?_inj (List.getElem?_eq_some_iff.mp h1).1 hP.nd).mp (by rw [h1,h2,e])
 subst hij
 rw [hi] at hj
 exact Option.some.inj hj
theorem zj8 (hp : p ∈ zm) (hP : Pts p pts) (hlt : (zcB p f pts).length < pts.length) : ∃ i,gl (zcr p (zcB p f pts)) i ≠ 0:=by
 have rp:=zo hp
 refine Classical.byContradiction fun hno => ?_
 have hall : ∀ i,gl (zcr p (zcB p f pts)) i = 0:=fun i => Classical.byContradiction fun h => hno ⟨i,h⟩
 have hs:=zbA p f pts
 have hpos : 0 < (pts.filter (hit p f)).length:=by unfold hits at hs; omega
 obtain ⟨a,ha⟩:=List.exists_mem_of_length_pos hpos
 obtain ⟨h1,h2⟩:=List.mem_filter.mp ha
 obtain ⟨x0,x1,_⟩:=hP.rg a h1
 refine zgn hp ⟨x0,x1⟩ (xs:=zcB p f pts) (fun x hx => ?_) ((zfx (zcB p f pts)).symm.trans (zea fun c hc => ?_))
 ·obtain ⟨b,hb,rfl⟩:=List.mem_map.mp hx
  obtain ⟨b1,b2⟩:=List.mem_filter.mp hb
  obtain ⟨y0,y1,_⟩:=hP.rg b b1
  refine ⟨y0,y1,fun e => ?_⟩
  have hab:=zmY hP b1 h1 e
  rw [hab,h2] at b2
  cases b2
 ·obtain ⟨j,hj⟩:=List.getElem?_of_mem hc
  have:=hall j
  rw [zbw hj] at this
  exact Cg.of_eq this
theorem zfA (hp : p ∈ zm) (hP : Pts p pts) (hf : IsP p k f) (hk : 1 ≤ k) (hh : pts.length + k ≤ 2 * hits p f pts) {e : Nat} {left right : List Int} (L : LocOk p k [pts] e left [right]) : e ≤ (zcB p f pts).length:=by
 have hs:=zbA p f pts
 refine Nat.le_of_not_lt fun hlt => ?_
 obtain ⟨i,hi⟩:=zj8 hp hP (f:=f) (by omega)
 exact hi (L.mn _ hlt _ (zec hp _) (zk9 hp hf) i)
theorem zei (hp : p ∈ zm) (hP : Pts p pts) (hf : IsP p k f) (hk : 1 ≤ k) (hh : pts.length + k ≤ 2 * hits p f pts) {e : Nat} {left right : List Int} (L : LocOk p k [pts] e left [right]) (hr : IsP p (k + e) right) (hev : ∀ a ∈ pts,zi p a.1 right = zi p a.1 left * a.2 % p) (z : Int) : zi p z right = zi p z left * zi p z f % p:=by
 have rp:=zo hp
 have he:=zfA hp hP hf hk hh L
 have hs:=zbA p f pts
 have hl:=L.lf
 have hC : (zc8 f left (k + e) (e + 1)).length = k + e:=by unfold zc8; rw [List.length_map,List.length_range]
 have hme : ∀ z,Cg p (zi p z (zc8 f left (k + e) (e + 1))) (zi p z left * zi p z f):=fun z => zj0 (by rw [hf.1]; exact Nat.le_refl _) (by rw [hl.1]; exact Nat.le_refl _)
 have hD:=zbL hp (k + e) (List.zipWith (· - ·) right (zc8 f left (k + e) (e + 1))) ((pts.filter (hit p f)).map (·.1)) (by rw [List.length_zipWith,hC,hr.1,Nat.min_self]) (by rw [List.length_map]; unfold hits at hs hh; omega)
  ((List.filter_sublist.map _).nodup hP.nd) (fun x hx => by
   obtain ⟨a,ha,rfl⟩:=List.mem_map.mp hx
   have:=hP.rg a (List.mem_filter.mp ha).1
   exact ⟨this.1,this.2.1⟩) fun x hx => by
   obtain ⟨a,ha,rfl⟩:=List.mem_map.mp hx
   obtain ⟨h1,h2⟩:=List.mem_filter.mp ha
   have h3:=hev a h1
   have h4 : zi p a.1 f = a.2:=of_decide_eq_true h2
   rw [← h4] at h3
   refine (zcQ (by rw [hr.1,hC])).trans ?_
   rw [h3]
   exact ((Cg.emod _ _).sub (hme _)).trans (Cg.of_eq (by omega))
 have hz:=zea (z:=z) hD
 have h4:=(zcQ (p:=p) (x:=z) (a:=right) (b:=zc8 f left (k + e) (e + 1)) (by rw [hr.1,hC])).symm.trans hz
 refine Cg.eq ?_ (z9 (by omega) _) (zaa (by omega) _) (Int.emod_nonneg _ (by omega)) (Int.emod_lt_of_pos _ (by omega))
 have h5:=h4.add (hme z)
 exact (Cg.of_eq (by omega)).trans (h5.trans ((Cg.of_eq (by omega)).trans (Cg.emod _ _).symm))
def zcW (p : Int) (left : List Int) (pts : List (Int × Int)) : List (Int × Int):=pts.filter fun a => decide (zi p a.1 left ≠ 0)
theorem zj9 (hp : p ∈ zm) (hP : Pts p pts) (hf : IsP p k f) (hk : 1 ≤ k) (hh : pts.length + k ≤ 2 * hits p f pts) {e : Nat} {left right : List Int} (L : LocOk p k [pts] e left [right]) (hr : IsP p (k + e) right) (hev : ∀ a ∈ pts,zi p a.1 right = zi p a.1 left * a.2 % p) : ∀ a ∈ zcW p left pts,zi p a.1 f = a.2:=fun a ha => by
 have rp:=zo hp
 obtain ⟨h1,h2⟩:=List.mem_filter.mp ha
 have h2 : zi p a.1 left ≠ 0:=by simpa using h2
 have h3:=hev a h1
 rw [zei hp hP hf hk hh L hr hev] at h3
 have h4 : Cg p (zi p a.1 left * zi p a.1 f) (zi p a.1 left * a.2):=Cg.of_mod h3
 have h5 : Cg p (zi p a.1 left * (zi p a.1 f - a.2)) 0:=by
  have:=h4.sub (Cg.refl p (zi p a.1 left * a.2))
  exact (Cg.of_eq (by rw [Int.mul_sub])).trans (this.trans (Cg.of_eq (by omega)))
 have v0:=z9 (x:=a.1) (show 0 < p by omega) left
 have v1:=zaa (x:=a.1) (show 0 < p by omega) left
 have h6:=zc4 hp (a:=zi p a.1 left) (by rw [Int.emod_eq_of_lt v0 v1]; exact h2) h5
 have h7 : Cg p (zi p a.1 f) a.2:=by
  have:=h6.add (Cg.refl p a.2)
  exact (Cg.of_eq (by omega)).trans (this.trans (Cg.of_eq (by omega)))
 obtain ⟨_,_,y0,y1⟩:=hP.rg a h1
 exact h7.eq (z9 (by omega) _) (zaa (by omega) _) y0 y1
theorem ziK (hp : p ∈ zm) (hP : Pts p pts) {e : Nat} {left : List Int} (hl : IsP p (e + 1) left) (hnz : ∃ i,gl left i ≠ 0) : pts.length ≤ (zcW p left pts).length + e:=by
 have rp:=zo hp
 have hs : (zcW p left pts).length + (pts.filter fun a => decide (zi p a.1 left = 0)).length = pts.length:=by
  unfold zcW
  clear hP
  induction pts with
  | nil => rfl
  | cons a l ih =>
   by_cases h : zi p a.1 left = 0
   ·rw [List.filter_cons_of_neg (by simp [h]),List.filter_cons_of_pos (by simp [h]),List.length_cons,List.length_cons]
    omega
   ·rw [List.filter_cons_of_pos (by simp [h]),List.filter_cons_of_neg (by simp [h]),List.length_cons,List.length_cons]
    omega
 refine Nat.le_of_not_lt fun hlt => ?_
 have h:=zbL hp (e + 1) left ((pts.filter fun a => decide (zi p a.1 left = 0)).map (·.1)) hl.1 (by rw [List.length_map]; omega) ((List.filter_sublist.map _).nodup hP.nd) (fun x hx => by
  obtain ⟨a,ha,rfl⟩:=List.mem_map.mp hx
  have:=hP.rg a (List.mem_filter.mp ha).1
  exact ⟨this.1,this.2.1⟩) fun x hx => by
  obtain ⟨a,ha,rfl⟩:=List.mem_map.mp hx
  exact Cg.of_eq (by simpa using (List.mem_filter.mp ha).2)
 obtain ⟨i,hi⟩:=hnz
 refine hi ?_
 by_cases hil : i < left.length
 ·have hm:=List.mem_of_getElem? (zaV hil)
  obtain ⟨c0,c1⟩:=hl.2 _ hm
  exact (h _ hm).eq c0 c1 (Int.le_refl _) (by omega)
 ·exact zaK (by omega)
theorem zla (hp : p ∈ zm) (hP : Pts p pts) (hf : IsP p k f) (hk : 1 ≤ k) (hh : pts.length + k ≤ 2 * hits p f pts) {e : Nat} {left right : List Int} (L : LocOk p k [pts] e left [right]) (hr : IsP p (k + e) right) (hev : ∀ a ∈ pts,zi p a.1 right = zi p a.1 left * a.2 % p) :
  k ≤ (zcW p left pts).length ∧ f = thr p ((zcW p left pts).take k):=by
 have he:=zfA hp hP hf hk hh L
 have hs:=zbA p f pts
 have hm:=ziK hp hP L.lf L.nz
 have hk' : k ≤ (zcW p left pts).length:=by omega
 refine ⟨hk',zfn hp (hP.sub ((List.take_sublist _ _).trans List.filter_sublist)) (by rw [List.length_take,hf.1]; exact (Nat.min_eq_left hk').symm) hf.2 fun a ha => ?_⟩
 exact zj9 hp hP hf hk hh L hr hev a (List.mem_of_mem_take ha)
end
end My
end
section
set_option maxHeartbeats 3999000
namespace My
open PySem L2 PyProof.Rows
section
variable {P : Program} {w : World} {K : PySem.W.Frag} {mg : Str → Option Value} {base : Heap} {t : Adr}
def zmZ (p : Int) (k : Nat) (pts : List (Int × Int)) (H' : Hp) (v : V) : Prop:=(∃ (z : Addr) (q : List Int),v = .ref z ∧ H' z = some (.tup (q.map V.int)) ∧ IsP p k q ∧ pts.length + k ≤ 2 * hits p q pts ∧ ∀ f,IsP p k f → pts.length + k ≤ 2 * hits p f pts → f = q) ∨ (v = .non ∧ ∀ f,IsP p k f → ¬ pts.length + k ≤ 2 * hits p f pts)
def zlb (K : PySem.W.Frag) : Sp:=fun vs H Q _ => ∃ (c tt r : Addr) (p : Int) (k : Nat) (pl : List Int) (rw : List (Option Int)),vs = [.ref c,.ref r] ∧ zaU H c tt p k pl ∧ H r = some (.lst (rw.map enc)) ∧ rw.length = pl.length ∧ pl.length ≤ 16 ∧ p ∈ zm ∧ pl.Nodup ∧ (∀ x ∈ pl,0 ≤ x ∧ x < p) ∧ (∀ z,some z ∈ rw → 0 ≤ z ∧ z < p) ∧ 1 ≤ k ∧ k ≤ 100 ∧ ∀ v H',zy H H' → zmZ p k (hps pl rw) H' v → Q v H'
theorem za0 : FnScope ["code","row","p","k","places","points","e","left","right","right_points","polynomial"] ["code","row"] (zj zef):=⟨rfl,rfl,rfl,by decide +kernel,rfl,by decide +kernel,by decide +kernel⟩
theorem zlc {fd : FuncData} (T : Txt K mg t) (F : Fun K "half" "half" zef t.half fd) : FnOk P w K mg base CX0 7 t.half fd ["code","row"] (zlb K):=by
 obtain ⟨fd_heard_points,F_heard_points,b_heard_points⟩:=T.f_heard_points
 have G_heard_points:=za9 (P:=P) (w:=w) (base:=base) T F_heard_points
 obtain ⟨fd_locator_of,F_locator_of,b_locator_of⟩:=T.f_locator_of
 have G_locator_of:=zcs (P:=P) (w:=w) (base:=base) T F_locator_of
 obtain ⟨fd_value_at,F_value_at,b_value_at⟩:=T.f_value_at
 have G_value_at:=zbn (P:=P) (w:=w) (base:=base) T F_value_at
 obtain ⟨fd_through,F_through,b_through⟩:=T.f_through
 have G_through:=zcA (P:=P) (w:=w) (base:=base) T F_through
 obtain ⟨fd_fits,F_fits,b_fits⟩:=T.f_fits
 have G_fits:=zhR (P:=P) (w:=w) (base:=base) T F_fits
 refine F.ok za0 (fun vs H Q E h => ?_) (fun cdv A outer s H vs Q E hr h => ?_)
 ·obtain ⟨c,tt,r,p,k,pl,rw,rfl,_⟩:=h
  rfl
 ·obtain ⟨c,tt,r,p,k,pl,rw,rfl,hc,hra,hrl,hn,hp,hnd,hpl,hrw,k0,k1,q⟩:=h
  have q1 : ∀ (z : Addr) (qq : List Int) (H' : Hp),zy H H' → H' z = some (.tup (qq.map V.int)) → IsP p k qq → (hps pl rw).length + k ≤ 2 * hits p qq (hps pl rw) → (∀ f,IsP p k f → (hps pl rw).length + k ≤ 2 * hits p f (hps pl rw) → f = qq) → Q (.ref z) H':=fun z qq H' s a b c d => q (.ref z) H' s (.inl ⟨z,qq,rfl,a,b,c,d⟩)
  have q2 : ∀ H',zy H H' → (∀ f,IsP p k f → ¬ (hps pl rw).length + k ≤ 2 * hits p f (hps pl rw)) → Q .non H':=fun H' s a => q .non H' s (.inr ⟨rfl,a⟩)
  refine ⟨_,(@zd _ _ _ _ _ (@zax _ _ _ _ _ _ (@pvx _ 0 _ _ rfl) (@zaw _ _ _ _ _ _ rfl (@zl _ _ _ _ _ (@zh _ _ (2) _ za0.nd rfl (Or.inr rfl) (by trivial)) (@zl _ _ _ _ _ (@zh _ _ (3) _ za0.nd rfl (Or.inl rfl) (by trivial)) (@zl _ _ _ _ _ (@zh _ _ (4) _ za0.nd rfl (Or.inl rfl) (by trivial)) (@zO _) (by rfl)) (by rfl)) (by rfl)) (by rfl) (by rfl)) (by rfl) (by rfl) (by rfl)) (by exact (@zd _ _ _ _ _ (@zp _ _ (5) _ _ _ _ za0.nd rfl (Or.inl rfl) (@zt _ _ _ _ _ _ _ _ _ _ _ _ _ _ _ _ G_heard_points (hr.mono (by decide)) rfl T.m_heard_points F_heard_points.kp b_heard_points .nil (@zK _) (@za _ _ _ _ _ (@pvx _ 0 _ _ rfl) (@za _ _ _ _ _ (@pvx _ 1 _ _ rfl) (@ze _) (by rfl)) (by rfl)) (by decide) (by rfl) (by rfl)) (by rfl) (by trivial)) (by exact (@zd _ _ _ _ _ (@zax _ _ _ _ _ _ (@zt _ _ _ _ _ _ _ _ _ _ _ _ _ _ _ _ G_locator_of (hr.mono (by decide)) rfl T.m_locator_of F_locator_of.kp b_locator_of .nil (@zK _) (@za _ _ _ _ _ (@pvx _ 0 _ _ rfl) (@za _ _ _ _ _ (@pvx _ 1 _ _ rfl) (@ze _) (by rfl)) (by rfl)) (by decide) (by rfl) (by rfl)) (@zaw _ _ _ _ _ _ rfl (@zl _ _ _ _ _ (@zh _ _ (6) _ za0.nd rfl (Or.inl rfl) (by trivial)) (@zl _ _ _ _ _ (@zh _ _ (7) _ za0.nd rfl (Or.inr rfl) (by trivial)) (@zl _ _ _ _ _ (@zh _ _ (8) _ za0.nd rfl (Or.inl rfl) (by trivial)) (@zO _) (by rfl)) (by rfl)) (by rfl)) (by rfl) (by rfl)) (by rfl) (by rfl) (by rfl)) (by exact (@zd _ _ _ _ _ (@zaJ _ _ _ _ _ _ _ _ _ _ _ _ _ (9) _ _ _ za0.nd rfl (Or.inl rfl) (CompSc.of (N':=["x","y","p","left"]) (ix:=[none,none,some 2,some 7]) (zj zef) ["code","row","p","k","places","points","e","left","right","right_points","polynomial"] rfl rfl (by decide +kernel)) rfl (@zbI _ _ _ _ (@zZ _ _ _ rfl (@zZ _ _ _ rfl (@zbd _)))) (@zai _ _ _ _ (@pvx _ 5 _ _ rfl)) (fun _ _ _ _ => (@zaY _ (K) _ _ _ (2) _ rfl rfl (@zl _ _ _ _ _ (@zh _ _ (0) _ (show (["x","y","p","left"] : List Str).Nodup by decide +kernel) rfl (Or.inl rfl) (by trivial)) (@zl _ _ _ _ _ (@zh _ _ (1) _ (show (["x","y","p","left"] : List Str).Nodup by decide +kernel) rfl (Or.inl rfl) (by trivial)) (@zO _) (by rfl)) (by rfl)) (by rfl) (by rfl))) (fun _ _ _ _ => (@za3 _ _ _ (@zE _ _ _ _ _ _ _ _ (@zlg _) (@zt _ _ _ _ _ _ _ _ _ _ _ _ _ _ _ _ G_value_at (hr.mono (by decide)) rfl T.m_value_at F_value_at.kp b_value_at .nil (@zK _) (@za _ _ _ _ _ (@pvx _ 2 _ _ rfl) (@za _ _ _ _ _ (@pvx _ 3 _ _ rfl) (@za _ _ _ _ _ (@pvx _ 0 _ _ rfl) (@ze _) (by rfl)) (by rfl)) (by rfl)) (by decide) (by rfl) (by rfl)) (@zf _ _ _ _) (zM _)))) (fun _ _ _ _ => (@zaH _ _ _ _ _ (@za _ _ _ _ _ (@pvx _ 0 _ _ rfl) (@za _ _ _ _ _ (@pvx _ 1 _ _ rfl) (@ze _) (by rfl)) (by rfl)))) (by rfl) (by intro _; rfl) (by trivial)) (by exact (@zd _ _ _ _ _ (@zaT _ _ _ _ _ _ _ _ (@zE _ _ _ _ _ _ _ _ (@zfJ _) (@zu _ _ _ _ _ _ _ _ _ (@zq _) (by rfl) T.len_ boot_len (@za _ _ _ _ _ (@pvx _ 9 _ _ rfl) (@ze _) (by rfl)) (by decide) (by decide) (by rfl) (by rfl)) (@pvx _ 3 _ _ rfl) (zM _)) (@zn _ _ _ (@zI _ _ _ _ (@za7 _ _ _))) (@zah _)) (by exact (@zd _ _ _ _ _ (@zp _ _ (10) _ _ _ _ za0.nd rfl (Or.inl rfl) (@zt _ _ _ _ _ _ _ _ _ _ _ _ _ _ _ _ G_through (hr.mono (by decide)) rfl T.m_through F_through.kp b_through .nil (@zK _) (@za _ _ _ _ _ (@pvx _ 2 _ _ rfl) (@za _ _ _ _ _ (@za1 _ _ _ _ _ _ _ _ _ _ zb8 (@pvx _ 9 _ _ rfl) (@zbD _) (@zbb _ _ _ (@pvx _ 3 _ _ rfl))) (@ze _) (by rfl)) (by rfl)) (by decide) (by rfl) (by rfl)) (by rfl) (by trivial)) (by exact (@zd _ _ _ _ _ (@zaT _ _ _ _ _ _ _ _ (@zE _ _ _ _ _ _ _ _ (@zfJ _) (@zg _ _ _ _ _ _ _ _ (@zS _) (@zf _ _ _ _) (@zu _ _ _ _ _ _ _ _ _ (@zq _) (by rfl) T.len_ boot_len (@za _ _ _ _ _ (@zt _ _ _ _ _ _ _ _ _ _ _ _ _ _ _ _ G_fits (hr.mono (by decide)) rfl T.m_fits F_fits.kp b_fits .nil (@zK _) (@za _ _ _ _ _ (@pvx _ 0 _ _ rfl) (@za _ _ _ _ _ (@pvx _ 1 _ _ rfl) (@za _ _ _ _ _ (@pvx _ 10 _ _ rfl) (@ze _) (by rfl)) (by rfl)) (by rfl)) (by decide) (by rfl) (by rfl)) (@ze _) (by rfl)) (by decide) (by decide) (by rfl) (by rfl))) (@zg _ _ _ _ _ _ _ _ (@zD _) (@zu _ _ _ _ _ _ _ _ _ (@zq _) (by rfl) T.len_ boot_len (@za _ _ _ _ _ (@pvx _ 5 _ _ rfl) (@ze _) (by rfl)) (by decide) (by decide) (by rfl) (by rfl)) (@pvx _ 3 _ _ rfl)) (zM _)) (@zn _ _ _ (@zI _ _ _ _ (@za7 _ _ _))) (@zah _)) (by exact (@zn _ _ _ (@zI _ _ _ _ (@pvx _ 10 _ _ rfl))))))))))))))))),?_⟩
  have hsl:=sizeLine_eq
  have rp:=zo hp
  have p0 : 0 < p:=by omega
  have hP:=zdB hnd hpl hrw
  have hhl:=zbM pl rw
  have hR : RowAt K H r pl.length rw:=⟨SqL.of hra,hrl⟩
  refine ⟨_,rfl,c,_,rfl,SqT.of hc.1,rfl,_,_,rfl,_,_,rfl,_,_,rfl,rfl,?_⟩
  refine ⟨_,rfl,_,rfl,c,tt,r,p,k,pl,rw,rfl,hc,hR,by omega,fun l bs H1 hl1 s1 h1l hB => ?_⟩
  have hbl : bs.length = (hps pl rw).length:=hB.length
  have hc1:=hc.same s1
  refine ⟨_,rfl,_,rfl,c,tt,r,p,k,pl,rw,rfl,hc1,s1 _ _ hra,hrl,hn,hp,hnd,hpl,hrw,k0,k1,fun z la rb e left right H2 s2 h2z h2l h2r he16 L => ?_⟩
  obtain ⟨hright,hrev⟩:=L.ok (hps pl rw) (by simp)
  have hrt : right = szd (thr p (tmP p left (hps pl rw))) (k + e):=by
   have:=L.rt
   simpa using this
  rw [← hrt] at hright hrev
  have his:=fun (f : List Int) (hf : IsP p k f) (hh : (hps pl rw).length + k ≤ 2 * hits p f (hps pl rw)) => zla hp hP hf k0 hh L hright hrev
  refine ⟨z,_,rfl,SqT.of h2z,rfl,_,_,rfl,_,_,rfl,_,_,rfl,rfl,?_⟩
  have h2p:=s2 _ _ h1l
  have hB2:=hB.same s2
  refine ⟨_,rfl,l,rfl,⟨_,SqL.of h2p⟩,z8 (n:=bs.length) (fun i ys H' => zy H2 H' ∧ ∃ us : List Addr,ys = us.map V.ref ∧ us.length ≤ i ∧ PtB H' us (zcW p left ((hps pl rw).take i))) ⟨fun _ _ e => e,[],rfl,Nat.le_refl _,.nil⟩ ?_ ?_ ?_ ?_⟩
  ·rintro i ys H3 hi ⟨s3,_⟩
   exact ⟨_,.ref bs[i],SqL.of (s3 _ _ h2p),by rw [List.getElem?_map,List.getElem?_eq_getElem hi]; rfl⟩
  ·rintro ys H3 ⟨s3,_⟩
   exact ⟨_,SqL.of (s3 _ _ h2p),by rw [List.length_map]; exact Nat.le_refl _⟩
  ·rintro i y ys H3 H4 hi ⟨s3,us,rfl,hul,hus⟩ ⟨rfl,hy⟩
   obtain ⟨b,rfl,hb⟩:=zan (hy _ (SqL.of (s3 _ _ h2p)))
   obtain ⟨pt,hpt,hat⟩:=Paired.get hB2 hb
   obtain ⟨x0,x1,_⟩:=hP.rg pt (List.mem_of_getElem? hpt)
   have hsn : zcW p left ((hps pl rw).take (i + 1)) = zcW p left ((hps pl rw).take i) ++ [pt].filter fun a => decide (zi p a.1 left ≠ 0):=by
    unfold zcW
    rw [take_snoc hpt,List.filter_append]
   refine ⟨b,_,rfl,SqT.of (s3 _ _ hat),rfl,_,_,rfl,_,_,rfl,rfl,?_⟩
   refine ⟨_,rfl,_,rfl,_,rfl,p,pt.1,la,left,rfl,.inr (SqT.of (s3 _ _ h2l)),p0,by omega,x0,x1,rfl,_,rfl,?_⟩
   by_cases h0 : zi p pt.1 left = 0
   ·refine zay (fun h => absurd h (by rw [h0]; simp)) (fun _ => ?_)
    refine ⟨s3,us,rfl,by omega,?_⟩
    rw [hsn,List.filter_cons_of_neg (by simp [h0]),List.filter_nil,List.append_nil]
    exact hus
   ·refine zay (fun _ => ?_) (fun h => absurd (by simpa using h0) h)
    refine ⟨_,rfl,_,rfl,by show 2 ≤ sizeLine; omega,fun w hw => ?_⟩
    refine ⟨by rw [List.length_map]; omega,s3.trans (zb hw),us ++ [w],by rw [List.map_append]; rfl,by rw [List.length_append]; exact Nat.succ_le_succ hul,?_⟩
    rw [hsn,List.filter_cons_of_pos (by simp [h0]),List.filter_nil]
    exact Paired.snoc (hus.same (zb hw)) zc
  ·rintro ys H3 rpA ⟨s3,us,rfl,hul,hus⟩ hrpA
   rw [hbl,List.take_length] at hus
   have t4:=zb (o:=.lst (us.map V.ref)) hrpA
   have h4r : upd H3 rpA (.lst (us.map V.ref)) rpA = some (.lst (us.map V.ref)):=zc
   have hus4:=hus.same t4
   have s4:=(s1.trans s2).trans (s3.trans t4)
   have s24:=s3.trans t4
   generalize upd H3 rpA (.lst (us.map V.ref)) = H4 at t4 h4r hus4 s4 s24 ⊢
   have hrpl:=hus4.length
   refine ⟨_,rfl,rpA,_,rfl,.inl (SqL.of h4r),_,rfl,_,_,rfl,rfl,_,rfl,?_⟩
   rw [List.length_map]
   refine zay (fun hlt => ?_) (fun hge => ?_)
   ·have hlt:=of_decide_eq_true hlt
    refine q2 H4 s4 fun f hf hh => ?_
    have:=(his f hf hh).1
    omega
   ·have hge : ¬ (us.length : Int) < (k : Int):=fun h => hge (decide_eq_true h)
    refine ⟨_,rfl,_,rfl,_,rfl,_,rfl,rpA,_,rfl,SqL.of h4r,fun w hw => ?_⟩
    rw [zgV,← List.map_take]
    have t5:=zb (o:=.lst ((us.take k).map V.ref)) hw
    have h5w : upd H4 w (.lst ((us.take k).map V.ref)) w = some (.lst ((us.take k).map V.ref)):=zc
    have hus5:=(hus4.same t5).take k
    generalize upd H4 w (.lst ((us.take k).map V.ref)) = H5 at t5 h5w hus5 ⊢
    have hPk : Pts p ((zcW p left (hps pl rw)).take k):=hP.sub ((List.take_sublist _ _).trans List.filter_sublist)
    refine ⟨p,w,_,rfl,hus5.pts h5w,by rw [List.length_take]; omega,hp,(by rw [zhS hPk]; exact hPk),(fun q hq => by have:=hPk.rg q hq; omega),fun pz H6 hpz s6 h6 => ?_⟩
    rw [zhS hPk] at h6
    obtain ⟨g1,g2,g3⟩:=zcZ hp hPk
    have hqP : IsP p k (thr p ((zcW p left (hps pl rw)).take k)):=⟨by rw [g1,List.length_take]; omega,g2⟩
    generalize hqq : thr p ((zcW p left (hps pl rw)).take k) = qq at h6 hqP
    have s46:=t5.trans s6
    have s06:=s4.trans s46
    refine ⟨_,rfl,_,rfl,_,rfl,c,tt,r,pz,p,k,pl,qq,rw,rfl,hc.same s06,s06 _ _ hra,hrl,h6,by omega,by omega,hpl,by omega,fun fl H7 hfl s7 h7 => ?_⟩
    refine ⟨fl,_,rfl,.inl (SqL.of h7),_,_,rfl,rfl,.inl ⟨by decide,by decide⟩,_,rfl,l,_,rfl,.inl (SqL.of ((s24.trans (s46.trans s7)) _ _ h2p)),_,rfl,_,_,rfl,rfl,_,_,rfl,rfl,_,rfl,?_⟩
    have ef : ((zcm p pl rw qq pl.length).map V.int).length = hits p qq (hps pl rw):=by rw [List.length_map]; exact zdC hrl
    rw [ef,List.length_map,hbl]
    refine zay (fun hlt => ?_) (fun hge2 => ?_)
    ·have hlt:=of_decide_eq_true hlt
     refine q2 H7 (s06.trans s7) fun f hf hh => ?_
     have e1:=(his f hf hh).2
     rw [hqq] at e1
     rw [e1] at hh
     omega
    ·have hge2 : ¬ 2 * (hits p qq (hps pl rw) : Int) < ((hps pl rw).length : Int) + (k : Int):=fun h => hge2 (decide_eq_true h)
     refine ⟨_,rfl,q1 pz qq H7 (s06.trans s7) (s7 _ _ h6) hqP (by omega) fun f hf hh => ?_⟩
     rw [← hqq]
     exact (his f hf hh).2
theorem zka {p x : Int} {C : List Int} {t : Nat} (ht : t < C.length) (v : Int) : Cg p (zi p x (C.set t v)) (zi p x C + (v - gl C t) * x ^ t):=by
 refine (zaE (n:=C.length) (by rw [List.length_set]; exact Nat.le_refl _)).trans (Cg.trans ?_ ((zcR C).add (Cg.refl p _)).symm)
 have e : (fun i => gl (C.set t v) i * x ^ i) = fun i => gl C i * x ^ i + (if i = t then (v - gl C t) * x ^ t else 0):=by
  funext i
  by_cases h : i = t
  ·subst h
   rw [if_pos rfl,zbw (List.getElem?_set_self ht)]
   grind
  ·rw [if_neg h,Int.add_zero]
   congr 1
   unfold gl
   rw [List.getD_eq_getElem?_getD,List.getD_eq_getElem?_getD,List.getElem?_set_ne (Ne.symm h)]
 rw [e,zfq,zfr (f:=fun i => if i = t then (v - gl C t) * x ^ t else 0) (j:=t) ht fun i _ hne => if_neg hne,if_pos rfl]
 exact Cg.refl _ _
def PV (q : List Int) (j : Nat) (x : Int) : Int:=sm j fun i => gl q i * x ^ i
def zgZ (K : PySem.W.Frag) : Sp:=fun vs H Q _ => ∃ (p : Int) (a b : Addr) (as bs : List Int),vs = [.int p,.ref a,.ref b] ∧ SqT K H a (as.map V.int) ∧ SqT K H b (bs.map V.int) ∧ 0 < as.length ∧ 0 < bs.length ∧ as.length ≤ 100 ∧ bs.length ≤ 100 ∧ 0 < p ∧ p ≤ 97 ∧ (∀ c ∈ as,0 ≤ c ∧ c < p) ∧ (∀ c ∈ bs,0 ≤ c ∧ c < p) ∧
 ∀ (z : Addr) (C : List Int) (H' : Hp),zy H H' → H' z = some (.tup (C.map V.int)) → IsP p (as.length + bs.length - 1) C → (∀ x,Cg p (zi p x C) (zi p x as * zi p x bs)) → Q (.ref z) H'
theorem zbQ : FnScope ["p","one","other","found","j","i"] ["p","one","other"] (zj zck):=⟨rfl,rfl,rfl,by decide +kernel,rfl,by decide +kernel,by decide +kernel⟩
theorem zg0 {fd : FuncData} (T : Txt K mg t) (F : Fun K "_law_times" "_law_times" zck t.l_times fd) : FnOk P w K mg base CX0 1 t.l_times fd ["p","one","other"] (zgZ K):=by
 refine F.ok zbQ (fun vs H Q E h => ?_) (fun cdv A outer s H vs Q E hr h => ?_)
 ·obtain ⟨p,a,b,as,bs,rfl,_⟩:=h
  rfl
 ·obtain ⟨p,a,b,as,bs,rfl,ha,hb,a1,b1,a2,b2,p0,p97,har,hbr,q⟩:=h
  refine ⟨_,(@zd _ _ _ _ _ (@zp _ _ (3) _ _ _ _ zbQ.nd rfl (Or.inl rfl) (@zg _ _ _ _ _ _ _ _ (@ze5 _) (@z0 _ _ _ _ (@za _ _ _ _ _ (@zf _ _ _ _) (@ze _) (by rfl))) (@zg _ _ _ _ _ _ _ _ (@za8 _) (@zg _ _ _ _ _ _ _ _ (@zD _) (@zu _ _ _ _ _ _ _ _ _ (@zq _) (by rfl) T.len_ boot_len (@za _ _ _ _ _ (@pvx _ 1 _ _ rfl) (@ze _) (by rfl)) (by decide) (by decide) (by rfl) (by rfl)) (@zu _ _ _ _ _ _ _ _ _ (@zq _) (by rfl) T.len_ boot_len (@za _ _ _ _ _ (@pvx _ 2 _ _ rfl) (@ze _) (by rfl)) (by decide) (by decide) (by rfl) (by rfl))) (@zf _ _ _ _))) (by rfl) (by trivial)) (by exact (@zd _ _ _ _ _ (@zaP _ _ _ _ _ _ _ _ PassesOwn.never rfl (@zaf _ _ _ _ _ _ rfl T.range_ (@za _ _ _ _ _ (@zu _ _ _ _ _ _ _ _ _ (@zq _) (by rfl) T.len_ boot_len (@za _ _ _ _ _ (@pvx _ 1 _ _ rfl) (@ze _) (by rfl)) (by decide) (by decide) (by rfl) (by rfl)) (@ze _) (by rfl)) (by rfl)) (@zh _ _ (4) _ zbQ.nd rfl (Or.inl rfl) (by trivial)) (@zn _ _ _ (@zaP _ _ _ _ _ _ _ _ PassesOwn.never rfl (@zaf _ _ _ _ _ _ rfl T.range_ (@za _ _ _ _ _ (@zu _ _ _ _ _ _ _ _ _ (@zq _) (by rfl) T.len_ boot_len (@za _ _ _ _ _ (@pvx _ 2 _ _ rfl) (@ze _) (by rfl)) (by decide) (by decide) (by rfl) (by rfl)) (@ze _) (by rfl)) (by rfl)) (@zh _ _ (5) _ zbQ.nd rfl (Or.inl rfl) (by trivial)) (@zn _ _ _ (@zax _ _ _ _ _ _ (@zg _ _ _ _ _ _ _ _ (@zA _) (@zg _ _ _ _ _ _ _ _ (@zD _) (@zH _ _ _ _ _ _ _ (@zw _) (@pvx _ 3 _ _ rfl) (@zg _ _ _ _ _ _ _ _ (@zD _) (@pvx _ 4 _ _ rfl) (@pvx _ 5 _ _ rfl)) (fun _ _ => rfl)) (@zg _ _ _ _ _ _ _ _ (@zS _) (@zH _ _ _ _ _ _ _ (@zbE _) (@pvx _ 1 _ _ rfl) (@pvx _ 4 _ _ rfl) (fun _ _ => rfl)) (@zH _ _ _ _ _ _ _ (@zbE _) (@pvx _ 2 _ _ rfl) (@pvx _ 5 _ _ rfl) (fun _ _ => rfl)))) (@pvx _ 0 _ _ rfl)) (@ze1 _ _ _ _ _ _ _ (@pvx _ 3 _ _ rfl) (@zg _ _ _ _ _ _ _ _ (@zD _) (@pvx _ 4 _ _ rfl) (@pvx _ 5 _ _ rfl)) set_list (by intro _; rfl)) (by rfl) (by rfl) (by rfl))) (by intro _; rfl))) (by intro _; rfl)) (by exact (@zn _ _ _ (@zI _ _ _ _ (@zat _ _ _ _ _ _ _ _ _ (@zaD _) (by rfl) T.tuple_ boot_tuple (@za _ _ _ _ _ (@pvx _ 3 _ _ rfl) (@ze _) (by rfl)) (by decide) (by decide) (by rfl) (by rfl)))))))),?_⟩
  have hsl:=sizeLine_eq
  refine ⟨by show 1 ≤ sizeLine; omega,fun z hz => ⟨_,rfl,a,_,rfl,.inr (zfv (zb hz) ha),_,rfl,b,_,rfl,.inr (zfv (zb hz) hb),_,_,rfl,rfl,_,_,rfl,rfl,z,_,[.int 0],rfl,rfl,zc,by rw [List.length_map,List.length_map]; omega,by rw [List.length_map,List.length_map]; omega,by rw [List.length_map,List.length_map]; show 1 * _ ≤ sizeLine; omega,fun f hf => ?_⟩⟩
  rw [List.length_map,List.length_map,zb4,show ((as.length : Int) + (bs.length : Int) - 1).toNat = as.length + bs.length - 1 by omega]
  have s1:=(zb (o:=.lst [.int 0]) hz).trans (zb (o:=.lst ((List.replicate (as.length + bs.length - 1) (0 : Int)).map V.int)) hf)
  have hfH : H f = none:=(zb (o:=.lst [.int 0]) hz).free hf
  have h1f : upd (upd H z (.lst [.int 0])) f (.lst ((List.replicate (as.length + bs.length - 1) (0 : Int)).map V.int)) f = some (.lst ((List.replicate (as.length + bs.length - 1) (0 : Int)).map V.int)):=zc
  generalize upd (upd H z (.lst [.int 0])) f (.lst ((List.replicate (as.length + bs.length - 1) (0 : Int)).map V.int)) = H1 at s1 h1f ⊢
  refine ⟨_,rfl,a,_,rfl,.inr (zfv s1 ha),_,rfl,by rw [List.length_map]; omega,by rw [List.length_map]; omega,?_⟩
  rw [List.length_map,Int.toNat_natCast]
  refine zaO (lo:=0) (n:=as.length) (fun j σ H' => ∃ (C : List Int) (e4 e5 : Option V),σ = [some (.int p),some (.ref a),some (.ref b),some (.ref f),e4,e5] ∧ zy H H' ∧ H' f = some (.lst (C.map V.int)) ∧ IsP p (as.length + bs.length - 1) C ∧ ∀ x,Cg p (zi p x C) (PV as j x * PV bs bs.length x)) ⟨_,none,none,rfl,s1,h1f,⟨by rw [List.length_replicate],fun c hc => by rw [List.eq_of_mem_replicate hc]; omega⟩,fun x => by rw [zdP]; exact Cg.of_eq (by show (0 : Int) = 0 * _; omega)⟩ ?_ ?_
  ·rintro j σ H2 hj ⟨C,e4,e5,rfl,s2,h2f,hC,hev⟩
   refine ⟨_,rfl,b,_,rfl,.inr (zfv s2 hb),_,rfl,by rw [List.length_map]; omega,by rw [List.length_map]; omega,?_⟩
   rw [List.length_map,Int.toNat_natCast]
   refine zaO (lo:=0) (n:=bs.length) (fun i σ H' => ∃ (C : List Int) (e5 : Option V),σ = [some (.int p),some (.ref a),some (.ref b),some (.ref f),some (.int (0 + (j : Int))),e5] ∧ zy H H' ∧ H' f = some (.lst (C.map V.int)) ∧ IsP p (as.length + bs.length - 1) C ∧ ∀ x,Cg p (zi p x C) (PV as j x * PV bs bs.length x + gl as j * x ^ j * PV bs i x)) ⟨C,_,rfl,s2,h2f,hC,fun x => (hev x).trans (Cg.of_eq (by show _ = _ + _ * 0; omega))⟩ ?_ ?_
   ·rintro i σ H3 hi ⟨C3,f5,rfl,s3,h3f,hC3,hev3⟩
    have hji : (0 + (j : Int)) + (0 + (i : Int)) = ((j + i : Nat) : Int):=by omega
    have hlt : j + i < C3.length:=by rw [hC3.1]; omega
    obtain ⟨a0,a3⟩:=zcw p0 har j
    obtain ⟨b0,b3⟩:=zcw p0 hbr i
    refine ⟨_,rfl,_,rfl,_,rfl,_,_,rfl,rfl,f,_,_,.int (gl C3 (j + i)),rfl,rfl,SqL.of h3f,by rw [hji]; exact zam (by rw [List.getElem?_map,zaV hlt]; rfl),_,rfl,_,rfl,a,_,_,.int (gl as j),rfl,rfl,zfv s3 ha,by rw [Int.zero_add]; exact zam (by rw [List.getElem?_map,zaV hj]; rfl),_,rfl,_,rfl,b,_,_,.int (gl bs i),rfl,rfl,zfv s3 hb,by rw [Int.zero_add]; exact zam (by rw [List.getElem?_map,zaV hi]; rfl),_,_,rfl,rfl,.inl ⟨by omega,by omega⟩,_,_,rfl,rfl,_,rfl,_,_,rfl,rfl,p0,_,rfl,_,rfl,_,rfl,_,_,rfl,rfl,f,_,_,j + i,rfl,rfl,h3f,by rw [hji]; exact zdq (by rw [List.length_map]; exact hlt),?_⟩
    refine ⟨C3.set (j + i) ((gl C3 (j + i) + gl as j * gl bs i) % p),_,rfl,zW s3 hfH,by rw [zc,List.map_set],⟨by rw [List.length_set]; exact hC3.1,fun c hc => ?_⟩,fun x => ?_⟩
    ·rcases List.mem_or_eq_of_mem_set hc with h | rfl
     ·exact hC3.2 c h
     ·exact ⟨Int.emod_nonneg _ (by omega),Int.emod_lt_of_pos _ p0⟩
    ·refine (zka hlt _).trans ?_
     have h1 : Cg p ((gl C3 (j + i) + gl as j * gl bs i) % p - gl C3 (j + i)) (gl as j * gl bs i):=((Cg.emod p _).sub (Cg.refl p _)).trans (Cg.of_eq (by omega))
     refine ((hev3 x).add (h1.mul (Cg.refl p (x ^ (j + i))))).trans (Cg.of_eq ?_)
     show _ = PV as j x * PV bs bs.length x + gl as j * x ^ j * (PV bs i x + gl bs i * x ^ i)
     rw [Int.pow_add]
     grind
   ·rintro σ H3 ⟨C3,f5,rfl,s3,h3f,hC3,hev3⟩
    refine ⟨C3,_,_,rfl,s3,h3f,hC3,fun x => (hev3 x).trans (Cg.of_eq ?_)⟩
    show _ = (PV as j x + gl as j * x ^ j) * PV bs bs.length x
    grind
  ·rintro σ H2 ⟨C,e4,e5,rfl,s2,h2f,hC,hev⟩
   refine ⟨_,rfl,f,_,rfl,.inl ⟨SqL.of h2f,fun tz htz => ?_⟩⟩
   exact q tz C _ (s2.trans (zb htz)) zc hC fun x => (hev x).trans ((zcR as).symm.mul (zcR bs).symm)
end
end My
end
section
set_option maxHeartbeats 3999000
namespace My
open PySem L2 PyProof.Rows
section
variable {P : Program} {w : World} {K : PySem.W.Frag} {mg : Str → Option Value} {base : Heap} {t : Adr}
structure RowL (p : Int) (n : Nat) (rw : List (Option Int)) (ls : List Int) : Prop where
 ln : rw.length = n
 rg : ∀ z,some z ∈ rw → 0 ≤ z ∧ z < p
 nd : ls.Nodup
 lt : ∀ y ∈ ls,0 ≤ y ∧ y < (n : Int)
 hd : ∀ y ∈ ls,∃ v,rw[y.toNat]? = some (some v)
theorem zgr {p : Int} {n : Nat} {rw : List (Option Int)} {ls : List Int} (R : RowL p n rw ls) {i : Nat} {y : Int} (hy : ls[i]? = some y) (o : Option Int) (ho : ∀ z,o = some z → 0 ≤ z ∧ z < p) : RowL p n (rw.set y.toNat o) (ls.eraseIdx i):=by
 have hsub : (ls.eraseIdx i).Sublist ls:=List.eraseIdx_sublist ..
 have hym:=List.mem_of_getElem? hy
 refine ⟨by rw [List.length_set]; exact R.ln,fun z hz => ?_,hsub.nodup R.nd,fun z hz => R.lt z (hsub.subset hz),fun z hz => ?_⟩
 ·rcases List.mem_or_eq_of_mem_set hz with h | h
  ·exact R.rg z h
  ·exact ho z h.symm
 ·have hzm:=hsub.subset hz
  have hne : z ≠ y:=fun e => by
   have h1:=R.nd
   rw [zct hy] at h1
   have h2 : ls.eraseIdx i = ls.take i ++ ls.drop (i + 1):=List.eraseIdx_eq_take_drop_succ ..
   rw [h2,e] at hz
   rcases List.mem_append.mp hz with h | h
   ·exact (List.nodup_append.mp h1).2.2 y h y List.mem_cons_self rfl
   ·exact (List.nodup_cons.mp (List.nodup_append.mp h1).2.1).1 h
  obtain ⟨v,hv⟩:=R.hd z hzm
  have:=R.lt z hzm
  have:=R.lt y hym
  exact ⟨v,by rw [List.getElem?_set_ne (by omega)]; exact hv⟩
theorem zhT {rw : List (Option Int)} {i : Nat} {o : Option Int} : (rw.map enc).set i (enc o) = (rw.set i o).map enc:=by rw [List.map_set]
def zfB (K : PySem.W.Frag) : Sp:=fun vs H Q _ => ∃ (a c tt : Addr) (ns : List Int) (at' p : Int) (k : Nat) (pl : List Int),vs = [.ref a,.int at',.ref c] ∧ SqL K H a (ns.map V.int) ∧ ns.length ≤ 63 ∧ 0 ≤ at' ∧ at' ≤ 900 ∧ zaU H c tt p k pl ∧ p ∈ zm ∧ (∀ x ∈ pl,0 ≤ x ∧ x < p) ∧ pl.length ≤ 16 ∧ k ≤ pl.length ∧ 1 ≤ k ∧ k ≤ 5 ∧
 ∀ (z r o : Addr) (rw : List (Option Int)) (f : List Int) (H' : Hp),zy H H' → H' z = some (.tup [.ref r,.ref o]) → H' r = some (.lst (rw.map enc)) → H' o = some (.tup (f.map V.int)) → rw.length = pl.length → (∀ z,some z ∈ rw → 0 ≤ z ∧ z < p) → IsP p k f → Q (.ref z) H'
theorem zQ : FnScope ["script","at","code","p","k","places","plan","one","row","left","j","many","number"] ["script","at","code"] (zj za6):=⟨rfl,rfl,rfl,by decide +kernel,rfl,by decide +kernel,by decide +kernel⟩
theorem zfC {fd : FuncData} (T : Txt K mg t) (F : Fun K "_law_planted" "_law_planted" za6 t.l_planted fd) : FnOk P w K mg base CX0 3 t.l_planted fd ["script","at","code"] (zfB K):=by
 obtain ⟨fd_l_draws,F_l_draws,b_l_draws⟩:=T.f_l_draws
 have G_l_draws:=zcy (P:=P) (w:=w) (base:=base) T F_l_draws
 obtain ⟨fd_l_polynomial,F_l_polynomial,b_l_polynomial⟩:=T.f_l_polynomial
 have G_l_polynomial:=zbU (P:=P) (w:=w) (base:=base) T F_l_polynomial
 obtain ⟨fd_l_value,F_l_value,b_l_value⟩:=T.f_l_value
 have G_l_value:=zcz (P:=P) (w:=w) (base:=base) T F_l_value
 refine F.ok zQ (fun vs H Q E h => ?_) (fun cdv A outer s H vs Q E hr h => ?_)
 ·obtain ⟨a,c,tt,ns,at',p,k,pl,rfl,_⟩:=h
  rfl
 ·obtain ⟨a,c,tt,ns,at',p,k,pl,rfl,hS,hlen,a0,a1,hc,hp,hpl,hn,hkn,k0,k5,q⟩:=h
  refine ⟨_,(@zd _ _ _ _ _ (@zax _ _ _ _ _ _ (@pvx _ 2 _ _ rfl) (@zaw _ _ _ _ _ _ rfl (@zl _ _ _ _ _ (@zh _ _ (3) _ zQ.nd rfl (Or.inr rfl) (by trivial)) (@zl _ _ _ _ _ (@zh _ _ (4) _ zQ.nd rfl (Or.inl rfl) (by trivial)) (@zl _ _ _ _ _ (@zh _ _ (5) _ zQ.nd rfl (Or.inl rfl) (by trivial)) (@zO _) (by rfl)) (by rfl)) (by rfl)) (by rfl) (by rfl)) (by rfl) (by rfl) (by rfl)) (by exact (@zd _ _ _ _ _ (@zp _ _ (6) _ _ _ _ zQ.nd rfl (Or.inl rfl) (@zt _ _ _ _ _ _ _ _ _ _ _ _ _ _ _ _ G_l_draws (hr.mono (by decide)) rfl T.m_l_draws F_l_draws.kp b_l_draws .nil (@zK _) (@za _ _ _ _ _ (@pvx _ 0 _ _ rfl) (by exact (@za _ _ _ _ _ (@pvx _ 1 _ _ rfl) (@za _ _ _ _ _ (@zf _ _ _ _) (@za _ _ _ _ _ (@zf _ _ _ _) (@ze _) (by rfl)) (by rfl)) (by rfl))) (by rfl)) (by decide) (by rfl) (by rfl)) (by rfl) (by trivial)) (by exact (@zd _ _ _ _ _ (@zp _ _ (7) _ _ _ _ zQ.nd rfl (Or.inr rfl) (@zt _ _ _ _ _ _ _ _ _ _ _ _ _ _ _ _ G_l_polynomial (hr.mono (by decide)) rfl T.m_l_polynomial F_l_polynomial.kp b_l_polynomial .nil (@zK _) (@za _ _ _ _ _ (@pvx _ 6 _ _ rfl) (@za _ _ _ _ _ (@pvx _ 3 _ _ rfl) (@za _ _ _ _ _ (@pvx _ 4 _ _ rfl) (@ze _) (by rfl)) (by rfl)) (by rfl)) (by decide) (by rfl) (by rfl)) (by rfl) (by trivial)) (by exact (@zd _ _ _ _ _ (@zaJ _ _ _ _ _ _ _ _ _ _ _ _ _ (8) _ _ _ zQ.nd rfl (Or.inl rfl) (CompSc.of (N':=["x","p","one"]) (ix:=[none,some 3,some 7]) (zj za6) ["script","at","code","p","k","places","plan","one","row","left","j","many","number"] rfl rfl (by decide +kernel)) rfl (@zav _ _ rfl) (@ziS _ _ _ _ (@pvx _ 5 _ _ rfl)) (fun _ _ _ _ => (@zh _ _ (0) _ (show (["x","p","one"] : List Str).Nodup by decide +kernel) rfl (Or.inl rfl) (by trivial))) (fun _ _ _ _ => (@zU _)) (fun _ _ _ _ => (@zt _ _ _ _ _ _ _ _ _ _ _ _ _ _ _ _ G_l_value (hr.mono (by decide)) rfl T.m_l_value F_l_value.kp b_l_value .nil (@zK _) (@za _ _ _ _ _ (@pvx _ 1 _ _ rfl) (@za _ _ _ _ _ (@pvx _ 2 _ _ rfl) (@za _ _ _ _ _ (@pvx _ 0 _ _ rfl) (@ze _) (by rfl)) (by rfl)) (by rfl)) (by decide) (by rfl) (by rfl))) (by rfl) (by intro _; rfl) (by trivial)) (by exact (@zd _ _ _ _ _ (@zp _ _ (9) _ _ _ _ zQ.nd rfl (Or.inl rfl) (@zat _ _ _ _ _ _ _ _ _ (@zcp _ rfl) (by rfl) T.list_ boot_list (@za _ _ _ _ _ (@zat _ _ _ _ _ _ _ _ _ (@zdf _) (by rfl) T.range_ boot_range (@za _ _ _ _ _ (@zu _ _ _ _ _ _ _ _ _ (@zq _) (by rfl) T.len_ boot_len (@za _ _ _ _ _ (@pvx _ 5 _ _ rfl) (@ze _) (by rfl)) (by decide) (by decide) (by rfl) (by rfl)) (@ze _) (by rfl)) (by decide) (by decide) (by rfl) (by rfl)) (@ze _) (by rfl)) (by decide) (by decide) (by rfl) (by rfl)) (by rfl) (by trivial)) (by exact (@zd _ _ _ _ _ (@zaP _ _ _ _ _ _ _ _ PassesOwn.never rfl (@zaf _ _ _ _ _ _ rfl T.range_ (@za _ _ _ _ _ (@zg _ _ _ _ _ _ _ _ (@zA _) (@zg _ _ _ _ _ _ _ _ (@zS _) (@zg _ _ _ _ _ _ _ _ (@zA _) (@zH _ _ _ _ _ _ _ (@zw _) (@pvx _ 6 _ _ rfl) (@zf _ _ _ _) (fun _ _ => rfl)) (@zf _ _ _ _)) (@zH _ _ _ _ _ _ _ (@zw _) (@pvx _ 6 _ _ rfl) (@zf _ _ _ _) (fun _ _ => rfl))) (@zu _ _ _ _ _ _ _ _ _ (@zez _ rfl) (by rfl) T.max_ boot_max (@za _ _ _ _ _ (@zf _ _ _ _) (@za _ _ _ _ _ (@zg _ _ _ _ _ _ _ _ (@za8 _) (@zu _ _ _ _ _ _ _ _ _ (@zq _) (by rfl) T.len_ boot_len (@za _ _ _ _ _ (@pvx _ 5 _ _ rfl) (@ze _) (by rfl)) (by decide) (by decide) (by rfl) (by rfl)) (@pvx _ 4 _ _ rfl)) (@ze _) (by rfl)) (by rfl)) (by decide) (by decide) (by rfl) (by rfl))) (@ze _) (by rfl)) (by rfl)) (@zh _ _ (10) _ zQ.nd rfl (Or.inl rfl) (by trivial)) (@zn _ _ _ (@zax _ _ _ _ _ _ (@za7 _ _ _) (@ze1 _ _ _ _ _ _ _ (@pvx _ 8 _ _ rfl) (@zdL _ _ _ _ _ _ _ _ _ _ _ _ PySem.F.plainAttrs_list PySem.F.slot_list_pop PySem.F.type_list_pop (@zdM _) (@pvx _ 9 _ _ rfl) (@za _ _ _ _ _ (@zg _ _ _ _ _ _ _ _ (@zA _) (@zH _ _ _ _ _ _ _ (@zw _) (@pvx _ 6 _ _ rfl) (@zg _ _ _ _ _ _ _ _ (@zD _) (@zf _ _ _ _) (@pvx _ 10 _ _ rfl)) (fun _ _ => rfl)) (@zu _ _ _ _ _ _ _ _ _ (@zq _) (by rfl) T.len_ boot_len (@za _ _ _ _ _ (@pvx _ 9 _ _ rfl) (@ze _) (by rfl)) (by decide) (by decide) (by rfl) (by rfl))) (@ze _) (by rfl)) (by rfl) (by rfl) (by rfl) (by rfl) (by rfl)) set_list (by intro _; rfl)) (by rfl) (by rfl) (by rfl))) (by intro _; rfl)) (by exact (@zd _ _ _ _ _ (@zp _ _ (11) _ _ _ _ zQ.nd rfl (Or.inl rfl) (@zu _ _ _ _ _ _ _ _ _ (@zez _ rfl) (by rfl) T.max_ boot_max (@za _ _ _ _ _ (@zf _ _ _ _) (@za _ _ _ _ _ (@zg _ _ _ _ _ _ _ _ (@zD _) (@zg _ _ _ _ _ _ _ _ (@zbC _) (@zg _ _ _ _ _ _ _ _ (@za8 _) (@zu _ _ _ _ _ _ _ _ _ (@zq _) (by rfl) T.len_ boot_len (@za _ _ _ _ _ (@pvx _ 9 _ _ rfl) (@ze _) (by rfl)) (by decide) (by decide) (by rfl) (by rfl)) (@pvx _ 4 _ _ rfl)) (@zf _ _ _ _)) (@zH _ _ _ _ _ _ _ (@zw _) (@z0 _ _ _ _ (@zbZ _ _ _ _ _ _ (by exact (@za _ _ _ _ _ (@zf _ _ _ _) (@za _ _ _ _ _ (@zlf _ _ _ _ _ _ ziV (@zf _ _ _ _)) (@za _ _ _ _ _ (@zf _ _ _ _) (@ze _) (by rfl)) (by rfl)) (by rfl))))) (@zg _ _ _ _ _ _ _ _ (@zA _) (@zH _ _ _ _ _ _ _ (@zw _) (@pvx _ 6 _ _ rfl) (@zf _ _ _ _) (fun _ _ => rfl)) (@zf _ _ _ _)) (fun _ _ => rfl))) (@ze _) (by rfl)) (by rfl)) (by decide) (by decide) (by rfl) (by rfl)) (by rfl) (by trivial)) (by exact (@zd _ _ _ _ _ (@zaP _ _ _ _ _ _ _ _ PassesOwn.never rfl (@zaf _ _ _ _ _ _ rfl T.range_ (@za _ _ _ _ _ (@zu _ _ _ _ _ _ _ _ _ (@zcX _ rfl) (by rfl) T.min_ boot_min (@za _ _ _ _ _ (@pvx _ 11 _ _ rfl) (@za _ _ _ _ _ (@zu _ _ _ _ _ _ _ _ _ (@zq _) (by rfl) T.len_ boot_len (@za _ _ _ _ _ (@pvx _ 9 _ _ rfl) (@ze _) (by rfl)) (by decide) (by decide) (by rfl) (by rfl)) (@ze _) (by rfl)) (by rfl)) (by decide) (by decide) (by rfl) (by rfl)) (@ze _) (by rfl)) (by rfl)) (@zh _ _ (10) _ zQ.nd rfl (Or.inl rfl) (by trivial)) (@zd _ _ _ _ _ (@zp _ _ (12) _ _ _ _ zQ.nd rfl (Or.inl rfl) (@zdL _ _ _ _ _ _ _ _ _ _ _ _ PySem.F.plainAttrs_list PySem.F.slot_list_pop PySem.F.type_list_pop (@zdM _) (@pvx _ 9 _ _ rfl) (@za _ _ _ _ _ (@zg _ _ _ _ _ _ _ _ (@zA _) (@zH _ _ _ _ _ _ _ (@zw _) (@pvx _ 6 _ _ rfl) (@zg _ _ _ _ _ _ _ _ (@zD _) (@zf _ _ _ _) (@pvx _ 10 _ _ rfl)) (fun _ _ => rfl)) (@zu _ _ _ _ _ _ _ _ _ (@zq _) (by rfl) T.len_ boot_len (@za _ _ _ _ _ (@pvx _ 9 _ _ rfl) (@ze _) (by rfl)) (by decide) (by decide) (by rfl) (by rfl))) (@ze _) (by rfl)) (by rfl) (by rfl) (by rfl) (by rfl) (by rfl)) (by rfl) (by trivial)) (by exact (@zn _ _ _ (@zax _ _ _ _ _ _ (@zg _ _ _ _ _ _ _ _ (@zA _) (@zg _ _ _ _ _ _ _ _ (@zD _) (@zg _ _ _ _ _ _ _ _ (@zD _) (@zH _ _ _ _ _ _ _ (@zw _) (@pvx _ 8 _ _ rfl) (@pvx _ 12 _ _ rfl) (fun _ _ => rfl)) (@zf _ _ _ _)) (@zg _ _ _ _ _ _ _ _ (@zA _) (@zH _ _ _ _ _ _ _ (@zw _) (@pvx _ 6 _ _ rfl) (@zg _ _ _ _ _ _ _ _ (@zD _) (@zf _ _ _ _) (@pvx _ 10 _ _ rfl)) (fun _ _ => rfl)) (@zg _ _ _ _ _ _ _ _ (@za8 _) (@pvx _ 3 _ _ rfl) (@zf _ _ _ _)))) (@pvx _ 3 _ _ rfl)) (@ze1 _ _ _ _ _ _ _ (@pvx _ 8 _ _ rfl) (@pvx _ 12 _ _ rfl) set_list (by intro _; rfl)) (by rfl) (by rfl) (by rfl))))) (by intro _; rfl)) (by exact (@zn _ _ _ (@zI _ _ _ _ (@zaH _ _ _ _ _ (@za _ _ _ _ _ (@pvx _ 8 _ _ rfl) (@za _ _ _ _ _ (@pvx _ 7 _ _ rfl) (@ze _) (by rfl)) (by rfl))))))))))))))))))))),?_⟩
  have hsl:=sizeLine_eq
  have rp:=zo hp
  have p0 : 0 < p:=by omega
  refine ⟨_,rfl,c,_,rfl,SqT.of hc.1,rfl,_,_,rfl,_,_,rfl,_,_,rfl,rfl,?_⟩
  refine ⟨_,rfl,_,rfl,a,ns,at',44,27720,rfl,hS,hlen,a0,by omega,by decide,by decide,by decide,by decide,fun pa ds H1 hpa s1 hd h1p => ?_⟩
  have hdl : ds.length = 44:=hd.1
  have dat : ∀ m : Int,0 ≤ m → m < 44 → ∃ c : Int,atI (ds.map V.int) m = some (.int c):=fun m h0 h1 => zcG h0 (by omega)
  refine ⟨_,rfl,_,rfl,_,rfl,pa,ds,p,k,rfl,SqL.of h1p,by omega,p0,fun oa f H2 hoa s2 hf h2o hfl => ?_⟩
  have hfP : IsP p k f:=⟨hfl k rfl (by omega),hf.2⟩
  have s02:=s1.trans s2
  have hc2:=hc.same s02
  have h2p:=s2 _ _ h1p
  refine ⟨_,rfl,tt,rfl,⟨_,SqT.of hc2.2⟩,z8 (n:=pl.length) (fun m ys H' => H' = H2 ∧ ys = ((pl.take m).map fun x => zi p x f).map V.int) ⟨rfl,rfl⟩ ?_ ?_ ?_ ?_⟩
  ·rintro m ys H' hm ⟨rfl,_⟩
   exact ⟨_,.int pl[m],SqT.of hc2.2,by rw [List.getElem?_map,List.getElem?_eq_getElem hm]; rfl⟩
  ·rintro ys H' ⟨rfl,_⟩
   exact ⟨_,SqT.of hc2.2,by rw [List.length_map]; exact Nat.le_refl _⟩
  ·rintro m y ys H' H3 hm ⟨rfl,rfl⟩ ⟨rfl,hy⟩
   obtain ⟨x,rfl,hx⟩:=zae (hy _ (SqT.of hc2.2))
   obtain ⟨x0,x1⟩:=hpl x (List.mem_of_getElem? hx)
   refine gY ⟨_,rfl,_,rfl,_,rfl,p,x,oa,f,rfl,.inr (SqT.of h2o),p0,by omega,x0,x1,?_,rfl,?_⟩
   ·rw [List.length_map,List.length_map,List.length_take]; omega
   ·rw [take_snoc hx,List.map_append,List.map_append]; rfl
  rintro ys H2' ro ⟨rfl,rfl⟩ hro
  rw [List.take_length]
  have er : (pl.map fun x => zi p x f).map V.int = ((pl.map fun x => zi p x f).map some).map enc:=(show ∀ ys : List Int,ys.map V.int = (ys.map some).map enc from fun ys => by rw [List.map_map (f:=some) (g:=enc)]; rfl) _
  rw [er]
  have t3:=zb (o:=.lst (((pl.map fun x => zi p x f).map some).map enc)) hro
  have h3r : upd H2' ro (.lst (((pl.map fun x => zi p x f).map some).map enc)) ro = some (.lst (((pl.map fun x => zi p x f).map some).map enc)):=zc
  generalize upd H2' ro (.lst (((pl.map fun x => zi p x f).map some).map enc)) = H3 at t3 h3r ⊢
  have hc3:=hc2.same t3
  refine ⟨_,rfl,tt,_,rfl,.inr (SqT.of hc3.2),_,rfl,fun rr hrr => ⟨rr,_,rfl,zc,by rw [List.length_map]; omega,by rw [List.length_map]; omega,fun lf hlf => ?_⟩⟩
  rw [List.length_map] at hlf ⊢
  rw [Int.toNat_natCast]
  have u4:=(zb (o:=.rng 0 (pl.length : Int)) hrr).trans (zb (o:=.lst ((zaI 0 pl.length).map V.int)) hlf)
  have h4l : upd (upd H3 rr (.rng 0 (pl.length : Int))) lf (.lst ((zaI 0 pl.length).map V.int)) lf = some (.lst ((zaI 0 pl.length).map V.int)):=zc
  have hlf3 : H3 lf = none:=(zb (o:=.rng 0 (pl.length : Int)) hrr).free hlf
  have hlr : lf ≠ ro:=fun e => by rw [e,h3r] at hlf3; cases hlf3
  generalize upd (upd H3 rr (.rng 0 (pl.length : Int))) lf (.lst ((zaI 0 pl.length).map V.int)) = H4 at u4 h4l ⊢
  have h4r:=u4 _ _ h3r
  have hro2 : H2' ro = none:=hro
  have hlf2 : H2' lf = none:=t3.free hlf3
  obtain ⟨nd0,rg0⟩:=zeK (pl.length : Int)
  rw [Int.toNat_natCast] at nd0 rg0
  have R0 : RowL p pl.length ((pl.map fun x => zi p x f).map some) (zaI 0 pl.length):=by
   refine ⟨by rw [List.length_map,List.length_map],fun z hz => ?_,nd0,rg0,fun y hy => ?_⟩
   ·obtain ⟨v,hv,e⟩:=List.mem_map.mp hz
    cases e
    obtain ⟨x,_,rfl⟩:=List.mem_map.mp hv
    exact ⟨z9 p0 _,zaa p0 _⟩
   ·have:=rg0 y hy
    obtain ⟨x,hx⟩ : ∃ x,pl[y.toNat]? = some x:=⟨pl[y.toNat]'(by omega),by simp⟩
    exact ⟨zi p x f,by rw [List.getElem?_map,List.getElem?_map,hx]; rfl⟩
  have s24:=t3.trans u4
  obtain ⟨d40,ed40⟩:=dat 40 (by decide) (by decide)
  obtain ⟨d41,ed41⟩:=dat 41 (by decide) (by decide)
  obtain ⟨d42,ed42⟩:=dat 42 (by decide) (by decide)
  have h4p:=s24 _ _ h2p
  have hc4:=hc2.same s24
  have hm3:=Int.emod_nonneg d40 (show (3 : Int) ≠ 0 by decide)
  have hm3':=Int.emod_lt_of_pos d40 (show (0 : Int) < 3 by decide)
  refine ⟨_,rfl,pa,_,_,_,rfl,rfl,SqL.of h4p,ed40,_,_,rfl,rfl,(by show (0 : Int) < 3; decide),_,rfl,pa,_,_,_,rfl,rfl,SqL.of h4p,ed41,_,_,rfl,rfl,.inl ⟨by omega,by omega⟩,_,rfl,tt,_,rfl,.inr (SqT.of hc4.2),_,rfl,_,_,rfl,rfl,_,_,rfl,?_⟩
  rw [List.length_map]
  obtain ⟨mx,hmx⟩ : ∃ mx : Int,mx = (if (pl.length : Int) - (k : Int) > 1 then (pl.length : Int) - (k : Int) else 1):=⟨_,rfl⟩
  have hmx1 : 1 ≤ mx ∧ (mx = 1 ∨ mx = (pl.length : Int) - k):=by rw [hmx]; split <;> omega
  rw [← hmx]
  have hc0:=Int.emod_nonneg (d40 % 3 * d41) (show mx ≠ 0 by omega)
  have hc1':=Int.emod_lt_of_pos (d40 % 3 * d41) (show 0 < mx by omega)
  refine ⟨_,_,rfl,rfl,by omega,_,rfl,by omega,by omega,?_⟩
  obtain ⟨cnt,hcnt⟩ : ∃ cnt : Nat,(d40 % 3 * d41 % mx).toNat = cnt:=⟨_,rfl⟩
  rw [hcnt]
  refine zaO (lo:=0) (n:=cnt) (fun j σ H' => ∃ (rw : List (Option Int)) (ls : List Int) (e10 : Option V),σ = [some (.ref a),some (.int at'),some (.ref c),some (.int p),some (.int (k : Int)),some (.ref tt),some (.ref pa),some (.ref oa),some (.ref ro),some (.ref lf),e10,none,none] ∧ zy H2' H' ∧ H' ro = some (.lst (rw.map enc)) ∧ H' lf = some (.lst (ls.map V.int)) ∧ RowL p pl.length rw ls ∧ ls.length + j = pl.length) ⟨_,_,none,rfl,s24,h4r,h4l,R0,by rw [zbq]; rfl⟩ ?_ ?_
  ·rintro j σ H5 hj ⟨rw,ls,e10,rfl,s5,h5r,h5l,R,hll⟩
   obtain ⟨c',ec⟩:=dat (6 + (0 + (j : Int))) (by omega) (by omega)
   have lm : ((ls.map V.int).length : Int) = (ls.length : Int):=by rw [List.length_map]
   have lpos : 0 < ls.length:=by omega
   have c0:=Int.emod_nonneg c' (show (ls.length : Int) ≠ 0 by omega)
   have c1:=Int.emod_lt_of_pos c' (show (0 : Int) < ls.length by omega)
   obtain ⟨y,ey⟩ : ∃ y,ls[(c' % (ls.length : Int)).toNat]? = some y:=⟨ls[(c' % (ls.length : Int)).toNat]'(by omega),by simp⟩
   obtain ⟨y0,y1⟩:=R.lt y (List.mem_of_getElem? ey)
   refine ⟨_,rfl,_,rfl,.inl ⟨rfl,_,SqL.of h5l⟩,_,rfl,_,rfl,_,_,rfl,rfl,pa,_,_,_,rfl,rfl,SqL.of (s5 _ _ h2p),ec,_,rfl,lf,_,rfl,.inl (SqL.of h5l),_,_,rfl,rfl,(by rw [lm]; omega),lf,_,_,(c' % (ls.length : Int)).toNat,.int y,rfl,rfl,h5l,?_⟩
   rw [lm]
   refine ⟨by omega,by omega,by rw [List.length_map]; exact seqIndex_of c0 c1,by rw [List.getElem?_map,ey]; rfl,?_⟩
   rw [zcb]
   refine ⟨ro,_,_,y.toNat,rfl,rfl,by rw [zr (Ne.symm hlr)]; exact h5r,?_,?_⟩
   ·rw [show y = ((y.toNat : Nat) : Int) by omega,Int.toNat_natCast]
    exact zdq (by rw [List.length_map,R.ln]; omega)
   ·refine ⟨rw.set y.toNat none,ls.eraseIdx (c' % (ls.length : Int)).toNat,_,rfl,zW (zW s5 hlf2) hro2,by rw [zc]; exact congrArg (fun v => some (HO.lst v)) (zhT (o:=none)),by rw [zr hlr,zc],zgr R ey none (fun z hz => by cases hz),?_⟩
    rw [List.length_eraseIdx]
    split <;> omega
  ·rintro σ H5 ⟨rw,ls,e10,rfl,s5,h5r,h5l,R,hll⟩
   refine ⟨_,rfl,lf,_,rfl,.inl (SqL.of h5l),_,rfl,_,_,rfl,rfl,_,_,rfl,rfl,⟨by decide,by decide⟩,?_⟩
   have hm4:=Int.emod_nonneg d42 (show (4 : Int) ≠ 0 by decide)
   have hm4':=Int.emod_lt_of_pos d42 (show (0 : Int) < 4 by decide)
   obtain ⟨zz,ezz⟩ : ∃ zz : Int,atI [V.int 0,.int 0,.int (-1),.int 1] (d42 % 4) = some (.int zz) ∧ -1 ≤ zz ∧ zz ≤ 1:=by
    have : d42 % 4 = 0 ∨ d42 % 4 = 1 ∨ d42 % 4 = 2 ∨ d42 % 4 = 3:=by omega
    rcases this with e | e | e | e <;> rw [e]
    ·exact ⟨0,rfl,by decide,by decide⟩
    ·exact ⟨0,rfl,by decide,by decide⟩
    ·exact ⟨-1,rfl,by decide,by decide⟩
    ·exact ⟨1,rfl,by decide,by decide⟩
   obtain ⟨ezz,zz0,zz1⟩:=ezz
   refine ⟨_,rfl,by show 4 ≤ sizeLine; omega,fun l4 hl4 => ?_⟩
   have t6:=zb (o:=.lst [V.int 0,.int 0,.int (-1),.int 1]) hl4
   refine ⟨_,rfl,pa,_,_,_,rfl,rfl,SqL.of ((s5.trans t6) _ _ h2p),ed42,_,_,rfl,rfl,(by show (0 : Int) < 4; decide),l4,_,_,_,rfl,rfl,SqL.of zc,ezz,_,_,rfl,rfl,_,_,rfl,?_⟩
   have s6:=s5.trans t6
   have h6r:=t6 _ _ h5r
   have h6l:=t6 _ _ h5l
   generalize upd H5 l4 (.lst [V.int 0,.int 0,.int (-1),.int 1]) = H6 at t6 s6 h6r h6l ⊢
   rw [List.length_map]
   obtain ⟨my,hmy⟩ : ∃ my : Int,my = (if ((ls.length : Int) - (k : Int)) / 2 + zz > 0 then ((ls.length : Int) - (k : Int)) / 2 + zz else 0):=⟨_,rfl⟩
   have hmy1 : 0 ≤ my ∧ my ≤ 12:=by rw [hmy]; split <;> omega
   rw [← hmy]
   refine ⟨_,rfl,_,rfl,lf,_,rfl,.inl (SqL.of h6l),_,_,rfl,?_⟩
   rw [List.length_map]
   obtain ⟨mn,hmn⟩ : ∃ mn : Int,mn = (if (ls.length : Int) < my then (ls.length : Int) else my):=⟨_,rfl⟩
   have hmn1 : 0 ≤ mn ∧ mn ≤ 12 ∧ mn ≤ ls.length:=by rw [hmn]; split <;> omega
   rw [← hmn]
   refine ⟨_,rfl,by omega,by omega,?_⟩
   obtain ⟨c2,hc2'⟩ : ∃ c2 : Nat,mn.toNat = c2:=⟨_,rfl⟩
   rw [hc2']
   refine zaO (lo:=0) (n:=c2) (fun j σ H' => ∃ (rw : List (Option Int)) (ls' : List Int) (e10 e12 : Option V),σ = [some (.ref a),some (.int at'),some (.ref c),some (.int p),some (.int (k : Int)),some (.ref tt),some (.ref pa),some (.ref oa),some (.ref ro),some (.ref lf),e10,some (.int my),e12] ∧ zy H2' H' ∧ H' ro = some (.lst (rw.map enc)) ∧ H' lf = some (.lst (ls'.map V.int)) ∧ RowL p pl.length rw ls' ∧ ls'.length + j = ls.length) ⟨rw,ls,_,none,rfl,s6,h6r,h6l,R,rfl⟩ ?_ ?_
   ·rintro j σ H7 hj ⟨rw,ls',f10,f12,rfl,s7,h7r,h7l,R7,hl7⟩
    obtain ⟨c',ec⟩:=dat (23 + (0 + (j : Int))) (by omega) (by omega)
    obtain ⟨d',ed⟩:=dat (24 + (0 + (j : Int))) (by omega) (by omega)
    have lm : ((ls'.map V.int).length : Int) = (ls'.length : Int):=by rw [List.length_map]
    have lpos : 0 < ls'.length:=by omega
    have c0:=Int.emod_nonneg c' (show (ls'.length : Int) ≠ 0 by omega)
    have c1:=Int.emod_lt_of_pos c' (show (0 : Int) < ls'.length by omega)
    obtain ⟨y,ey⟩ : ∃ y,ls'[(c' % (ls'.length : Int)).toNat]? = some y:=⟨ls'[(c' % (ls'.length : Int)).toNat]'(by omega),by simp⟩
    obtain ⟨y0,y1⟩:=R7.lt y (List.mem_of_getElem? ey)
    obtain ⟨v,hv⟩:=R7.hd y (List.mem_of_getElem? ey)
    refine ⟨_,rfl,.inl ⟨rfl,_,SqL.of h7l⟩,_,rfl,_,rfl,_,_,rfl,rfl,pa,_,_,_,rfl,rfl,SqL.of (s7 _ _ h2p),ec,_,rfl,lf,_,rfl,.inl (SqL.of h7l),_,_,rfl,rfl,(by rw [lm]; omega),lf,_,_,(c' % (ls'.length : Int)).toNat,.int y,rfl,rfl,h7l,?_⟩
    rw [lm]
    refine ⟨by omega,by omega,by rw [List.length_map]; exact seqIndex_of c0 c1,by rw [List.getElem?_map,ey]; rfl,?_⟩
    rw [zcb]
    have s8 : zy H2' (upd H7 lf (.lst ((ls'.eraseIdx (c' % (ls'.length : Int)).toNat).map V.int))):=zW s7 hlf2
    have h8r : upd H7 lf (.lst ((ls'.eraseIdx (c' % (ls'.length : Int)).toNat).map V.int)) ro = some (.lst (rw.map enc)):=by rw [zr (Ne.symm hlr)]; exact h7r
    have h8l : upd H7 lf (.lst ((ls'.eraseIdx (c' % (ls'.length : Int)).toNat).map V.int)) lf = some (.lst ((ls'.eraseIdx (c' % (ls'.length : Int)).toNat).map V.int)):=zc
    generalize upd H7 lf (.lst ((ls'.eraseIdx (c' % (ls'.length : Int)).toNat).map V.int)) = H8 at s8 h8r h8l ⊢
    have hyx : y = ((y.toNat : Nat) : Int):=by omega
    have hvx : atI (rw.map enc) y = some (.int v):=by
     rw [hyx]
     exact zam (by rw [List.getElem?_map,hv]; rfl)
    have hq0:=Int.emod_nonneg d' (show p - 1 ≠ 0 by omega)
    refine ⟨_,rfl,_,rfl,ro,_,_,.int v,rfl,rfl,SqL.of h8r,hvx,_,_,rfl,rfl,_,rfl,_,rfl,_,_,rfl,rfl,pa,_,_,_,rfl,rfl,SqL.of (s8 _ _ h2p),ed,_,rfl,_,_,rfl,rfl,_,_,rfl,rfl,by omega,_,_,rfl,rfl,_,rfl,_,_,rfl,rfl,p0,_,rfl,_,rfl,ro,_,_,y.toNat,rfl,rfl,h8r,?_,?_⟩
    ·rw [hyx,Int.toNat_natCast]
     exact zdq (by rw [List.length_map,R7.ln]; omega)
    ·refine ⟨rw.set y.toNat (some ((v + 1 + d' % (p - 1)) % p)),ls'.eraseIdx (c' % (ls'.length : Int)).toNat,_,_,rfl,zW s8 hro2,by rw [zc]; exact congrArg (fun v => some (HO.lst v)) (zhT (o:=some ((v + 1 + d' % (p - 1)) % p))),by rw [zr hlr]; exact h8l,zgr R7 ey _ (fun z hz => by
      cases hz
      exact ⟨Int.emod_nonneg _ (by omega),Int.emod_lt_of_pos _ p0⟩),?_⟩
     rw [List.length_eraseIdx]
     split <;> omega
   ·rintro σ H7 ⟨rw,ls',f10,f12,rfl,s7,h7r,h7l,R7,hl7⟩
    refine ⟨_,rfl,_,rfl,by show 2 ≤ sizeLine; omega,fun z hz => ?_⟩
    exact q z ro oa rw f _ (s02.trans (s7.trans (zb hz))) zc ((zb hz) _ _ h7r) ((s7.trans (zb hz)) _ _ h2o) R7.ln R7.rg hfP
end
end My
end
section
set_option maxHeartbeats 3999000
namespace My
open PySem L2 PyProof.Rows
section
variable {P : Program} {w : World} {K : PySem.W.Frag} {mg : Str → Option Value} {base : Heap} {t : Adr}
theorem zhU : ∀ {pl : List Int} {rw : List (Option Int)},rw.length = pl.length → (hps pl rw).length = (rw.filter Option.isSome).length
 | [],[],_ => rfl
 | [],_ :: _,h => by simp at h
 | _ :: _,[],h => by simp at h
 | x :: pl,o :: rw,h => by
  have ih:=zhU (pl:=pl) (rw:=rw) (by simpa using h)
  cases o with
  | none => exact ih
  | some y =>
   show (hps pl rw).length + 1 = (rw.filter Option.isSome).length + 1
   rw [ih]
theorem zeX {H : Hp} {Q : VK} {a b : Addr} {xs ys : List V} (ha : SqL K H a xs) (hb : SqL K H b ys) (hl : xs.length = ys.length) (he : ∀ (j : Nat) x y,xs[j]? = some x → ys[j]? = some y → EqD K H 8 x y true) (q : Q (.bl false) H) : zlP K true (.ref a) (.ref b) H Q:=by
 refine ⟨a,b,_,_,rfl,rfl,.inl ⟨ha,hb⟩,.inr ⟨hl,fun _ => true,he,?_⟩⟩
 have : (List.range xs.length).all (fun _ => true) = true:=by simp
 rw [this]
 exact q
theorem zgs {H : Hp} {d : Nat} {x : V} (hx : zeE x = true) : EqD K H d x x true:=by
 have h:=EqD.flat (K:=K) (H:=H) (d:=d) (x:=x) (y:=x) hx hx
 have e : eqV x x = true:=by
  cases x <;> simp_all [eqV,zeE]
 rw [e] at h
 exact h
theorem zld {H : Hp} {a b : Addr} {ms : List Int} (ha : H a = some (.tup (ms.map V.int))) (hb : H b = some (.tup (ms.map V.int))) : EqD K H 8 (.ref a) (.ref b) true:=by
 by_cases hne : a = b
 ·subst hne
  exact .same
 ·have h:=EqD.tups (K:=K) (H:=H) (d:=7) (e:=fun _ => true) hne (SqT.of ha) (SqT.of hb) fun j x y h1 h2 => by
   rw [h1] at h2
   cases h2
   obtain ⟨z,rfl,_⟩:=zae h1
   exact zgs rfl
  have e : ((List.range (min (ms.map V.int).length (ms.map V.int).length)).all (fun _ => true) && (ms.map V.int).length == (ms.map V.int).length) = true:=by simp
  rw [e] at h
  exact h
theorem zle {H : Hp} {rs rs' : List Addr} {qs : List (List Int)} (h1 : zbx H rs qs) (h2 : zbx H rs' qs) : ∀ (j : Nat) x y,(rs.map V.ref)[j]? = some x → (rs'.map V.ref)[j]? = some y → EqD K H 8 x y true:=fun j x y e1 e2 => by
 obtain ⟨a,rfl,ha⟩:=zan e1
 obtain ⟨b,rfl,hb⟩:=zan e2
 obtain ⟨q,g1,g2⟩:=Paired.get h1 ha
 obtain ⟨q',g3,g4⟩:=Paired.get h2 hb
 rw [g1] at g3
 cases g3
 exact zld g2 g4
theorem zgt {H : Hp} {Q : VK} {a b : Addr} {ms : List Int} (ha : H a = some (.tup (ms.map V.int))) (hb : H b = some (.tup (ms.map V.int))) (q : Q (.bl false) H) : zlP K true (.ref a) (.ref b) H Q:=by
 refine ⟨a,b,_,_,rfl,rfl,.inr ⟨SqT.of ha,SqT.of hb⟩,.inr ⟨rfl,fun _ => true,fun j x y e1 e2 => ?_,?_⟩⟩
 ·rw [e1] at e2
  cases e2
  obtain ⟨z,rfl,_⟩:=zae e1
  exact zgs rfl
 ·have : (List.range (ms.map V.int).length).all (fun _ => true) = true:=by simp
  rw [this]
  exact q
theorem zaN : FnScope ["script","at","code","p","k","places","row","one","many_heard","found","slips","e","left","right"] ["script"] (zj zb7):=⟨rfl,rfl,rfl,by decide +kernel,rfl,by decide +kernel,by decide +kernel⟩
theorem zmj {fd : FuncData} (T : Txt K mg t) (F : Fun K "law" "law" zb7 t.law fd) : FnOk P w K mg base CX0 8 t.law fd ["script"] (zfc K):=by
 obtain ⟨fd_l_code,F_l_code,b_l_code⟩:=T.f_l_code
 have G_l_code:=ziF (P:=P) (w:=w) (base:=base) T F_l_code
 obtain ⟨fd_l_planted,F_l_planted,b_l_planted⟩:=T.f_l_planted
 have G_l_planted:=zfC (P:=P) (w:=w) (base:=base) T F_l_planted
 obtain ⟨fd_l_row,F_l_row,b_l_row⟩:=T.f_l_row
 have G_l_row:=zj3 (P:=P) (w:=w) (base:=base) T F_l_row
 obtain ⟨fd_half,F_half,b_half⟩:=T.f_half
 have G_half:=zlc (P:=P) (w:=w) (base:=base) T F_half
 obtain ⟨fd_l_fits,F_l_fits,b_l_fits⟩:=T.f_l_fits
 have G_l_fits:=ziJ (P:=P) (w:=w) (base:=base) T F_l_fits
 obtain ⟨fd_all_near,F_all_near,b_all_near⟩:=T.f_all_near
 have G_all_near:=zgq (P:=P) (w:=w) (base:=base) T F_all_near
 obtain ⟨fd_locator_of,F_locator_of,b_locator_of⟩:=T.f_locator_of
 have G_locator_of:=zcs (P:=P) (w:=w) (base:=base) T F_locator_of
 obtain ⟨fd_l_times,F_l_times,b_l_times⟩:=T.f_l_times
 have G_l_times:=zg0 (P:=P) (w:=w) (base:=base) T F_l_times
 refine F.ok zaN (fun vs H Q E h => ?_) (fun cdv A outer s H vs Q E hr h => ?_)
 ·obtain ⟨a,ns,rfl,_⟩:=h
  rfl
 ·obtain ⟨a,ns,rfl,hS,hlen,q⟩:=h
  have hu : (A.deeper (envOfC (Str.ofString "law") (zj zb7) s.heap.objs.size t.law cdv)).units + 20 < cLine:=by have:=hr.units; omega
  refine ⟨_,(@zd _ _ _ _ _ (@zaP _ _ _ _ _ _ _ _ PassesOwn.never rfl (@zaf _ _ _ _ _ _ rfl T.range_ (@za _ _ _ _ _ (@zf _ _ _ _) (@ze _) (by rfl)) (by rfl)) (@zh _ _ (1) _ zaN.nd rfl (Or.inl rfl) (by trivial)) (@zd _ _ _ _ _ (@zp _ _ (2) _ _ _ _ zaN.nd rfl (Or.inl rfl) (@zt _ _ _ _ _ _ _ _ _ _ _ _ _ _ _ _ G_l_code (hr.mono (by decide)) rfl T.m_l_code F_l_code.kp b_l_code .nil (@zK _) (@za _ _ _ _ _ (@pvx _ 0 _ _ rfl) (by exact (@za _ _ _ _ _ (@zg _ _ _ _ _ _ _ _ (@zS _) (@zf _ _ _ _) (@pvx _ 1 _ _ rfl)) (@za _ _ _ _ _ (@zf _ _ _ _) (@za _ _ _ _ _ (@zf _ _ _ _) (@ze _) (by rfl)) (by rfl)) (by rfl))) (by rfl)) (by decide) (by rfl) (by rfl)) (by rfl) (by trivial)) (by exact (@zd _ _ _ _ _ (@zax _ _ _ _ _ _ (@pvx _ 2 _ _ rfl) (@zaw _ _ _ _ _ _ rfl (@zl _ _ _ _ _ (@zh _ _ (3) _ zaN.nd rfl (Or.inl rfl) (by trivial)) (@zl _ _ _ _ _ (@zh _ _ (4) _ zaN.nd rfl (Or.inl rfl) (by trivial)) (@zl _ _ _ _ _ (@zh _ _ (5) _ zaN.nd rfl (Or.inl rfl) (by trivial)) (@zO _) (by rfl)) (by rfl)) (by rfl)) (by rfl) (by rfl)) (by rfl) (by rfl) (by rfl)) (by exact (@zd _ _ _ _ _ (zft (@zax _ _ _ _ _ _ (@zt _ _ _ _ _ _ _ _ _ _ _ _ _ _ _ _ G_l_planted (hr.mono (by decide)) rfl T.m_l_planted F_l_planted.kp b_l_planted .nil (@zK _) (@za _ _ _ _ _ (@pvx _ 0 _ _ rfl) (@za _ _ _ _ _ (@zg _ _ _ _ _ _ _ _ (@zD _) (@zg _ _ _ _ _ _ _ _ (@zS _) (@zf _ _ _ _) (@pvx _ 1 _ _ rfl)) (@zf _ _ _ _)) (@za _ _ _ _ _ (@pvx _ 2 _ _ rfl) (@ze _) (by rfl)) (by rfl)) (by rfl)) (by decide) (by rfl) (by rfl)) (@zaw _ _ _ _ _ _ rfl (@zl _ _ _ _ _ (@zh _ _ (6) _ zaN.nd rfl (Or.inl rfl) (by trivial)) (@zl _ _ _ _ _ (@zh _ _ (7) _ zaN.nd rfl (Or.inl rfl) (by trivial)) (@zO _) (by rfl)) (by rfl)) (by rfl) (by rfl)) (by rfl) (by rfl) (by rfl))) (by exact (@zd _ _ _ _ _ (zft (@zaT _ _ _ _ _ _ _ _ (@zE _ _ _ _ _ _ _ _ (@zdd _) (@pvx _ 1 _ _ rfl) (@zf _ _ _ _) (zM _)) (@zn _ _ _ (@zp _ _ (6) _ _ _ _ zaN.nd rfl (Or.inl rfl) (@zt _ _ _ _ _ _ _ _ _ _ _ _ _ _ _ _ G_l_row (hr.mono (by decide)) rfl T.m_l_row F_l_row.kp b_l_row .nil (@zK _) (@za _ _ _ _ _ (@pvx _ 0 _ _ rfl) (@za _ _ _ _ _ (@zg _ _ _ _ _ _ _ _ (@zD _) (@zg _ _ _ _ _ _ _ _ (@zS _) (@zf _ _ _ _) (@pvx _ 1 _ _ rfl)) (@zf _ _ _ _)) (@za _ _ _ _ _ (@pvx _ 2 _ _ rfl) (@ze _) (by rfl)) (by rfl)) (by rfl)) (by decide) (by rfl) (by rfl)) (by rfl) (by trivial))) (@zah _))) (by exact (@zd _ _ _ _ _ (@zp _ _ (8) _ _ _ _ zaN.nd rfl (Or.inl rfl) (@zu _ _ _ _ _ _ _ _ _ (@zq _) (by rfl) T.len_ boot_len (@za _ _ _ _ _ (@zar _ _ _ _ _ _ _ _ _ _ _ _ _ (CompSc.of (N':=["entry"]) (ix:=[none]) (zj zb7) ["script","at","code","p","k","places","row","one","many_heard","found","slips","e","left","right"] rfl rfl (by decide +kernel)) rfl (@zav _ _ rfl) (@zai _ _ _ _ (@pvx _ 6 _ _ rfl)) (fun _ _ _ _ => (@zh _ _ (0) _ (show (["entry"] : List Str).Nodup by decide +kernel) rfl (Or.inl rfl) (by trivial))) (fun _ _ _ _ => (@za3 _ _ _ (@zE _ _ _ _ _ _ _ _ (@ze2 _) (@pvx _ 0 _ _ rfl) (@za7 _ _ _) (zM _)))) (fun _ _ _ _ => (@pvx _ 0 _ _ rfl)) (by intro _; rfl)) (@ze _) (by rfl)) (by decide) (by decide) (by rfl) (by rfl)) (by rfl) (by trivial)) (by exact (@zd _ _ _ _ _ (@zp _ _ (9) _ _ _ _ zaN.nd rfl (Or.inl rfl) (@zt _ _ _ _ _ _ _ _ _ _ _ _ _ _ _ _ G_half (hr.mono (by decide)) rfl T.m_half F_half.kp b_half .nil (@zK _) (@za _ _ _ _ _ (@pvx _ 2 _ _ rfl) (@za _ _ _ _ _ (@zat _ _ _ _ _ _ _ _ _ (@ze4 _) (by rfl) T.list_ boot_list (@za _ _ _ _ _ (@pvx _ 6 _ _ rfl) (@ze _) (by rfl)) (by decide) (by decide) (by rfl) (by rfl)) (@ze _) (by rfl)) (by rfl)) (by decide) (by rfl) (by rfl)) (by rfl) (by trivial)) (by exact (@zd _ _ _ _ _ (zft (@zaT _ _ _ _ _ _ _ _ (@PW.pt _ _ _ (@ze0 _ _ _ _ _ _ _ (@zE _ _ _ _ _ _ _ _ (@zfJ _) (@pvx _ 1 _ _ rfl) (@zf _ _ _ _) (zM _)) (@ze0 _ _ _ _ _ _ _ (@zE _ _ _ _ _ _ _ _ (@zg4 _) (@zg _ _ _ _ _ _ _ _ (@zS _) (@zf _ _ _ _) (@zu _ _ _ _ _ _ _ _ _ (@zq _) (by rfl) T.len_ boot_len (@za _ _ _ _ _ (@zt _ _ _ _ _ _ _ _ _ _ _ _ _ _ _ _ G_l_fits (hr.mono (by decide)) rfl T.m_l_fits F_l_fits.kp b_l_fits .nil (@zK _) (@za _ _ _ _ _ (@pvx _ 2 _ _ rfl) (@za _ _ _ _ _ (@pvx _ 6 _ _ rfl) (@za _ _ _ _ _ (@pvx _ 7 _ _ rfl) (@ze _) (by rfl)) (by rfl)) (by rfl)) (by decide) (by rfl) (by rfl)) (@ze _) (by rfl)) (by decide) (by decide) (by rfl) (by rfl))) (@zg _ _ _ _ _ _ _ _ (@zD _) (@pvx _ 8 _ _ rfl) (@pvx _ 4 _ _ rfl)) (zM _)) (@zeZ _ _ _ _ (@zE _ _ _ _ _ _ _ _ (@ze9 _ hu) (@pvx _ 9 _ _ rfl) (@pvx _ 7 _ _ rfl) (zM _)))))) (@zn _ _ _ (@zI _ _ _ _ (@zeu _ _ _ _))) (@zah _))) (by exact (@zn _ _ _ (@zaT _ _ _ _ _ _ _ _ (@zE _ _ _ _ _ _ _ _ (@ziX _) (@pvx _ 9 _ _ rfl) (@za7 _ _ _) (zM _)) (@zn _ _ _ (@zaT _ _ _ _ _ _ _ _ (@PW.pt _ _ _ (@ze0 _ _ _ _ _ _ _ (@zE _ _ _ _ _ _ _ _ (@zg4 _) (@pvx _ 8 _ _ rfl) (@pvx _ 4 _ _ rfl) (zM _)) (@zeZ _ _ _ _ (@zE _ _ _ _ _ _ _ _ (@ze9 _ hu) (@zt _ _ _ _ _ _ _ _ _ _ _ _ _ _ _ _ G_all_near (hr.mono (by decide)) rfl T.m_all_near F_all_near.kp b_all_near .nil (@zK _) (@za _ _ _ _ _ (@pvx _ 2 _ _ rfl) (@za _ _ _ _ _ (@pvx _ 6 _ _ rfl) (@za _ _ _ _ _ (@zg _ _ _ _ _ _ _ _ (@zbC _) (@zg _ _ _ _ _ _ _ _ (@zD _) (@zg _ _ _ _ _ _ _ _ (@zD _) (@pvx _ 8 _ _ rfl) (@pvx _ 4 _ _ rfl)) (@zf _ _ _ _)) (@zf _ _ _ _)) (@ze _) (by rfl)) (by rfl)) (by rfl)) (by decide) (by rfl) (by rfl)) (@z0 _ _ _ _ (@ze _)) (zM _))))) (@zn _ _ _ (@zI _ _ _ _ (@zeu _ _ _ _))) (@zah _))) (@zd _ _ _ _ _ (@zp _ _ (10) _ _ _ _ zaN.nd rfl (Or.inl rfl) (@zg _ _ _ _ _ _ _ _ (@za8 _) (@pvx _ 8 _ _ rfl) (@zu _ _ _ _ _ _ _ _ _ (@zq _) (by rfl) T.len_ boot_len (@za _ _ _ _ _ (@zt _ _ _ _ _ _ _ _ _ _ _ _ _ _ _ _ G_l_fits (hr.mono (by decide)) rfl T.m_l_fits F_l_fits.kp b_l_fits .nil (@zK _) (@za _ _ _ _ _ (@pvx _ 2 _ _ rfl) (@za _ _ _ _ _ (@pvx _ 6 _ _ rfl) (@za _ _ _ _ _ (@pvx _ 9 _ _ rfl) (@ze _) (by rfl)) (by rfl)) (by rfl)) (by decide) (by rfl) (by rfl)) (@ze _) (by rfl)) (by decide) (by decide) (by rfl) (by rfl))) (by rfl) (by trivial)) (by exact (@zd _ _ _ _ _ (@zax _ _ _ _ _ _ (@zt _ _ _ _ _ _ _ _ _ _ _ _ _ _ _ _ G_locator_of (hr.mono (by decide)) rfl T.m_locator_of F_locator_of.kp b_locator_of .nil (@zK _) (@za _ _ _ _ _ (@pvx _ 2 _ _ rfl) (@za _ _ _ _ _ (@pvx _ 6 _ _ rfl) (@ze _) (by rfl)) (by rfl)) (by decide) (by rfl) (by rfl)) (@zaw _ _ _ _ _ _ rfl (@zl _ _ _ _ _ (@zh _ _ (11) _ zaN.nd rfl (Or.inl rfl) (by trivial)) (@zl _ _ _ _ _ (@zh _ _ (12) _ zaN.nd rfl (Or.inl rfl) (by trivial)) (@zl _ _ _ _ _ (@zh _ _ (13) _ zaN.nd rfl (Or.inl rfl) (by trivial)) (@zO _) (by rfl)) (by rfl)) (by rfl)) (by rfl) (by rfl)) (by rfl) (by rfl) (by rfl)) (by exact (@zd _ _ _ _ _ (@zaT _ _ _ _ _ _ _ _ (@PW.pt _ _ _ (@ziN _ _ _ _ _ _ _ (@zE _ _ _ _ _ _ _ _ (@zey _) (@zg _ _ _ _ _ _ _ _ (@zS _) (@zf _ _ _ _) (@pvx _ 10 _ _ rfl)) (@zg _ _ _ _ _ _ _ _ (@za8 _) (@pvx _ 8 _ _ rfl) (@pvx _ 4 _ _ rfl)) (zM _)) (@ziN _ _ _ _ _ _ _ (@zE _ _ _ _ _ _ _ _ (@zey _) (@pvx _ 11 _ _ rfl) (@pvx _ 10 _ _ rfl) (zM _)) (@ziM _ _ _ _ (@zE _ _ _ _ _ _ _ _ (@ze9 _ hu) (@pvx _ 13 _ _ rfl) (@zt _ _ _ _ _ _ _ _ _ _ _ _ _ _ _ _ G_l_times (hr.mono (by decide)) rfl T.m_l_times F_l_times.kp b_l_times .nil (@zK _) (@za _ _ _ _ _ (@pvx _ 3 _ _ rfl) (@za _ _ _ _ _ (@pvx _ 12 _ _ rfl) (@za _ _ _ _ _ (@pvx _ 9 _ _ rfl) (@ze _) (by rfl)) (by rfl)) (by rfl)) (by decide) (by rfl) (by rfl)) (zM _)))))) (@zn _ _ _ (@zI _ _ _ _ (@zeu _ _ _ _))) (@zah _)) (by exact (@zn _ _ _ (@zaT _ _ _ _ _ _ _ _ (@PW.pt _ _ _ (@ziN _ _ _ _ _ _ _ (@ziO _ _ _ _ (@zly _ _ _ (@zu _ _ _ _ _ _ _ _ _ (@zfP _) (by rfl) T.isinstance_ boot_isinstance (@za _ _ _ _ _ (@pvx _ 9 _ _ rfl) (@za _ _ _ _ _ (@zke _ _ (.ty "tuple") _ _ rfl T.tuple_ boot_tuple rfl (by decide) (by decide)) (@ze _) (by rfl)) (by rfl)) (by decide) (by decide) (by rfl) (by rfl)) (by intro _; rfl))) (@ziM _ _ _ _ (@zE _ _ _ _ _ _ _ _ (@ze9 _ hu) (@zt _ _ _ _ _ _ _ _ _ _ _ _ _ _ _ _ G_all_near (hr.mono (by decide)) rfl T.m_all_near F_all_near.kp b_all_near .nil (@zK _) (@za _ _ _ _ _ (@pvx _ 2 _ _ rfl) (@za _ _ _ _ _ (@pvx _ 6 _ _ rfl) (@za _ _ _ _ _ (@zg _ _ _ _ _ _ _ _ (@zbC _) (@zg _ _ _ _ _ _ _ _ (@zD _) (@zg _ _ _ _ _ _ _ _ (@zD _) (@pvx _ 8 _ _ rfl) (@pvx _ 4 _ _ rfl)) (@zf _ _ _ _)) (@zf _ _ _ _)) (@ze _) (by rfl)) (by rfl)) (by rfl)) (by decide) (by rfl) (by rfl)) (@z0 _ _ _ _ (@za _ _ _ _ _ (@pvx _ 9 _ _ rfl) (@ze _) (by rfl))) (zM _))))) (@zn _ _ _ (@zI _ _ _ _ (@zeu _ _ _ _))) (@zah _))))))))))))))))))))))))) (by intro _; rfl)) (by exact (@zn _ _ _ (@zI _ _ _ _ (@zeu _ _ _ _))))),?_⟩
  have hsl:=sizeLine_eq
  refine ⟨4,rfl,by decide,by decide,?_⟩
  refine zaO (lo:=0) (n:=4) (fun i σ H' => ∃ (e1 e2 e3 e4 e5 e6 e7 e8 e9 e10 e11 e12 e13 : Option V),σ = [some (.ref a),e1,e2,e3,e4,e5,e6,e7,e8,e9,e10,e11,e12,e13] ∧ zy H H') ⟨none,none,none,none,none,none,none,none,none,none,none,none,none,rfl,fun _ _ e => e⟩ ?_ ?_
  ·rintro i σ H0 hi ⟨e1,e2,e3,e4,e5,e6,e7,e8,e9,e10,e11,e12,e13,rfl,s0⟩
   refine ⟨_,rfl,_,rfl,_,_,rfl,rfl,.inl ⟨by decide,by decide⟩,a,ns,4 * (0 + (i : Int)),5,16,rfl,s0.seq hS,hlen,by omega,by omega,by decide,by decide,by decide,by decide,fun c tt p kI pl H1 hc1 s1 co h1c h1t => ?_⟩
   have rp:=zo co.pr
   have k1:=co.k1
   have kk:=co.kk
   have kn:=co.kl
   have ln:=co.ln
   have p0 : 0 < p:=by omega
   obtain ⟨k,rfl⟩ : ∃ k : Nat,kI = k:=⟨kI.toNat,by omega⟩
   have sA1:=s0.trans s1
   have hc1' : zaU H1 c tt p k pl:=⟨h1c,h1t⟩
   refine ⟨_,rfl,c,_,rfl,SqT.of h1c,rfl,_,_,rfl,_,_,rfl,_,_,rfl,rfl,?_⟩
   refine ⟨fun σ' H' => ∃ (r o : Addr) (rw : List (Option Int)) (f : List Int),σ' = [some (.ref a),some (.int (0 + (i : Int))),some (.ref c),some (.int p),some (.int (k : Int)),some (.ref tt),some (.ref r),some (.ref o),e8,e9,e10,e11,e12,e13] ∧ zy H1 H' ∧ H' r = some (.lst (rw.map enc)) ∧ H' o = some (.tup (f.map V.int)) ∧ rw.length = pl.length ∧ (∀ z,some z ∈ rw → 0 ≤ z ∧ z < p) ∧ IsP p k f,?_,?_⟩
   ·refine ⟨_,rfl,_,rfl,_,_,rfl,rfl,.inl ⟨by decide,by decide⟩,_,_,rfl,rfl,_,rfl,a,c,tt,ns,4 * (0 + (i : Int)) + 1,p,k,pl,rfl,sA1.seq hS,hlen,by omega,by omega,hc1',co.pr,co.rg,by omega,by omega,by omega,by omega,fun z r o rw f H2 s2 h2z h2r h2o hrl hrg hf => ?_⟩
    refine ⟨z,_,rfl,SqT.of h2z,rfl,_,_,rfl,_,_,rfl,rfl,?_⟩
    exact ⟨r,o,rw,f,rfl,s2,h2r,h2o,hrl,hrg,hf⟩
   rintro σ' H2 ⟨r0,o,rw0,f,rfl,s2,h2r0,h2o,hrl0,hrg0,hf⟩
   refine ⟨fun σ' H' => ∃ (r : Addr) (rw : List (Option Int)),σ' = [some (.ref a),some (.int (0 + (i : Int))),some (.ref c),some (.int p),some (.int (k : Int)),some (.ref tt),some (.ref r),some (.ref o),e8,e9,e10,e11,e12,e13] ∧ zy H2 H' ∧ H' r = some (.lst (rw.map enc)) ∧ rw.length = pl.length ∧ ∀ z,some z ∈ rw → 0 ≤ z ∧ z < p,?_,?_⟩
   ·refine ⟨_,rfl,rfl,_,rfl,?_⟩
    refine zay (fun _ => ?_) (fun _ => ⟨r0,rw0,rfl,fun _ _ e => e,h2r0,hrl0,hrg0⟩)
    refine ⟨_,rfl,_,rfl,_,_,rfl,rfl,.inl ⟨by decide,by decide⟩,_,_,rfl,rfl,_,rfl,a,c,tt,ns,4 * (0 + (i : Int)) + 2,p,k,pl,rfl,(sA1.trans s2).seq hS,hlen,by omega,by omega,hc1'.same s2,by omega,by omega,co.rg,by omega,fun r rw H3 hr3 s3 hrl hrw h3r => ?_⟩
    exact ⟨r,rw,rfl,s3,h3r,hrl,hrw⟩
   rintro σ' H3 ⟨r,rw,rfl,s3,h3r,hrl,hrw⟩
   have s13:=s2.trans s3
   have hc3:=hc1'.same s13
   have h3o:=s3 _ _ h2o
   have hcnt:=zhU hrl
   have hP:=zdB co.nd co.rg hrw
   have hhl:=zbM pl rw
   refine ⟨_,rfl,r,rfl,⟨_,SqL.of h3r⟩,zeO (kp:=fun v => !decide (v = .non)) (f:=id) (SqL.of h3r) (by rw [List.length_map]; omega) ?_ fun d hd => ?_⟩
   ·intro j x R B hx hR
    obtain ⟨ob,rfl,_⟩:=zfe hx
    refine ⟨_,rfl,rfl,_,rfl,?_⟩
    refine zay (fun h => ?_) (fun h => ?_)
    ·rw [if_pos h] at hR
     exact ⟨_,rfl,hR⟩
    ·rw [if_neg h] at hR
     exact hR
   have v4:=zb (o:=.lst (((rw.map enc).filter fun v => !decide (v = V.non)).map id)) hd
   have h4d : upd H3 d (.lst (((rw.map enc).filter fun v => !decide (v = V.non)).map id)) d = _:=zc
   have hsl4 : (((rw.map enc).filter fun v => !decide (v = V.non)).map id).length = (hps pl rw).length:=by
    rw [hcnt,List.length_map,List.filter_map,List.length_map]
    congr 1
    refine List.filter_congr fun ob _ => ?_
    cases ob <;> simp [enc]
   refine ⟨d,_,rfl,.inl (SqL.of h4d),?_⟩
   rw [hsl4]
   generalize upd H3 d (.lst (((rw.map enc).filter fun v => !decide (v = V.non)).map id)) = H4 at v4 h4d ⊢
   have hc4:=hc3.same v4
   have h4r:=v4 _ _ h3r
   refine ⟨_,rfl,_,rfl,r,_,rfl,.inl (SqL.of h4r),fun hn hhn => ?_⟩
   have v5:=zb (o:=.lst (rw.map enc)) hhn
   have h5n : upd H4 hn (.lst (rw.map enc)) hn = some (.lst (rw.map enc)):=zc
   generalize upd H4 hn (.lst (rw.map enc)) = H5 at v5 h5n ⊢
   refine ⟨c,tt,hn,p,k,pl,rw,rfl,hc4.same v5,h5n,hrl,by omega,co.pr,co.nd,co.rg,hrw,by omega,by omega,fun v H6 s6 hv => ?_⟩
   have s36:=(v4.trans v5).trans s6
   have hc6:=hc3.same s36
   have h6r:=s36 _ _ h3r
   have h6o:=s36 _ _ h3o
   refine ⟨fun σ' H' => σ' = [some (.ref a),some (.int (0 + (i : Int))),some (.ref c),some (.int p),some (.int (k : Int)),some (.ref tt),some (.ref r),some (.ref o),some (.int ((hps pl rw).length : Int)),some v,e10,e11,e12,e13] ∧ zy H6 H',?_,?_⟩
   ·refine ⟨_,rfl,_,_,rfl,rfl,_,rfl,?_⟩
    refine zay (fun _ => ?_) (fun _ => zek ⟨rfl,fun _ _ e => e⟩)
    refine ⟨_,rfl,_,rfl,_,rfl,c,tt,r,o,p,k,pl,f,rw,rfl,hc6,h6r,hrl,h6o,by omega,by omega,co.rg,by omega,fun fl H7 hfl s7 h7 => ?_⟩
    have ef : ((zcm p pl rw f pl.length).map V.int).length = hits p f (hps pl rw):=by rw [List.length_map]; exact zdC hrl
    refine ⟨fl,_,rfl,.inl (SqL.of h7),_,_,rfl,rfl,.inl ⟨by decide,by decide⟩,_,rfl,_,rfl,_,_,rfl,rfl,_,_,rfl,rfl,_,rfl,?_⟩
    rw [ef]
    refine zay (fun hge => ?_) (fun _ => zek ⟨rfl,s7⟩)
    have hge:=of_decide_eq_true hge
    rcases hv with ⟨z,qq,rfl,h6z,hqP,hqh,huq⟩ | ⟨rfl,hno⟩
    ·obtain rfl:=huq f hf (by omega)
     refine ⟨_,rfl,_,rfl,zgt (s7 _ _ h6z) (s7 _ _ h6o) ⟨_,rfl,zek ⟨rfl,s7⟩⟩⟩
    ·exact absurd (by omega) (hno f hf)
   rintro σ' H7 ⟨rfl,s7⟩
   have s37:=s36.trans s7
   have hc7:=hc3.same s37
   have h7r:=s37 _ _ h3r
   have sA7:=sA1.trans (s13.trans s37)
   refine ⟨_,rfl,rfl,_,rfl,?_⟩
   rcases hv with ⟨z,qq,rfl,h6z,hqP,hqh,huq⟩ | ⟨rfl,hno⟩
   ·refine zay (fun h => absurd h (by simp)) (fun _ => ?_)
    have h7z:=s7 _ _ h6z
    have hspl:=zbA p qq (hps pl rw)
    refine ⟨_,rfl,_,rfl,_,rfl,_,rfl,c,tt,r,z,p,k,pl,qq,rw,rfl,hc7,h7r,hrl,h7z,by omega,by omega,co.rg,by omega,fun fl H8 hfl s8 h8 => ?_⟩
    have ef : ((zcm p pl rw qq pl.length).map V.int).length = hits p qq (hps pl rw):=by rw [List.length_map]; exact zdC hrl
    refine ⟨fl,_,rfl,.inl (SqL.of h8),_,_,rfl,rfl,?_⟩
    rw [ef]
    have s38:=s37.trans s8
    refine ⟨_,rfl,_,rfl,c,tt,r,p,k,pl,rw,rfl,hc3.same s38,s38 _ _ h3r,hrl,by omega,co.pr,co.nd,co.rg,hrw,by omega,by omega,fun z2 la rb e left right H9 s9 h9z h9l h9r he16 L => ?_⟩
    obtain ⟨hright,hrev⟩:=L.ok (hps pl rw) (by simp)
    have hrt : right = szd (thr p (tmP p left (hps pl rw))) (k + e):=by
     have:=L.rt
     simpa using this
    rw [← hrt] at hright hrev
    have he:=zfA co.pr hP hqP (by omega) hqh L
    have hlfl : left.length = e + 1:=L.lf.1
    refine ⟨z2,_,rfl,SqT.of h9z,rfl,_,_,rfl,_,_,rfl,_,_,rfl,rfl,?_⟩
    refine ⟨_,rfl,_,_,rfl,rfl,.inl ⟨by decide,by decide⟩,_,rfl,_,rfl,_,_,rfl,rfl,_,_,rfl,rfl,_,rfl,?_⟩
    refine zay (fun h => absurd (of_decide_eq_true h) (by omega)) (fun _ => ?_)
    refine ⟨_,rfl,_,rfl,_,_,rfl,rfl,_,rfl,?_⟩
    refine zay (fun h => absurd (of_decide_eq_true h) (by omega)) (fun _ => ?_)
    have h9q:=(s8.trans s9) _ _ h7z
    refine ⟨_,rfl,_,rfl,_,rfl,_,rfl,p,la,z,left,qq,rfl,SqT.of h9l,SqT.of h9q,by omega,by rw [hqP.1]; omega,by omega,by rw [hqP.1]; omega,p0,by omega,L.lf.2,hqP.2,fun tz C Ha sa hat hCP hCe => ?_⟩
    have hCr : right = C:=by
     refine zdl co.pr (xs:=(hps pl rw).map (·.1)) (by rw [hright.1,hCP.1,hlfl,hqP.1]; omega) (by rw [hright.1,List.length_map]; omega) hP.nd (fun x hx => ?_) hright.2 hCP.2 fun x hx => ?_
     ·obtain ⟨b,hb,rfl⟩:=List.mem_map.mp hx
      exact ⟨(hP.rg b hb).1,(hP.rg b hb).2.1⟩
     ·rw [zei co.pr hP hqP (by omega) hqh L hright hrev]
      exact ((Cg.emod _ _).trans (hCe x).symm).eq (Int.emod_nonneg _ (by omega)) (Int.emod_lt_of_pos _ p0) (z9 p0 _) (zaa p0 _)
    subst hCr
    refine zgt (sa _ _ h9r) hat ⟨_,rfl,zek ?_⟩
    have s3a:=s38.trans (s9.trans sa)
    have haq:=sa _ _ h9q
    refine ⟨_,rfl,_,_,_,_,rfl,.tup haq,rfl,true,rfl,zek ?_⟩
    refine ⟨_,rfl,_,rfl,_,rfl,_,rfl,_,_,rfl,rfl,_,_,rfl,rfl,_,_,rfl,rfl,⟨by decide,by decide⟩,c,tt,r,p,k,_,pl,rw,rfl,hc3.same s3a,s3a _ _ h3r,hrl,by omega,co.pr,co.nd,co.rg,hrw,by omega,by omega,by omega,fun l rs qs Hb hl sb hbl hTb hRb hmb => ?_⟩
    have hqs : qs = [qq]:=zhH hRb ⟨fun x hx => by (obtain rfl : x = qq:=by simpa using hx); exact hqP,List.pairwise_singleton _ _⟩ fun x => by
     rw [hmb x,List.mem_singleton]
     constructor
     ·rintro ⟨x1,x2⟩
      exact huq x x1 (by omega)
     ·rintro rfl
      exact ⟨hqP,by omega⟩
    subst hqs
    refine ⟨_,rfl,by show 1 ≤ sizeLine; omega,fun l1 hl1 => ?_⟩
    have tc:=zb (o:=.lst [V.ref z]) hl1
    refine zeX (SqL.of (tc _ _ hbl)) (SqL.of (xs:=[z].map V.ref) zc) (by rw [List.length_map,hTb.length]; rfl) (zle (hTb.same tc) (.cons (tc _ _ (sb _ _ haq)) .nil)) ⟨_,rfl,zek ?_⟩
    exact ⟨_,_,_,_,_,_,_,_,_,_,_,_,_,rfl,(sA1.trans (s13.trans s3a)).trans (sb.trans tc)⟩
   ·refine zay (fun _ => ?_) (fun h => absurd rfl h)
    refine ⟨_,rfl,_,rfl,_,_,rfl,rfl,_,rfl,?_⟩
    refine zay (fun hge => ?_) (fun _ => zek ⟨_,_,_,_,_,_,_,_,_,_,_,_,_,rfl,sA7⟩)
    have hge:=of_decide_eq_true hge
    refine ⟨_,rfl,_,rfl,_,rfl,_,rfl,_,_,rfl,rfl,_,_,rfl,rfl,_,_,rfl,rfl,⟨by decide,by decide⟩,c,tt,r,p,k,_,pl,rw,rfl,hc7,h7r,hrl,by omega,co.pr,co.nd,co.rg,hrw,by omega,by omega,by omega,fun l rs qs H8 hl s8 h8l hT8 hR8 hm8 => ?_⟩
    have hq0 : qs = []:=by
     refine List.eq_nil_iff_forall_not_mem.mpr fun x hx => ?_
     obtain ⟨x1,x2⟩:=(hm8 x).mp hx
     exact hno x x1 (by omega)
    have hr0 : rs = []:=List.length_eq_zero_iff.mp (by rw [hT8.length,hq0]; rfl)
    refine ⟨Nat.zero_le _,fun z hz => ?_⟩
    refine zeX (SqL.of (zb hz _ _ h8l)) (SqL.of zc) (by rw [hr0]; rfl) (fun j x y hx _ => by rw [hr0] at hx; simp at hx) ⟨_,rfl,zek ?_⟩
    exact ⟨_,_,_,_,_,_,_,_,_,_,_,_,_,rfl,sA7.trans (s8.trans (zb hz))⟩
  ·rintro σ H1 ⟨e1,e2,e3,e4,e5,e6,e7,e8,e9,e10,e11,e12,e13,rfl,s1⟩
   exact q _
end
end My
end
section
set_option maxHeartbeats 3999000
namespace My
open PySem L2 PyProof.Rows
structure Dn (K : PySem.W.Frag) (x : Str) (st : Stmt) (f : Addr) (fd : FuncData) : Prop where
 a : PySem.W.nsIn K mainGlobals x = some (some (.ref f))
 f : Fun K x x st f fd
theorem zaq {K : PySem.W.Frag} {x : Str} {st : Stmt} {f : Addr} {od an : Option Addr} {sl : Array (Option Value)} {oc kV dc pm cd ct : Value} (a : PySem.W.nsIn K mainGlobals x = some (some (.ref f))) (l : K.lookup f = some ⟨oc,od,.func (PySem.W.fnOf x x (zbl st) (zbc st) (zj st) .none kV dc pm an cd ct),sl⟩) (c : PySem.W.codeIn K cd x = true) (k : PySem.W.keepIn K (.ref f) = true) : Dn K x st f (PySem.W.fnOf x x (zbl st) (zbc st) (zj st) .none kV dc pm an cd ct):=⟨a,zi3 l c k⟩
theorem el2 {us : List Value} (e : us.length = 2) : ∃ a b,us = [a,b]:=match us,e with | [a,b],_ => ⟨a,b,rfl⟩
theorem el3 {us : List Value} (e : us.length = 3) : ∃ a b c,us = [a,b,c]:=match us,e with | [a,b,c],_ => ⟨a,b,c,rfl⟩
theorem el4 {us : List Value} (e : us.length = 4) : ∃ a b c d,us = [a,b,c,d]:=match us,e with | [a,b,c,d],_ => ⟨a,b,c,d,rfl⟩
theorem zmk {l : PySem.W.OpenLaw} {w : World} {K : PySem.W.Frag} {h : Heap} {mg : Str → Option Value} {fa fl A_SlipError A_TooFew : Addr} (X : K.In h) (G : h.Ns mainGlobals mg) (hfa : mg "law" = some (.ref fa))
  {od an : Option Addr} {sl : Array (Option Value)} {oc kV dc pm cd ct : Value} (a_SlipError : PySem.W.nsIn K mainGlobals "SlipError" = some (some (.ref A_SlipError))) (a_TooFew : PySem.W.nsIn K mainGlobals "TooFew" = some (some (.ref A_TooFew))) (d_value_at : ∃ f fd,Dn K "value_at" zbO f fd) (d_inverse : ∃ f fd,Dn K "inverse" zcg f fd) (d_times_root : ∃ f fd,Dn K "times_root" zaS f fd) (d_bent : ∃ f fd,Dn K "bent" zed f fd) (d_through : ∃ f fd,Dn K "through" zch f fd) (d_heard_points : ∃ f fd,Dn K "heard_points" zaA f fd) (d_fits : ∃ f fd,Dn K "fits" zee f fd) (d_choices : ∃ f fd,Dn K "choices" zbg f fd) (d_all_through : ∃ f fd,Dn K "all_through" zaF f fd) (d_all_near : ∃ f fd,Dn K "all_near" zbk f fd) (d_without : ∃ f fd,Dn K "without" zby f fd) (d_first_relation : ∃ f fd,Dn K "first_relation" zac f fd) (d_times_entries : ∃ f fd,Dn K "times_entries" zas f fd) (d_beyond : ∃ f fd,Dn K "beyond" s_beyond f fd) (d_sized : ∃ f fd,Dn K "sized" zdE f fd) (d_joint_locator : ∃ f fd,Dn K "joint_locator" zT f fd) (d_locator_of : ∃ f fd,Dn K "locator_of" zbf f fd) (d_half : ∃ f fd,Dn K "half" zef f fd) (d_l_cell : ∃ f fd,Dn K "_law_cell" zcT f fd) (d_l_draws : ∃ f fd,Dn K "_law_draws" zci f fd) (d_l_code : ∃ f fd,Dn K "_law_code" zb6 f fd) (d_l_value : ∃ f fd,Dn K "_law_value" zcj f fd) (d_l_polynomial : ∃ f fd,Dn K "_law_polynomial" zaB f fd) (d_l_row : ∃ f fd,Dn K "_law_row" zcU f fd) (d_l_fits : ∃ f fd,Dn K "_law_fits" zbz f fd) (d_l_planted : ∃ f fd,Dn K "_law_planted" za6 f fd) (d_l_times : ∃ f fd,Dn K "_law_times" zck f fd)   (sb : PySem.W.mroIn K A_SlipError (.type "BaseException") = some true)
  (al : PySem.W.nsIn K mainGlobals "law" = some (some (.ref fl))) (ll : K.lookup fl = some ⟨oc,od,.func (PySem.W.fnOf "law" "law" (zbl zb7) (zbc zb7) (zj zb7) .none kV dc pm an cd ct),sl⟩) (cl : PySem.W.codeIn K cd "law" = true) (kl : PySem.W.keepIn K (.ref fl) = true) (z_len : PySem.W.nsIn K mainGlobals "len" = some none) (z_range : PySem.W.nsIn K mainGlobals "range" = some none) (z_list : PySem.W.nsIn K mainGlobals "list" = some none) (z_tuple : PySem.W.nsIn K mainGlobals "tuple" = some none) (z_min : PySem.W.nsIn K mainGlobals "min" = some none) (z_max : PySem.W.nsIn K mainGlobals "max" = some none) (z_isinstance : PySem.W.nsIn K mainGlobals "isinstance" = some none) (z_zip : PySem.W.nsIn K mainGlobals "zip" = some none) (z_enumerate : PySem.W.nsIn K mainGlobals "enumerate" = some none) (z_reversed : PySem.W.nsIn K mainGlobals "reversed" = some none) (z_sorted : PySem.W.nsIn K mainGlobals "sorted" = some none) (z_ValueError : PySem.W.nsIn K mainGlobals "ValueError" = some none) :
  ∃ fd : FuncData,(∀ (s : Shared) (v : Value),BindsTo s fd ⟨[v],[]⟩ [("script",v)]) ∧ ∀ base : Heap,K.In base → base.Ns mainGlobals mg → FnOk l.prog w K mg base CX0 8 fa fd ["script"] (zfc K):=by
 cases hfa.symm.trans (PySem.W.mg_of X G al)
 obtain ⟨f_value_at,fd_value_at,D_value_at⟩:=d_value_at
 have b_value_at:=D_value_at.f.binds (ps:=["p","polynomial","x"]) fun _ _ _ _ _ _ _ h => by obtain ⟨_,_,_,rfl⟩:=el3 h; exact rfl
 obtain ⟨f_inverse,fd_inverse,D_inverse⟩:=d_inverse
 have b_inverse:=D_inverse.f.binds (ps:=["p","number"]) fun _ _ _ _ _ _ _ h => by obtain ⟨_,_,rfl⟩:=el2 h; exact rfl
 obtain ⟨f_times_root,fd_times_root,D_times_root⟩:=d_times_root
 have b_times_root:=D_times_root.f.binds (ps:=["p","polynomial","root"]) fun _ _ _ _ _ _ _ h => by obtain ⟨_,_,_,rfl⟩:=el3 h; exact rfl
 obtain ⟨f_bent,fd_bent,D_bent⟩:=d_bent
 have b_bent:=D_bent.f.binds (ps:=["p","polynomial","vanishing","point"]) fun _ _ _ _ _ _ _ h => by obtain ⟨_,_,_,_,rfl⟩:=el4 h; exact rfl
 obtain ⟨f_through,fd_through,D_through⟩:=d_through
 have b_through:=D_through.f.binds (ps:=["p","points"]) fun _ _ _ _ _ _ _ h => by obtain ⟨_,_,rfl⟩:=el2 h; exact rfl
 obtain ⟨f_heard_points,fd_heard_points,D_heard_points⟩:=d_heard_points
 have b_heard_points:=D_heard_points.f.binds (ps:=["code","row"]) fun _ _ _ _ _ _ _ h => by obtain ⟨_,_,rfl⟩:=el2 h; exact rfl
 obtain ⟨f_fits,fd_fits,D_fits⟩:=d_fits
 have b_fits:=D_fits.f.binds (ps:=["code","row","polynomial"]) fun _ _ _ _ _ _ _ h => by obtain ⟨_,_,_,rfl⟩:=el3 h; exact rfl
 obtain ⟨f_choices,fd_choices,D_choices⟩:=d_choices
 have b_choices:=D_choices.f.binds (ps:=["things","many"]) fun _ _ _ _ _ _ _ h => by obtain ⟨_,_,rfl⟩:=el2 h; exact rfl
 obtain ⟨f_all_through,fd_all_through,D_all_through⟩:=d_all_through
 have b_all_through:=D_all_through.f.binds (ps:=["code","points"]) fun _ _ _ _ _ _ _ h => by obtain ⟨_,_,rfl⟩:=el2 h; exact rfl
 obtain ⟨f_all_near,fd_all_near,D_all_near⟩:=d_all_near
 have b_all_near:=D_all_near.f.binds (ps:=["code","row","t"]) fun _ _ _ _ _ _ _ h => by obtain ⟨_,_,_,rfl⟩:=el3 h; exact rfl
 obtain ⟨f_without,fd_without,D_without⟩:=d_without
 have b_without:=D_without.f.binds (ps:=["p","vector","times","other"]) fun _ _ _ _ _ _ _ h => by obtain ⟨_,_,_,_,rfl⟩:=el4 h; exact rfl
 obtain ⟨f_first_relation,fd_first_relation,D_first_relation⟩:=d_first_relation
 have b_first_relation:=D_first_relation.f.binds (ps:=["p","vectors"]) fun _ _ _ _ _ _ _ h => by obtain ⟨_,_,rfl⟩:=el2 h; exact rfl
 obtain ⟨f_times_entries,fd_times_entries,D_times_entries⟩:=d_times_entries
 have b_times_entries:=D_times_entries.f.binds (ps:=["p","left","points"]) fun _ _ _ _ _ _ _ h => by obtain ⟨_,_,_,rfl⟩:=el3 h; exact rfl
 obtain ⟨f_beyond,fd_beyond,D_beyond⟩:=d_beyond
 have b_beyond:=D_beyond.f.binds (ps:=["rights","many"]) fun _ _ _ _ _ _ _ h => by obtain ⟨_,_,rfl⟩:=el2 h; exact rfl
 obtain ⟨f_sized,fd_sized,D_sized⟩:=d_sized
 have b_sized:=D_sized.f.binds (ps:=["polynomial","many"]) fun _ _ _ _ _ _ _ h => by obtain ⟨_,_,rfl⟩:=el2 h; exact rfl
 obtain ⟨f_joint_locator,fd_joint_locator,D_joint_locator⟩:=d_joint_locator
 have b_joint_locator:=D_joint_locator.f.binds (ps:=["code","rows"]) fun _ _ _ _ _ _ _ h => by obtain ⟨_,_,rfl⟩:=el2 h; exact rfl
 obtain ⟨f_locator_of,fd_locator_of,D_locator_of⟩:=d_locator_of
 have b_locator_of:=D_locator_of.f.binds (ps:=["code","row"]) fun _ _ _ _ _ _ _ h => by obtain ⟨_,_,rfl⟩:=el2 h; exact rfl
 obtain ⟨f_half,fd_half,D_half⟩:=d_half
 have b_half:=D_half.f.binds (ps:=["code","row"]) fun _ _ _ _ _ _ _ h => by obtain ⟨_,_,rfl⟩:=el2 h; exact rfl
 obtain ⟨f_l_cell,fd_l_cell,D_l_cell⟩:=d_l_cell
 have b_l_cell:=D_l_cell.f.binds (ps:=["script","k"]) fun _ _ _ _ _ _ _ h => by obtain ⟨_,_,rfl⟩:=el2 h; exact rfl
 obtain ⟨f_l_draws,fd_l_draws,D_l_draws⟩:=d_l_draws
 have b_l_draws:=D_l_draws.f.binds (ps:=["script","k","many","base"]) fun _ _ _ _ _ _ _ h => by obtain ⟨_,_,_,_,rfl⟩:=el4 h; exact rfl
 obtain ⟨f_l_code,fd_l_code,D_l_code⟩:=d_l_code
 have b_l_code:=D_l_code.f.binds (ps:=["script","at","most_k","most_n"]) fun _ _ _ _ _ _ _ h => by obtain ⟨_,_,_,_,rfl⟩:=el4 h; exact rfl
 obtain ⟨f_l_value,fd_l_value,D_l_value⟩:=d_l_value
 have b_l_value:=D_l_value.f.binds (ps:=["p","polynomial","x"]) fun _ _ _ _ _ _ _ h => by obtain ⟨_,_,_,rfl⟩:=el3 h; exact rfl
 obtain ⟨f_l_polynomial,fd_l_polynomial,D_l_polynomial⟩:=d_l_polynomial
 have b_l_polynomial:=D_l_polynomial.f.binds (ps:=["draws","p","k"]) fun _ _ _ _ _ _ _ h => by obtain ⟨_,_,_,rfl⟩:=el3 h; exact rfl
 obtain ⟨f_l_row,fd_l_row,D_l_row⟩:=d_l_row
 have b_l_row:=D_l_row.f.binds (ps:=["script","at","code"]) fun _ _ _ _ _ _ _ h => by obtain ⟨_,_,_,rfl⟩:=el3 h; exact rfl
 obtain ⟨f_l_fits,fd_l_fits,D_l_fits⟩:=d_l_fits
 have b_l_fits:=D_l_fits.f.binds (ps:=["code","row","polynomial"]) fun _ _ _ _ _ _ _ h => by obtain ⟨_,_,_,rfl⟩:=el3 h; exact rfl
 obtain ⟨f_l_planted,fd_l_planted,D_l_planted⟩:=d_l_planted
 have b_l_planted:=D_l_planted.f.binds (ps:=["script","at","code"]) fun _ _ _ _ _ _ _ h => by obtain ⟨_,_,_,rfl⟩:=el3 h; exact rfl
 obtain ⟨f_l_times,fd_l_times,D_l_times⟩:=d_l_times
 have b_l_times:=D_l_times.f.binds (ps:=["p","one","other"]) fun _ _ _ _ _ _ _ h => by obtain ⟨_,_,_,rfl⟩:=el3 h; exact rfl
 let t : Adr:=⟨A_SlipError,A_TooFew,f_value_at,f_inverse,f_times_root,f_bent,f_through,f_heard_points,f_fits,f_choices,f_all_through,f_all_near,f_without,f_first_relation,f_times_entries,f_beyond,f_sized,f_joint_locator,f_locator_of,f_half,f_l_cell,f_l_draws,f_l_code,f_l_value,f_l_polynomial,f_l_row,f_l_fits,f_l_planted,f_l_times,fa⟩
 have T : Txt K mg t:=⟨PySem.W.mg_none_of X G z_len,PySem.W.mg_none_of X G z_range,PySem.W.mg_none_of X G z_list,PySem.W.mg_none_of X G z_tuple,PySem.W.mg_none_of X G z_min,PySem.W.mg_none_of X G z_max,PySem.W.mg_none_of X G z_isinstance,PySem.W.mg_none_of X G z_zip,PySem.W.mg_none_of X G z_enumerate,PySem.W.mg_none_of X G z_reversed,PySem.W.mg_none_of X G z_sorted,PySem.W.mg_none_of X G z_ValueError,PySem.W.mg_of X G a_SlipError,PySem.W.mg_of X G a_TooFew,sb,PySem.W.mg_of X G D_value_at.a,PySem.W.mg_of X G D_inverse.a,PySem.W.mg_of X G D_times_root.a,PySem.W.mg_of X G D_bent.a,PySem.W.mg_of X G D_through.a,PySem.W.mg_of X G D_heard_points.a,PySem.W.mg_of X G D_fits.a,PySem.W.mg_of X G D_choices.a,PySem.W.mg_of X G D_all_through.a,PySem.W.mg_of X G D_all_near.a,PySem.W.mg_of X G D_without.a,PySem.W.mg_of X G D_first_relation.a,PySem.W.mg_of X G D_times_entries.a,PySem.W.mg_of X G D_beyond.a,PySem.W.mg_of X G D_sized.a,PySem.W.mg_of X G D_joint_locator.a,PySem.W.mg_of X G D_locator_of.a,PySem.W.mg_of X G D_half.a,PySem.W.mg_of X G D_l_cell.a,PySem.W.mg_of X G D_l_draws.a,PySem.W.mg_of X G D_l_code.a,PySem.W.mg_of X G D_l_value.a,PySem.W.mg_of X G D_l_polynomial.a,PySem.W.mg_of X G D_l_row.a,PySem.W.mg_of X G D_l_fits.a,PySem.W.mg_of X G D_l_planted.a,PySem.W.mg_of X G D_l_times.a,⟨_,D_value_at.f,b_value_at⟩,⟨_,D_inverse.f,b_inverse⟩,⟨_,D_times_root.f,b_times_root⟩,⟨_,D_bent.f,b_bent⟩,⟨_,D_through.f,b_through⟩,⟨_,D_heard_points.f,b_heard_points⟩,⟨_,D_fits.f,b_fits⟩,⟨_,D_choices.f,b_choices⟩,⟨_,D_all_through.f,b_all_through⟩,⟨_,D_all_near.f,b_all_near⟩,⟨_,D_without.f,b_without⟩,⟨_,D_first_relation.f,b_first_relation⟩,⟨_,D_times_entries.f,b_times_entries⟩,⟨_,D_beyond.f,b_beyond⟩,⟨_,D_sized.f,b_sized⟩,⟨_,D_joint_locator.f,b_joint_locator⟩,⟨_,D_locator_of.f,b_locator_of⟩,⟨_,D_half.f,b_half⟩,⟨_,D_l_cell.f,b_l_cell⟩,⟨_,D_l_draws.f,b_l_draws⟩,⟨_,D_l_code.f,b_l_code⟩,⟨_,D_l_value.f,b_l_value⟩,⟨_,D_l_polynomial.f,b_l_polynomial⟩,⟨_,D_l_row.f,b_l_row⟩,⟨_,D_l_fits.f,b_l_fits⟩,⟨_,D_l_planted.f,b_l_planted⟩,⟨_,D_l_times.f,b_l_times⟩⟩
 have FL:=zi3 (st:=zb7) ll cl kl
 exact ⟨PySem.W.fnOf "law" "law" (zbl zb7) (zbc zb7) (zj zb7) .none kV dc pm an cd ct,fun s v => .of_eq rfl,fun base _ _ => zmj (t:=t) T FL⟩
theorem walk {l : PySem.W.OpenLaw} {q : Program} {loose : List Str} {XP : (Str → Option Value) → Heap → Prop} {YP : World → Heap → Prop} {d : DefRec} {K : Params → PySem.W.Frag} (hn : l.most = some 63) (hdf : d.params.defaults = []) (hY : ∀ (w : World) (h : Heap),YP w h → (K w.params).In h)
  (F : ∀ (w : World) (mg : Str → Option Value) (fa : Addr) (h : Heap),(K w.params).In h → h.Ns mainGlobals mg → mg d.name = some (.ref fa) → ∃ fd : FuncData,(∀ (s : Shared) (u : Value),BindsTo s fd ⟨[u],[]⟩ [("script",u)]) ∧ ∀ base : Heap,(K w.params).In base → base.Ns mainGlobals mg → FnOk l.prog w (K w.params) mg base CX0 8 fa fd ["script"] (zfc (K w.params))) : PySem.W.WalkO q loose XP YP l.row.toRowW d [] (fun f vs => PySem.call f vs) :=
 L2.zko (n:=63) (k:=8) (x:="script") (CX:=fun _ => CX0) (sp:=fun w => zfc (K w.params)) hn (by decide) hdf ⟨rfl,by decide,by decide⟩ hY F (fun _ _ a ns hl _ hS => ⟨a,ns,rfl,hS,hl,fun _ => rfl⟩) fun _ _ _ _ _ z => z
end My
namespace PySem.W.Fast
def tw9076062812932520876 : Unit:=()
def tw12208396158405038733 : Unit:=()
def tw6149561062159475281 : Unit:=()
def tw13490137225183414695 : Unit:=()
def tw12051346040726472235 : Unit:=()
def tw11386237775439538914 : Unit:=()
def tw18112098904472606189 : Unit:=()
def tw17028976837250574003 : Unit:=()
def tw8055711918037723454 : Unit:=()
def tw6224652261012359534 : Unit:=()
def tw1904609693710509868 : Unit:=()
def tw8392494107252124723 : Unit:=()
def tw3902115844537224508 : Unit:=()
def tw15976815504695627921 : Unit:=()
def tw6669645681943002163 : Unit:=()
def tw260479714450601884 : Unit:=()
def tw8754708545329982526 : Unit:=()
def tw16441716131619838793 : Unit:=()
def tw9921858234258176352 : Unit:=()
def tw17115347611524879605 : Unit:=()
def tw17343498262299932708 : Unit:=()
def tw12601227815187744868 : Unit:=()
def tw8272596919987405214 : Unit:=()
def tw12478353531765712951 : Unit:=()
def tw8652833667730672766 : Unit:=()
def tw14012461932894782839 : Unit:=()
def tw15823209614752675340 : Unit:=()
def tw9122975136693665602 : Unit:=()
def tw6060254681063688809 : Unit:=()
def tw12432619197803992931 : Unit:=()
def tw6309986446564698721 : Unit:=()
def tw5842328032474124133 : Unit:=()
def tw5795109350811756825 : Unit:=()
def tw3178349619232747593 : Unit:=()
def tw7046303890350489014 : Unit:=()
def tw9420609497228434681 : Unit:=()
def tw11112525855405720553 : Unit:=()
def tw4320060032716419997 : Unit:=()
def tw3502178178740305018 : Unit:=()
def tw9954491696286574791 : Unit:=()
def tw14390381371263222662 : Unit:=()
def tw4858224458679748789 : Unit:=()
def tw5679969514864618570 : Unit:=()
def tw7298300085328769467 : Unit:=()
def tw6951392468100552071 : Unit:=()
def tw2527061058958119139 : Unit:=()
def tw6887147013048249848 : Unit:=()
def tw7440462906317836136 : Unit:=()
def tw8924082784590370453 : Unit:=()
def tw14650085853989142722 : Unit:=()
def tw14171096413645887961 : Unit:=()
def tw7759057779063087240 : Unit:=()
def tw7489218746733425851 : Unit:=()
def tw13464736909600383663 : Unit:=()
def tw4535825802159668231 : Unit:=()
def tw6512620967062093393 : Unit:=()
def tw6433512195058464783 : Unit:=()
def tw18294099851947128859 : Unit:=()
def tw5389366183671097934 : Unit:=()
def tw7251052438997559843 : Unit:=()
def tw2911864342821066633 : Unit:=()
def tw13030653169928769783 : Unit:=()
def tw1391526457005241626 : Unit:=()
def tw17265412435375171388 : Unit:=()
def tw15789326999893498290 : Unit:=()
def tw8595464917752302860 : Unit:=()
def tw6602777724183538884 : Unit:=()
def tw13245537102324900711 : Unit:=()
def tw10931995463669531817 : Unit:=()
def tw10372102998389081773 : Unit:=()
def tw12459012335954626790 : Unit:=()
def tw11812013797121818306 : Unit:=()
def tw2067555688741280816 : Unit:=()
def tw1135726837335122500 : Unit:=()
def tw4415673650577601933 : Unit:=()
def tw18422113209311114972 : Unit:=()
def tw13736056198358864905 : Unit:=()
def tw14191354434919763058 : Unit:=()
def tw2094691195341478640 : Unit:=()
def tw3422965614504463424 : Unit:=()
end PySem.W.Fast
open PySem PySem.W
open PyProof.Rows
set_option maxHeartbeats 0 in
theorem PySem.Challenge.cw_slipcurve_k08_whole_halves_holds : PySem.Challenge.rw_slipcurve_k08_whole_halves.Holds := by
 w_on; o_law; k_head; (case hw => w_witness2)
 k_fill
 refine My.walk (l:=PySem.Challenge.rw_slipcurve_k08_whole_halves) rfl rfl (fun w h Y => PySem.W.kIn_of Y) ?F
 case F =>
  intro w mg fa h KX G hmg
  refine' My.zmk KX G hmg ?a_SlipError ?a_TooFew ⟨_,_,My.zaq ?da_value_at ?dl_value_at ?dc_value_at ?dk_value_at⟩ ⟨_,_,My.zaq ?da_inverse ?dl_inverse ?dc_inverse ?dk_inverse⟩ ⟨_,_,My.zaq ?da_times_root ?dl_times_root ?dc_times_root ?dk_times_root⟩ ⟨_,_,My.zaq ?da_bent ?dl_bent ?dc_bent ?dk_bent⟩ ⟨_,_,My.zaq ?da_through ?dl_through ?dc_through ?dk_through⟩ ⟨_,_,My.zaq ?da_heard_points ?dl_heard_points ?dc_heard_points ?dk_heard_points⟩ ⟨_,_,My.zaq ?da_fits ?dl_fits ?dc_fits ?dk_fits⟩ ⟨_,_,My.zaq ?da_choices ?dl_choices ?dc_choices ?dk_choices⟩ ⟨_,_,My.zaq ?da_all_through ?dl_all_through ?dc_all_through ?dk_all_through⟩ ⟨_,_,My.zaq ?da_all_near ?dl_all_near ?dc_all_near ?dk_all_near⟩ ⟨_,_,My.zaq ?da_without ?dl_without ?dc_without ?dk_without⟩ ⟨_,_,My.zaq ?da_first_relation ?dl_first_relation ?dc_first_relation ?dk_first_relation⟩ ⟨_,_,My.zaq ?da_times_entries ?dl_times_entries ?dc_times_entries ?dk_times_entries⟩ ⟨_,_,My.zaq ?da_beyond ?dl_beyond ?dc_beyond ?dk_beyond⟩ ⟨_,_,My.zaq ?da_sized ?dl_sized ?dc_sized ?dk_sized⟩ ⟨_,_,My.zaq ?da_joint_locator ?dl_joint_locator ?dc_joint_locator ?dk_joint_locator⟩ ⟨_,_,My.zaq ?da_locator_of ?dl_locator_of ?dc_locator_of ?dk_locator_of⟩ ⟨_,_,My.zaq ?da_half ?dl_half ?dc_half ?dk_half⟩ ⟨_,_,My.zaq ?da_l_cell ?dl_l_cell ?dc_l_cell ?dk_l_cell⟩ ⟨_,_,My.zaq ?da_l_draws ?dl_l_draws ?dc_l_draws ?dk_l_draws⟩ ⟨_,_,My.zaq ?da_l_code ?dl_l_code ?dc_l_code ?dk_l_code⟩ ⟨_,_,My.zaq ?da_l_value ?dl_l_value ?dc_l_value ?dk_l_value⟩ ⟨_,_,My.zaq ?da_l_polynomial ?dl_l_polynomial ?dc_l_polynomial ?dk_l_polynomial⟩ ⟨_,_,My.zaq ?da_l_row ?dl_l_row ?dc_l_row ?dk_l_row⟩ ⟨_,_,My.zaq ?da_l_fits ?dl_l_fits ?dc_l_fits ?dk_l_fits⟩ ⟨_,_,My.zaq ?da_l_planted ?dl_l_planted ?dc_l_planted ?dk_l_planted⟩ ⟨_,_,My.zaq ?da_l_times ?dl_l_times ?dc_l_times ?dk_l_times⟩ ?sb ?al ?ll ?cl ?kl ?z_len ?z_range ?z_list ?z_tuple ?z_min ?z_max ?z_isinstance ?z_zip ?z_enumerate ?z_reversed ?z_sorted ?z_ValueError
  (case a_SlipError => k_is)
  (case a_TooFew => k_is)
  (case da_value_at => k_is)
  (case dl_value_at => k_is)
  (case dc_value_at => k_is)
  (case dk_value_at => k_is)
  (case da_inverse => k_is)
  (case dl_inverse => k_is)
  (case dc_inverse => k_is)
  (case dk_inverse => k_is)
  (case da_times_root => k_is)
  (case dl_times_root => k_is)
  (case dc_times_root => k_is)
  (case dk_times_root => k_is)
  (case da_bent => k_is)
  (case dl_bent => k_is)
  (case dc_bent => k_is)
  (case dk_bent => k_is)
  (case da_through => k_is)
  (case dl_through => k_is)
  (case dc_through => k_is)
  (case dk_through => k_is)
  (case da_heard_points => k_is)
  (case dl_heard_points => k_is)
  (case dc_heard_points => k_is)
  (case dk_heard_points => k_is)
  (case da_fits => k_is)
  (case dl_fits => k_is)
  (case dc_fits => k_is)
  (case dk_fits => k_is)
  (case da_choices => k_is)
  (case dl_choices => k_is)
  (case dc_choices => k_is)
  (case dk_choices => k_is)
  (case da_all_through => k_is)
  (case dl_all_through => k_is)
  (case dc_all_through => k_is)
  (case dk_all_through => k_is)
  (case da_all_near => k_is)
  (case dl_all_near => k_is)
  (case dc_all_near => k_is)
  (case dk_all_near => k_is)
  (case da_without => k_is)
  (case dl_without => k_is)
  (case dc_without => k_is)
  (case dk_without => k_is)
  (case da_first_relation => k_is)
  (case dl_first_relation => k_is)
  (case dc_first_relation => k_is)
  (case dk_first_relation => k_is)
  (case da_times_entries => k_is)
  (case dl_times_entries => k_is)
  (case dc_times_entries => k_is)
  (case dk_times_entries => k_is)
  (case da_beyond => k_is)
  (case dl_beyond => k_is)
  (case dc_beyond => k_is)
  (case dk_beyond => k_is)
  (case da_sized => k_is)
  (case dl_sized => k_is)
  (case dc_sized => k_is)
  (case dk_sized => k_is)
  (case da_joint_locator => k_is)
  (case dl_joint_locator => k_is)
  (case dc_joint_locator => k_is)
  (case dk_joint_locator => k_is)
  (case da_locator_of => k_is)
  (case dl_locator_of => k_is)
  (case dc_locator_of => k_is)
  (case dk_locator_of => k_is)
  (case da_half => k_is)
  (case dl_half => k_is)
  (case dc_half => k_is)
  (case dk_half => k_is)
  (case da_l_cell => k_is)
  (case dl_l_cell => k_is)
  (case dc_l_cell => k_is)
  (case dk_l_cell => k_is)
  (case da_l_draws => k_is)
  (case dl_l_draws => k_is)
  (case dc_l_draws => k_is)
  (case dk_l_draws => k_is)
  (case da_l_code => k_is)
  (case dl_l_code => k_is)
  (case dc_l_code => k_is)
  (case dk_l_code => k_is)
  (case da_l_value => k_is)
  (case dl_l_value => k_is)
  (case dc_l_value => k_is)
  (case dk_l_value => k_is)
  (case da_l_polynomial => k_is)
  (case dl_l_polynomial => k_is)
  (case dc_l_polynomial => k_is)
  (case dk_l_polynomial => k_is)
  (case da_l_row => k_is)
  (case dl_l_row => k_is)
  (case dc_l_row => k_is)
  (case dk_l_row => k_is)
  (case da_l_fits => k_is)
  (case dl_l_fits => k_is)
  (case dc_l_fits => k_is)
  (case dk_l_fits => k_is)
  (case da_l_planted => k_is)
  (case dl_l_planted => k_is)
  (case dc_l_planted => k_is)
  (case dk_l_planted => k_is)
  (case da_l_times => k_is)
  (case dl_l_times => k_is)
  (case dc_l_times => k_is)
  (case dk_l_times => k_is)
  (case sb => k_is)
  (case al => k_is)
  (case ll => k_is)
  (case cl => k_is)
  (case kl => k_is)
  (case z_len => k_is)
  (case z_range => k_is)
  (case z_list => k_is)
  (case z_tuple => k_is)
  (case z_min => k_is)
  (case z_max => k_is)
  (case z_isinstance => k_is)
  (case z_zip => k_is)
  (case z_enumerate => k_is)
  (case z_reversed => k_is)
  (case z_sorted => k_is)
  (case z_ValueError => k_is)
#print axioms PySem.Challenge.cw_slipcurve_k08_whole_halves_holds
end