import PyProof.Rows.All
import Wide.All
import OpenK.AllK
import Wide.FinOn
import Lean
import PyProof.EqAt
import PyProof.EqKinds
import PyProof.Rows.MinMaxN
import PyProof.ListMulRoad
import KE.KUnpackStar
import KE.KIntText
import PyProof.CallStr
import KE.KDictSum
import KE.KSortTup
import PyProof.Walk
import PyProof.Rows.SortRuns
import PyProof.Rows.ChunkEnd
import PyProof.Rows.Range3
import PyProof.Rows.SeqGen
import PyProof.ConsumeWalk
import PyProof.ListRange
import PyProof.NeKinds
import PyProof.TupleCall
import PySem.Challenge.RW_slipcurve_k09_curves_moved
local macro_rules | `(tactic| trivial) => `(tactic| first | exact .inl rfl | exact .inr rfl | assumption)
set_option Elab.async false
set_option linter.all false
set_option maxRecDepth 100000
namespace L2
open PySem PySem.Spec PyProof.Rows
abbrev Key:=Sum Int Str
def zgA : Key → Value → Bool
 | .inl k,v => Value.isInt k v
 | .inr x,v => Value.isStrOf x v
def zhV (w : World) : Key → Int
 | .inl k => hashInt k
 | .inr x => hashStr w x
theorem zN : ∀ {k : Key} {v : Value},zgA k v = true → (∃ i t,k = Sum.inl i ∧ v = Value.int i t) ∨ (∃ x t,k = Sum.inr x ∧ v = Value.str x t)
 | .inl i,v,h => by
  obtain ⟨t,e⟩:=Value.isInt_shape (k:=i) (v:=v) h
  exact .inl ⟨i,t,rfl,e⟩
 | .inr x,v,h => by
  obtain ⟨t,e⟩:=Value.isStrOf_shape (x:=x) (v:=v) h
  exact .inr ⟨x,t,rfl,e⟩
theorem zgM (a b : Int) : decide ((Sum.inl a : Key) = Sum.inl b) = (a == b):=by
 by_cases e : a = b
 ·subst e; simp
 ·have h : ¬ (Sum.inl a : Key) = Sum.inl b:=fun q => e (Sum.inl.inj q)
  rw [decide_eq_false h]
  exact (beq_eq_false_iff_ne.mpr e).symm
theorem zgN (a b : Str) : decide ((Sum.inr a : Key) = Sum.inr b) = decide (a = b):=by
 by_cases e : a = b
 ·subst e; simp
 ·have h : ¬ (Sum.inr a : Key) = Sum.inr b:=fun q => e (Sum.inr.inj q)
  rw [decide_eq_false h,decide_eq_false e]
theorem zgO (a : Int) (b : Str) : decide ((Sum.inl a : Key) = Sum.inr b) = false:=decide_eq_false (fun q => nomatch q)
theorem zgP (a : Str) (b : Int) : decide ((Sum.inr a : Key) = Sum.inl b) = false:=decide_eq_false (fun q => nomatch q)
def zeb (prog : Program) (w : World) : PySem.KeyKind prog w Key where
 is:=zgA
 hash:=zhV w
 inj:=fun v a b ha hb => by
  rcases zN ha with ⟨i,t,rfl,rfl⟩ | ⟨x,t,rfl,rfl⟩
  ·rcases zN hb with ⟨j,u,rfl,e⟩ | ⟨y,u,rfl,e⟩
   ·injection e with e1 _; rw [e1]
   ·exact nomatch e
  ·rcases zN hb with ⟨j,u,rfl,e⟩ | ⟨y,u,rfl,e⟩
   ·exact nomatch e
   ·injection e with e1 _; rw [e1]
 byValue:=fun k v h => by
  rcases zN h with ⟨i,t,rfl,rfl⟩ | ⟨x,t,rfl,rfl⟩ <;> rfl
 pyHash:=fun hv h => by
  rcases zN hv with ⟨i,t,rfl,rfl⟩ | ⟨x,t,rfl,rfl⟩
  ·exact wpAny_pyHash_int h
  ·exact wpAny_pyHash_str h
 eqBool:=fun hu hv h => by
  rcases zN hu with ⟨i,t,rfl,rfl⟩ | ⟨x,t,rfl,rfl⟩
  ·rcases zN hv with ⟨j,u,rfl,rfl⟩ | ⟨y,u,rfl,rfl⟩
   ·rw [zgM] at h; exact wpAny_eqBool_int h
   ·rw [zgO] at h; exact SeqAt.EqAt.int_str i t y u _ _ _ _ h
  ·rcases zN hv with ⟨j,u,rfl,rfl⟩ | ⟨y,u,rfl,rfl⟩
   ·rw [zgP] at h; exact SeqAt.EqAt.str_int x t j u _ _ _ _ h
   ·rw [zgN] at h; exact wpAny_eqBool_str h
 «strs»:=fun k x t v h => by
  rcases zN h with ⟨i,u,rfl,e⟩ | ⟨y,u,rfl,e⟩
  ·exact nomatch e
  ·injection e with e1 _
   subst e1
   cases v <;> rfl
end L2
namespace L2
open PySem PySem.Spec PyProof.Rows
inductive V where
 | non | bl (b : Bool) | int (i : Int) | str (x : Str) | byt (b : Array UInt8) | flt (b : UInt64) | ref (a : Addr) | ty (n : String)
 deriving DecidableEq
def RelV : V → Value → Prop
 | .non,u => u = Value.none
 | .bl b,u => u = Value.bool b
 | .int i,u => ∃ t,u = Value.int i t
 | .str x,u => ∃ t,u = Value.str x t
 | .byt b,u => ∃ t,u = Value.bytes b t
 | .flt b,u => ∃ t,u = Value.float b t
 | .ref a,u => u = Value.ref a
 | .ty n,u => u = Value.type n
abbrev zt : List V → List Value → Prop:=Paired RelV
theorem zt.length {xs : List V} {us : List Value} (r : zt xs us) : xs.length = us.length:=Paired.length r
theorem zt.get : ∀ {xs : List V} {us : List Value} {i : Nat} {x : V},zt xs us → xs[i]? = some x → ∃ u,us[i]? = some u ∧ RelV x u
 | _,_,_,_,.nil,e => by simp at e
 | _,_,0,_,.cons r _,e => by simp at e; subst e; exact ⟨_,rfl,r⟩
 | _,_,i + 1,x,.cons _ t,e => by
  obtain ⟨u,h1,h2⟩:=zt.get (i:=i) (x:=x) t (by simpa using e)
  exact ⟨u,by simpa using h1,h2⟩
theorem zt.set {x : V} {u : Value} (r : RelV x u) : ∀ {xs : List V} {us : List Value} (i : Nat),zt xs us → zt (xs.set i x) (us.set i u)
 | _,_,_,.nil => .nil
 | _,_,0,.cons _ t => .cons r t
 | _,_,i + 1,.cons q t => .cons q (zt.set r i t)
theorem zt.append : ∀ {xs ys : List V} {us ws : List Value},zt xs us → zt ys ws → zt (xs ++ ys) (us ++ ws)
 | _,_,_,_,.nil,s => s
 | _,_,_,_,.cons r t,s => .cons r (zt.append t s)
theorem zt.take : ∀ {xs : List V} {us : List Value} (n : Nat),zt xs us → zt (xs.take n) (us.take n)
 | _,_,0,_ => .nil
 | _,_,_ + 1,.nil => .nil
 | _,_,n + 1,.cons r t => .cons r (zt.take n t)
theorem zt.drop : ∀ {xs : List V} {us : List Value} (n : Nat),zt xs us → zt (xs.drop n) (us.drop n)
 | _,_,0,r => r
 | _,_,_ + 1,.nil => .nil
 | _,_,n + 1,.cons _ t => zt.drop n t
def zgQ : Option V → Option Value → Prop
 | some v,some u => RelV v u
 | none,none => True
 | _,_ => False
def KV {κ : Type} : List (κ × V) → List (κ × Value) → Prop:=Paired fun (p : κ × V) (q : κ × Value) => p.1 = q.1 ∧ RelV p.2 q.2
def kV : Key → V
 | .inl i => .int i
 | .inr x => .str x
inductive HO where
 | lst (xs : List V)
 | tup (xs : List V)
 | dK (kvs : List (Key × V)) | dT (kvs : List (List Key × V))
 | set (S : Int → Bool) (n : Nat)
 | ins (C dx : Addr) (fs : List (Str × V))
 | own (x : Addr)
 | xd (fs : List (Str × V))
 | met (f x : Addr)
 | rng (lo hi : Int)
 | frz (o : Obj) (u : HO)
 | tbl (ps : Array Value)
 | ext (φ : Heap → Prop)
abbrev Hp:=Addr → Option HO
def upd (H : Hp) (a : Addr) (o : HO) : Hp:=fun b => if b = a then some o else H b
theorem zc {H : Hp} {a : Addr} {o : HO} : upd H a o a = some o:=by unfold upd; rw [if_pos rfl]
theorem zk {H : Hp} {a b : Addr} {o : HO} (h : b ≠ a) : upd H a o b = H b:=by unfold upd; rw [if_neg h]
theorem zo {H : Hp} {a b : Addr} {o : HO} (h : H a = some o) (h' : H b = none) : a ≠ b:=by
 intro e; subst e; rw [h] at h'; cases h'
section
variable (P : Program) (w : World)
def zV (H : Hp) (h : Heap) (a : Addr) : HO → Prop
 | .lst xs => xs.length ≤ sizeLine ∧ ∃ (its : List Value) (n : Nat),zt xs its ∧ h.get? a = some { cls:=.type "list",data:=.seq its.toArray n }
 | .tup xs => xs.length ≤ sizeLine ∧ ∃ its : List Value,zt xs its ∧ IsTup h a its.toArray
 | .dK kvs => kvs.length ≤ sizeLine ∧ (a == sysModules) = false ∧ ∃ vs,KV kvs vs ∧ h.DictOf (zeb P w) a vs
 | .dT kvs => kvs.length ≤ sizeLine ∧ (a == sysModules) = false ∧ ∃ xs : List (List Key × Addr × Value),
   Paired (fun (p : List Key × V) (q : List Key × Addr × Value) => p.1 = q.1 ∧ H q.2.1 = some (.tup (p.1.map kV)) ∧ RelV p.2 q.2.2) kvs xs ∧
   ∃ o es ep,h.get? a = some o ∧ o.ExactDict ∧ o.data = .dict es ep ∧ es.toList = xs.map (entryOfKey (tupleKind (zeb P w))) ∧ (xs.map (·.1)).Nodup
 | .set S n => h.SetOf (intKind P w) a S n
 | .ins C dx fs => H dx = some (.own a) ∧ fs.length ≤ 1000 ∧ dx ≠ a ∧ h.get? a = some (PySem.W.instObj C dx) ∧
   ∃ mA,h.Ns1 dx mA ∧ (∀ f,zgQ (fs.lookup f) (mA f)) ∧ PySem.Within mA (fs.map (·.1))
 | .own _ => ∃ o,h.get? a = some o
 | .xd fs => ∃ mA,h.Ns1 a mA ∧ ∀ f,zgQ (fs.lookup f) (mA f)
 | .rng lo hi => ∃ t u v,h.get? a = some { cls:=.type "range",data:=.fields #[.int lo t,.int hi u,.int 1 v] }
 | .frz o u => h.get? a = some o ∧ zV H h a u
 | .tbl ps => h.get? a = some { cls:=.none,data:=.fields ps }
 | .met f x => h.get? a = some (PySem.W.methodObj (.ref f) (.ref x))
 | .ext φ => φ h ∧ (∃ o,h.get? a = some o) ∧ ∀ h1 h2 : Heap,φ h1 → (∀ o,h1.get? a = some o → h2.get? a = some o) → φ h2
def HOk (H : Hp) (h : Heap) : Prop:=∀ a o,H a = some o → zV P w H h a o
end
section
variable {P : Program} {w : World} {H H' : Hp} {h h' : Heap} {a : Addr} {o : HO}
theorem zV.lt (x : zV P w H h a o) : a < h.objs.size:=by
 cases o with
 | lst xs => obtain ⟨_,_,_,_,e⟩:=x; exact Heap.lt_size e
 | tup xs => obtain ⟨_,_,_,p⟩:=x; exact p.lt
 | dK kvs => obtain ⟨_,_,_,_,o,_,_,e,_⟩:=x; exact Heap.lt_size e
 | dT kvs => obtain ⟨_,_,_,_,o,_,_,e,_⟩:=x; exact Heap.lt_size e
 | set S n => obtain ⟨o,_,_,_,e,_⟩:=x; exact Heap.lt_size e
 | ins C dx fs => obtain ⟨_,_,_,e,_⟩:=x; exact Heap.lt_size e
 | own y => obtain ⟨_,e⟩:=x; exact Heap.lt_size e
 | xd fs => obtain ⟨_,⟨_,_,_,e,_⟩,_⟩:=x; exact Heap.lt_size e
 | rng lo hi => obtain ⟨_,_,_,e⟩:=x; exact Heap.lt_size e
 | frz ob u => obtain ⟨e,_⟩:=x; exact Heap.lt_size e
 | tbl ps => exact Heap.lt_size (show h.get? a = some _ from x)
 | met f y => exact Heap.lt_size (show h.get? a = some _ from x)
 | ext φ => obtain ⟨_,⟨_,e⟩,_⟩:=x; exact Heap.lt_size e
theorem Paired.mapP {α β : Type} {F G : α → β → Prop} : ∀ {l₁ : List α} {l₂ : List β},Paired F l₁ l₂ → (∀ a b,F a b → G a b) → Paired G l₁ l₂
 | _,_,.nil,_ => .nil
 | _,_,.cons r t,f => .cons (f _ _ r) (Paired.mapP t f)
theorem zV.stay (x : zV P w H h a o) (k : ∀ b u,(b = a ∨ H b = some (.own a)) → h.get? b = some u → h'.get? b = some u)
  (ho : ∀ b,H b = some (.own a) → H' b = some (.own a)) (ht : ∀ b xs,H b = some (.tup xs) → H' b = some (.tup xs)) : zV P w H' h' a o:=by
 induction o with
 | lst xs => obtain ⟨z,its,n,r,e⟩:=x; exact ⟨z,its,n,r,k _ _ (.inl rfl) e⟩
 | tup xs => obtain ⟨z,its,r,ob,e,c⟩:=x; exact ⟨z,its,r,ob,k _ _ (.inl rfl) e,c⟩
 | dK kvs => obtain ⟨z,y,vs,r,ob,es,ep,e,c⟩:=x; exact ⟨z,y,vs,r,ob,es,ep,k _ _ (.inl rfl) e,c⟩
 | dT kvs =>
  obtain ⟨z,y,xs,r,ob,es,ep,e,c⟩:=x
  exact ⟨z,y,xs,Paired.mapP r fun p q z => ⟨z.1,ht _ _ z.2.1,z.2.2⟩,ob,es,ep,k _ _ (.inl rfl) e,c⟩
 | set S n => obtain ⟨ob,es,ep,t,e,c⟩:=x; exact ⟨ob,es,ep,t,k _ _ (.inl rfl) e,c⟩
 | ins C dx fs =>
  obtain ⟨d,z,ne,e,mA,⟨od,es,ep,e2,c⟩,r⟩:=x
  exact ⟨ho _ d,z,ne,k _ _ (.inl rfl) e,mA,⟨od,es,ep,k _ _ (.inr d) e2,c⟩,r⟩
 | own y => obtain ⟨ob,e⟩:=x; exact ⟨ob,k _ _ (.inl rfl) e⟩
 | xd fs => obtain ⟨mA,⟨od,es,ep,e,c⟩,r⟩:=x; exact ⟨mA,⟨od,es,ep,k _ _ (.inl rfl) e,c⟩,r⟩
 | rng lo hi => obtain ⟨t,u,v,e⟩:=x; exact ⟨t,u,v,k _ _ (.inl rfl) e⟩
 | frz ob u ih => obtain ⟨e,q⟩:=x; exact ⟨k _ _ (.inl rfl) e,ih q⟩
 | tbl ps =>
  have e : h.get? a = some { cls:=.none,data:=.fields ps }:=x
  show h'.get? a = some { cls:=.none,data:=.fields ps }
  exact k a _ (.inl rfl) e
 | met f y =>
  have e : h.get? a = some (PySem.W.methodObj (.ref f) (.ref y)):=x
  show h'.get? a = some (PySem.W.methodObj (.ref f) (.ref y))
  exact k a _ (.inl rfl) e
 | ext φ => obtain ⟨p,⟨o,e⟩,st⟩:=x; exact ⟨st _ _ p fun o q => k _ _ (.inl rfl) q,⟨o,k _ _ (.inl rfl) e⟩,st⟩
theorem HOk.lt (x : HOk P w H h) (e : H a = some o) : a < h.objs.size:=(x a o e).lt
theorem HOk.fresh (x : HOk P w H h) (e : h.objs.size ≤ a) : H a = none:=by
 cases q : H a with
 | none => rfl
 | some u => exact absurd (Nat.lt_of_lt_of_le (x.lt q) e) (Nat.lt_irrefl _)
theorem HOk.kept (x : HOk P w H h) (k : ∀ b u,h.get? b = some u → h'.get? b = some u) : HOk P w H h':=fun a o e =>
 (x a o e).stay (fun b u _ q => k b u q) (fun _ q => q) fun _ _ q => q
theorem HOk.laid (x : HOk P w H h) (k : ∀ b u,h.get? b = some u → h'.get? b = some u) (hp : h.objs.size ≤ a) (new : zV P w (upd H a o) h' a o) : HOk P w (upd H a o) h':=fun b u e => by
 have hn:=x.fresh hp
 by_cases hb : b = a
 ·subst hb; rw [zc] at e; cases e; exact new
 ·rw [zk hb] at e
  exact (x b u e).stay (fun c v _ q => k c v q) (fun c q => by rw [zk (zo q hn)]; exact q) fun c xs q => by rw [zk (zo q hn)]; exact q
end
def Rd (H : Hp) (a : Addr) (u : HO) : Prop:=H a = some u ∨ ∃ o,H a = some (.frz o u)
theorem Rd.ok {P : Program} {w : World} {H : Hp} {h : Heap} {a : Addr} {u : HO} (r : Rd H a u) (x : HOk P w H h) : zV P w H h a u:=by
 rcases r with r | ⟨o,r⟩
 ·exact x a u r
 ·obtain ⟨_,q⟩:=x a _ r
  exact q
def Mut : Option HO → Prop
 | some (.lst _) => True
 | some (.dK _) => True
 | some (.dT _) => True
 | some (.set _ _) => True
 | some (.ins _ _ _) => True
 | some (.ext _) => True
 | _ => False
section
variable {P : Program} {w : World} {H : Hp} {h h' : Heap} {x e : Addr} {o' : HO}
theorem HOk.write (ok : HOk P w H h) (mu : Mut (H x)) (he : e = x ∨ H e = some (.own x)) (k : ∀ b u,b ≠ e → h.get? b = some u → h'.get? b = some u) (heo : ∃ u,h'.get? e = some u)
  (new : zV P w (upd H x o') h' x o') : HOk P w (upd H x o') h':=fun b u q => by
 have nown : ∀ c y,H c = some (.own y) → c ≠ x:=fun c y r z => by subst z; rw [r] at mu; exact mu
 have ntup : ∀ c xs,H c = some (.tup xs) → c ≠ x:=fun c xs r z => by subst z; rw [r] at mu; exact mu
 by_cases hb : b = x
 ·subst hb; rw [zc] at q; cases q; exact new
 ·rw [zk hb] at q
  by_cases hbe : b = e
  ·have q' : H b = some (.own x):=by
    rcases he with z | z
    ·exact absurd (hbe.trans z) hb
    ·rw [hbe]; exact z
   rw [q] at q'; cases q'
   obtain ⟨v,hv⟩:=heo
   exact ⟨v,by rw [hbe]; exact hv⟩
  ·refine (ok b u q).stay (fun c v hc r => k c v ?_ r) (fun c r => by rw [zk (nown c b r)]; exact r) fun c xs r => by rw [zk (ntup c xs r)]; exact r
   rcases hc with rfl | hc
   ·exact hbe
   ·rintro rfl
    rcases he with z | z
    ·exact nown c b hc z
    ·rw [hc] at z; cases z; exact hb rfl
end
structure Un (fs ex : List Addr) (H H' : Hp) (h h' : Heap) : Prop where
 keep : ∀ b o,h.get? b = some o → H b = none → b ∉ fs → b ∉ ex → h'.get? b = some o
 slot : ∀ b o,h.get? b = some o → H b = none → b ∈ fs → b ∉ ex → ∃ sl,h'.get? b = some { o with slots:=sl }
 free : ∀ b o,h.get? b = some o → H b = none → b ∉ ex → H' b = none
 there : ∀ b o,h.get? b = some o → b ∉ ex → ∃ o',h'.get? b = some o'
 tups : ∀ b xs,H b = some (.tup xs) → H' b = some (.tup xs)
 frzs : ∀ b o u,H b = some (.frz o u) → H' b = some (.frz o u)
 tbls : ∀ b ps,H b = some (.tbl ps) → ∃ more,H' b = some (.tbl (ps ++ more))
section
variable {fs fs' ex ex' : List Addr} {H H1 H2 : Hp} {h h1 h2 h' : Heap} {a x e : Addr} {o : HO}
theorem Un.any (u : Un fs ex H H1 h h1) {b : Addr} {ob : Obj} (q : h.get? b = some ob) (n : H b = none) (hx : b ∉ ex) : ∃ sl,h1.get? b = some { ob with slots:=sl }:=by
 by_cases hb : b ∈ fs
 ·exact u.slot b ob q n hb hx
 ·exact ⟨ob.slots,u.keep b ob q n hb hx⟩
theorem Un.kept (k : ∀ b u,h.get? b = some u → h'.get? b = some u) : Un fs ex H H h h' :=
 ⟨fun b ob q _ _ _ => k b ob q,fun b ob q _ _ _ => ⟨ob.slots,k b ob q⟩,fun _ _ _ n _ => n,fun b ob q _ => ⟨ob,k b ob q⟩,fun _ _ q => q,fun _ _ _ q => q,fun _ ps q => ⟨#[],by rw [q]; simp⟩⟩
theorem Un.refl : Un fs ex H H h h:=Un.kept fun _ _ q => q
theorem Un.laid (k : ∀ b u,h.get? b = some u → h'.get? b = some u) (hp : h.objs.size ≤ a) (hn : H a = none) : Un fs ex H (upd H a o) h h' where
 keep:=fun b u q _ _ _ => k b u q
 slot:=fun b u q _ _ _ => ⟨u.slots,k b u q⟩
 free:=fun b u q n _ => by rw [zk (Nat.ne_of_lt (Nat.lt_of_lt_of_le (Heap.lt_size q) hp))]; exact n
 there:=fun b u q _ => ⟨u,k b u q⟩
 tups:=fun b xs q => by rw [zk (zo q hn)]; exact q
 frzs:=fun b u xs q => by rw [zk (zo q hn)]; exact q
 tbls:=fun b ps q => ⟨#[],by rw [zk (zo q hn),q]; simp⟩
theorem Un.write (mu : Mut (H x)) (he : e = x ∨ H e = some (.own x)) (k : ∀ b u,b ≠ e → h.get? b = some u → h'.get? b = some u) (heo : ∃ u,h'.get? e = some u) : Un fs ex H (upd H x o) h h':=by
 have hx : ∀ b,H b = none → b ≠ x:=fun b n z => by subst z; rw [n] at mu; exact mu
 have hb : ∀ b,H b = none → b ≠ e:=fun b n z => by
  subst z
  rcases he with r | r
  ·exact hx b n r
  ·rw [n] at r; cases r
 have hm : ∀ b u,H b = some u → ¬ Mut (some u) → b ≠ x:=fun b u q nm z => by subst z; rw [q] at mu; exact nm mu
 refine ⟨fun b u q n _ _ => k b u (hb b n) q,fun b u q n _ _ => ⟨u.slots,k b u (hb b n) q⟩,fun b u q n _ => by rw [zk (hx b n)]; exact n,fun b u q _ => ?_,
  fun b xs q => by rw [zk (hm b _ q fun z => z)]; exact q,fun b u xs q => by rw [zk (hm b _ q fun z => z)]; exact q,fun b ps q => ⟨#[],by rw [zk (hm b _ q fun z => z),q]; simp⟩⟩
 by_cases hbe : b = e
 ·subst hbe; exact heo
 ·exact ⟨u,k b u hbe q⟩
end
def trk (h : Heap) (H : Hp) : List Addr:=(List.range h.objs.size).filter fun a => (H a).isSome
def zcB (h : Heap) (H : Hp) : Heap:=PySem.W.hideAll h (trk h H)
theorem zez (h : Heap) (H : Hp) : (zcB h H).objs.size = h.objs.size:=PySem.W.hideAll_size _ _
theorem ze6 {h : Heap} {H : Hp} {b : Addr} {o : Obj} (e : h.get? b = some o) (n : H b = none) : (zcB h H).get? b = some o :=
 PySem.W.hideAll_get _ e fun hm => by
  have q : (H b).isSome = true:=(List.mem_filter.mp hm).2
  rw [n] at q; simp at q
theorem zfY {h : Heap} {H : Hp} {b : Addr} {o : Obj} (e : (zcB h H).get? b = some o) : h.get? b = some o ∧ H b = none:=by
 have e' : h.get? b = some o:=PySem.W.of_hideAll (trk h H) e
 refine ⟨e',?_⟩
 cases q : H b with
 | none => rfl
 | some x =>
  have hm : b ∈ trk h H:=List.mem_filter.mpr ⟨List.mem_range.mpr (Heap.lt_size e'),by simp [q]⟩
  have z : (zcB h H).get? b = none:=PySem.W.hideAll_none (trk h H) hm
  rw [z] at e; cases e
end L2
namespace L2
open PySem PySem.Spec PyProof.Rows
structure Mod (K : PySem.W.Frag) (mg : Str → Option Value) (base : Heap) : Prop where
 kin : K.In base
 glob : base.Ns mainGlobals mg
 blt : ∃ mb,base.Ns builtinsNs mb ∧ ∀ x : Str,x ≠ "__name__" → mb x = bootBuiltins x
 nolimit : base.NoLimit
structure Cx where
 prog : Program
 w : World
 K : PySem.W.Frag
 mg : Str → Option Value
 base : Heap
 A : Around
 N : List Str
 s₀ : Shared
 H₀ : Hp
 env : Env
 outer : List Env
 stack : List Env
 ex : List Addr
 fn : Str → Bool
 calm : Bool
 pn : List (Addr × Obj)
 xe : Value → Shared → Prop
def frs (l : List Env) : List Addr:=l.filterMap (·.frame)
abbrev Cx.fs (X : Cx) : List Addr:=frs X.outer
def Vis (sc : Scope) (x : Str) : Prop:=sc.names.lookup x = some .local ∨ sc.names.lookup x = some .cell ∨ sc.names.lookup x = some .free
def Loc (sc : Scope) (x : Str) : Prop:=sc.names.lookup x = some .local ∨ sc.names.lookup x = some .cell
def Look (env : Env) (h : Heap) (m : Str → Option Value) (x : Str) (u : Value) : Prop :=
 (env.kindOf x = some .local ∧ m x = some u) ∨ ((env.kindOf x = some .cell ∨ env.kindOf x = some .free) ∧ ∃ c,env.cells.lookup x = some c ∧ h.IsCell c (some u))
structure Cx.Ok (X : Cx) : Prop where
 mod : Mod X.K X.mg X.base
 kind : X.env.scope.kind = .function
 glob : X.env.globals = mainGlobals
 blt : X.env.builtins = builtinsNs
 above : X.s₀.heap.objs.size ≤ X.env.locals
 inj : ∀ x y c,X.env.cells.lookup x = some c → X.env.cells.lookup y = some c → x = y
 has : ∀ x,(X.env.kindOf x = some .cell ∨ X.env.kindOf x = some .free) → ∃ c,X.env.cells.lookup x = some c
 cab : ∀ x c,X.fn x = true → X.env.cells.lookup x = some c → X.s₀.heap.objs.size ≤ c
 hd : X.calm = true → X.A.handled = none
 frames : X.A.frames = some X.stack
 stk : X.stack = X.outer ∨ (X.stack = X.env :: X.outer ∧ X.env.frame = some X.env.locals)
 exf : ∀ b ∈ X.ex,b ≠ X.env.locals ∧ ∀ x c,X.env.cells.lookup x = some c → c ≠ b
 bs : ∀ b o,X.base.get? b = some o → X.s₀.heap.get? b = some o ∧ X.H₀ b = none
 bsz : X.base.objs.size ≤ X.s₀.heap.objs.size
 noex : ∀ b o,X.base.get? b = some o → b ∉ X.ex
 exfs : ∀ b ∈ X.ex,b ∉ X.fs
 funs : X.s₀.heap.FunFrames X.base X.outer
 frf : ∀ b ∈ X.fs,X.H₀ b = none
structure Inv (X : Cx) (pins : List (Addr × Obj)) (σ : List (Option V)) (H : Hp) (s : Shared) : Prop where
 ok : X.Ok
 os : s.os = X.s₀.os
 bare : AllBare s.gens
 base : Un X.fs X.ex X.H₀ H X.s₀.heap s.heap
 loc : ∃ m,s.heap.Ns X.env.locals m ∧ ∀ (i : Nat) (x : Str) (v : V),X.N[i]? = some x → σ[i]? = some (some v) → Vis X.env.scope x → ∃ u,RelV v u ∧ Look X.env s.heap m x u
 cell : ∀ x c,X.env.cells.lookup x = some c → ∃ v,s.heap.IsCell c v
 free : H X.env.locals = none
 freeC : ∀ x c,X.env.cells.lookup x = some c → H c = none
 pin : ∀ p ∈ X.pn ++ pins,s.heap.get? p.1 = some p.2 ∧ H p.1 = none ∧ p.1 ≠ X.env.locals ∧ p.1 ∉ X.fs ∧ ∀ v,p.2.data ≠ .cell v
 hok : HOk X.prog X.w H s.heap
 len : σ.length = X.N.length
section
variable {X : Cx} {pins : List (Addr × Obj)} {σ : List (Option V)} {H H' : Hp} {s : Shared} {h' : Heap}
theorem Cx.Ok.nofr (ok : X.Ok) {b : Addr} {o : Obj} (e : X.base.get? b = some o) : b ∉ X.fs:=fun hb => by
 have:=(ok.funs.mem hb).1
 rw [e] at this; cases this
theorem Inv.bs (I : Inv X pins σ H s) : ∀ b o,X.base.get? b = some o → s.heap.get? b = some o ∧ H b = none:=fun b o e =>
 ⟨I.base.keep b o (I.ok.bs b o e).1 (I.ok.bs b o e).2 (I.ok.nofr e) (I.ok.noex b o e),I.base.free b o (I.ok.bs b o e).1 (I.ok.bs b o e).2 (I.ok.noex b o e)⟩
theorem Inv.bk (I : Inv X pins σ H s) : ∀ b o,X.base.get? b = some o → s.heap.get? b = some o:=fun b o e => (I.bs b o e).1
theorem Inv.mod (I : Inv X pins σ H s) : Mod X.K X.mg X.base:=I.ok.mod
theorem Inv.kIn (I : Inv X pins σ H s) : X.K.In s.heap:=I.ok.mod.kin.keeps I.bk
theorem Inv.lt (I : Inv X pins σ H s) : X.env.locals < s.heap.objs.size:=let ⟨_,hn,_⟩:=I.loc; hn.lt
theorem Inv.sz (I : Inv X pins σ H s) : X.s₀.heap.objs.size ≤ s.heap.objs.size:=Nat.le_trans I.ok.above (Nat.le_of_lt I.lt)
theorem Inv.nofs (I : Inv X pins σ H s) {a : Addr} (h : s.heap.objs.size ≤ a) : a ∉ X.fs:=fun hb => by
 obtain ⟨_,o,ho,_⟩:=I.ok.funs.mem hb
 exact absurd (Nat.lt_of_lt_of_le (Heap.lt_size ho) (Nat.le_trans I.sz h)) (Nat.lt_irrefl _)
theorem Inv.cne (I : Inv X pins σ H s) : ∀ x c,X.env.cells.lookup x = some c → c ≠ X.env.locals:=fun x c e z => by
 obtain ⟨v,o,ho,hd⟩:=I.cell x c e
 obtain ⟨m,⟨o',es,ep,ho',hd',_⟩,_⟩:=I.loc
 rw [z,ho'] at ho; cases ho; rw [hd'] at hd; cases hd
theorem Inv.funs (I : Inv X pins σ H s) : s.heap.FunFrames X.base X.outer:=by
 have all : ∀ (l : List Env),(∀ b ∈ frs l,b ∈ X.fs) → X.s₀.heap.FunFrames X.base l → s.heap.FunFrames X.base l:=by
  intro l
  induction l with
  | nil => intro _ _; trivial
  | cons env r ih =>
   intro hs hl
   obtain ⟨hk,⟨L,o,hf,hn,ho,hd⟩,hr⟩:=hl
   have hL : L ∈ X.fs:=hs L (by unfold frs; rw [List.filterMap_cons,hf]; exact List.mem_cons_self)
   obtain ⟨sl,e⟩:=I.base.slot L o ho (I.ok.frf L hL) hL fun z => I.ok.exfs L z hL
   exact ⟨hk,⟨L,_,hf,hn,e,hd⟩,ih (fun b hb => hs b (by unfold frs; rw [List.filterMap_cons,hf]; exact List.mem_cons_of_mem _ hb)) hr⟩
 exact all X.outer (fun _ hb => hb) I.ok.funs
theorem Inv.stack (I : Inv X pins σ H s) : s.heap.FunFrames X.base X.stack:=by
 rcases I.ok.stk with e | ⟨e,hf⟩
 ·rw [e]; exact I.funs
 ·rw [e]
  obtain ⟨m,hn,_⟩:=I.loc
  refine .cons (by rw [I.ok.kind]; decide) hf hn ?_ I.funs
  exact Heap.get?_none_of_le (Nat.le_trans I.ok.bsz I.ok.above)
theorem Inv.stkSub (I : Inv X pins σ H s) : ∀ b ∈ frs X.stack,b ∈ X.env.locals :: X.fs:=fun b hb => by
 rcases I.ok.stk with e | ⟨e,hf⟩
 ·rw [e] at hb; exact List.mem_cons_of_mem _ hb
 ·rw [e] at hb
  unfold frs at hb
  rw [List.filterMap_cons,hf] at hb
  exact hb
theorem Inv.stkFree (I : Inv X pins σ H s) : ∀ b ∈ frs X.stack,H b = none:=fun b hb => by
 rcases List.mem_cons.mp (I.stkSub b hb) with e | hb
 ·rw [e]; exact I.free
 ·obtain ⟨_,o,ho,_⟩:=I.ok.funs.mem hb
  exact I.base.free b o ho (I.ok.frf b hb) fun z => I.ok.exfs b z hb
theorem Inv.step {g' : Array GenState} {t' : Nat} {d' : Drawn} {ch : List Addr} (I : Inv X pins σ H s)
  (hch : ∀ b ∈ ch,(b ∈ X.ex ∨ X.s₀.heap.objs.size ≤ b) ∧ b ≠ X.env.locals ∧ (∀ x c,X.env.cells.lookup x = some c → c ≠ b) ∧ ∀ p ∈ X.pn ++ pins,p.1 ≠ b)
  (keep : ∀ b o,b ≠ X.env.locals → b ∉ X.fs → b ∉ ch → s.heap.get? b = some o → H b = none → h'.get? b = some o)
  (slot : ∀ b o,b ≠ X.env.locals → b ∈ X.fs → b ∉ ch → s.heap.get? b = some o → H b = none → ∃ sl,h'.get? b = some { o with slots:=sl }) (free : ∀ b o,b ∉ ch → s.heap.get? b = some o → H b = none → H' b = none)
  (there : ∀ b o,b ∉ ch → s.heap.get? b = some o → ∃ o',h'.get? b = some o')
  (tups : ∀ b xs,H b = some (.tup xs) → H' b = some (.tup xs)) (frzs : ∀ b o u,H b = some (.frz o u) → H' b = some (.frz o u)) (tbls : ∀ b ps,H b = some (.tbl ps) → ∃ more,H' b = some (.tbl (ps ++ more)))
  (ns : ∀ m,s.heap.Ns X.env.locals m → h'.Ns X.env.locals m) (hok : HOk X.prog X.w H' h') (hg : AllBare g') :
  Inv X pins σ H' { s with heap:=h',gens:=g',drawn:=d',toks:=t' }:=by
 have neL : ∀ b o,X.s₀.heap.get? b = some o → b ≠ X.env.locals:=fun b o e => Nat.ne_of_lt (Nat.lt_of_lt_of_le (Heap.lt_size e) I.ok.above)
 have neC : ∀ b o,X.s₀.heap.get? b = some o → b ∉ X.ex → b ∉ ch:=fun b o e hx hb => by
  rcases (hch b hb).1 with z | z
  ·exact hx z
  ·exact absurd (Nat.lt_of_lt_of_le (Heap.lt_size e) z) (Nat.lt_irrefl _)
 have cellK : ∀ x c,X.env.cells.lookup x = some c → ∀ v,s.heap.IsCell c v → h'.IsCell c v:=fun x c e v ⟨o,ho,hd⟩ => by
  have nch : c ∉ ch:=fun z => (hch c z).2.2.1 x c e rfl
  by_cases hc : c ∈ X.fs
  ·obtain ⟨sl,q⟩:=slot c o (I.cne x c e) hc nch ho (I.freeC x c e)
   exact ⟨_,q,hd⟩
  ·exact ⟨o,keep c o (I.cne x c e) hc nch ho (I.freeC x c e),hd⟩
 refine ⟨I.ok,I.os,hg,⟨fun b o e n hb hx => ?_,fun b o e n hb hx => ?_,fun b o e n hx => ?_,fun b o e hx => ?_,fun b xs e => tups b xs (I.base.tups b xs e),fun b o xs e => frzs b o xs (I.base.frzs b o xs e),fun b ps e => ?_⟩,?_,fun x c e => ?_,?_,fun x c e => ?_,fun p hp => ?_,hok,I.len⟩
 ·exact keep b o (neL b o e) hb (neC b o e hx) (I.base.keep b o e n hb hx) (I.base.free b o e n hx)
 ·obtain ⟨sl,e1⟩:=I.base.slot b o e n hb hx
  obtain ⟨sl',e2⟩:=slot b _ (neL b o e) hb (neC b o e hx) e1 (I.base.free b o e n hx)
  exact ⟨sl',e2⟩
 ·obtain ⟨o',e1⟩:=I.base.there b o e hx
  exact free b o' (neC b o e hx) e1 (I.base.free b o e n hx)
 ·obtain ⟨o',e1⟩:=I.base.there b o e hx
  exact there b o' (neC b o e hx) e1
 ·obtain ⟨m1,e1⟩:=I.base.tbls b ps e
  obtain ⟨m2,e2⟩:=tbls b _ e1
  exact ⟨m1 ++ m2,by rw [e2,Array.append_assoc]⟩
 ·obtain ⟨m,hn,hl⟩:=I.loc
  refine ⟨m,ns m hn,fun i x v e1 e2 e3 => ?_⟩
  obtain ⟨u,r,l⟩:=hl i x v e1 e2 e3
  refine ⟨u,r,?_⟩
  rcases l with l | ⟨k,c,e,z⟩
  ·exact .inl l
  ·exact .inr ⟨k,c,e,cellK x c e _ z⟩
 ·obtain ⟨v,z⟩:=I.cell x c e
  exact ⟨v,cellK x c e v z⟩
 ·obtain ⟨m,⟨o,_,_,ho,_⟩,_⟩:=I.loc
  exact free _ o (fun z => (hch _ z).2.1 rfl) ho I.free
 ·obtain ⟨v,o,ho,hd⟩:=I.cell x c e
  exact free c o (fun z => (hch c z).2.2.1 x c e rfl) ho (I.freeC x c e)
 ·obtain ⟨e,n,ne,nf,d⟩:=I.pin p hp
  have nch : p.1 ∉ ch:=fun z => (hch p.1 z).2.2.2 p hp rfl
  exact ⟨keep p.1 p.2 ne nf nch e n,free p.1 p.2 nch e n,ne,nf,d⟩
theorem Inv.un {t' : Nat} (I : Inv X pins σ H s) (u : Un X.fs [] H H' s.heap h') (hok : HOk X.prog X.w H' h') : Inv X pins σ H' { s with heap:=h',toks:=t' }:=by
 obtain ⟨m,⟨o,es,ep,ho,r⟩,_⟩:=id I.loc
 obtain ⟨sl,hL⟩:=u.any ho I.free (by simp)
 exact I.step (g':=s.gens) (d':=s.drawn) (ch:=[]) (fun _ z => nomatch z) (fun b o _ hb _ e n => u.keep b o e n hb (by simp)) (fun b o _ hb _ e n => u.slot b o e n hb (by simp)) (fun b o _ e n => u.free b o e n (by simp)) (fun b o _ e => u.there b o e (by simp)) u.tups u.frzs u.tbls (fun m' hm => by
  obtain ⟨o',es',ep',ho',r'⟩:=hm
  rw [ho] at ho'; cases ho'
  exact ⟨_,es',ep',hL,r'⟩) hok I.bare
theorem Inv.call {g' : Array GenState} {t' : Nat} {d' : Drawn} {ch : List Addr} (I : Inv X pins σ H s) (u : Un (frs X.stack) ch H H' s.heap h') (hok : HOk X.prog X.w H' h') (hg : AllBare g')
  (hch : ∀ b ∈ ch,(b ∈ X.ex ∨ X.s₀.heap.objs.size ≤ b) ∧ b ≠ X.env.locals ∧ (∀ x c,X.env.cells.lookup x = some c → c ≠ b) ∧ ∀ p ∈ X.pn ++ pins,p.1 ≠ b) :
  Inv X pins σ H' { s with heap:=h',gens:=g',drawn:=d',toks:=t' }:=by
 obtain ⟨m,⟨o,es,ep,ho,r⟩,_⟩:=id I.loc
 obtain ⟨sl,hL⟩:=u.any ho I.free fun z => (hch _ z).2.1 rfl
 exact I.step (ch:=ch) hch (fun b o hL hb hc e n => u.keep b o e n (fun z => (List.mem_cons.mp (I.stkSub b z)).elim hL hb) hc) (fun b o _ _ hc e n => u.any e n hc) (fun b o hc e n => u.free b o e n hc) (fun b o hc e => u.there b o e hc) u.tups u.frzs u.tbls (fun m' hm => by
  obtain ⟨o',es',ep',ho',r'⟩:=hm
  rw [ho] at ho'; cases ho'
  exact ⟨_,es',ep',hL,r'⟩) hok hg
theorem Inv.turned {t' : Nat} {it : Addr} (I : Inv X pins σ H s) (k : ∀ b o,b ≠ it → s.heap.get? b = some o → h'.get? b = some o) (hn : H it = none) (hL : it ≠ X.env.locals)
  (h1 : it ∈ X.ex ∨ X.s₀.heap.objs.size ≤ it) (h2 : ∀ x c,X.env.cells.lookup x = some c → c ≠ it) (h3 : ∀ p ∈ X.pn ++ pins,p.1 ≠ it) : Inv X pins σ H { s with heap:=h',toks:=t' }:=by
 have nit : ∀ b u,H b = some u → b ≠ it:=fun b u e z => by rw [z,hn] at e; cases e
 refine I.step (g':=s.gens) (d':=s.drawn) (ch:=[it]) (fun b hb => ?_) (fun b o _ _ hc e _ => k b o (fun z => hc (by simp [z])) e) (fun b o _ _ hc e _ => ⟨o.slots,k b o (fun z => hc (by simp [z])) e⟩) (fun _ _ _ _ n => n)
  (fun b o hc e => ⟨o,k b o (fun z => hc (by simp [z])) e⟩) (fun _ _ e => e) (fun _ _ _ e => e) (fun b ps e => ⟨#[],by rw [e]; simp⟩) (fun m hm => ?_) (fun b u e => ?_) I.bare
 ·have e : b = it:=by simpa using hb
  subst e
  exact ⟨h1,hL,h2,h3⟩
 ·obtain ⟨o,es,ep,ho,r⟩:=hm
  exact ⟨o,es,ep,k _ o (Ne.symm hL) ho,r⟩
 ·refine (I.hok b u e).stay (fun c v hc q => k c v ?_ q) (fun _ q => q) fun _ _ q => q
  rcases hc with z | z
  ·rw [z]; exact nit b u e
  ·exact nit c _ z
theorem Inv.tok (I : Inv X pins σ H s) (t : Nat) : Inv X pins σ H { s with toks:=t }:=I.un (h':=s.heap) (t':=t) Un.refl I.hok
theorem Inv.kept {t' : Nat} (I : Inv X pins σ H s) (k : ∀ b u,s.heap.get? b = some u → h'.get? b = some u) : Inv X pins σ H { s with heap:=h',toks:=t' }:=I.un (Un.kept k) (I.hok.kept k)
theorem Inv.laid {a : Addr} {o : HO} {t' : Nat} (I : Inv X pins σ H s) (k : ∀ b u,s.heap.get? b = some u → h'.get? b = some u) (hp : s.heap.objs.size ≤ a) (new : zV X.prog X.w (upd H a o) h' a o) :
  Inv X pins σ (upd H a o) { s with heap:=h',toks:=t' }:=I.un (Un.laid k hp (I.hok.fresh hp)) (I.hok.laid k hp new)
theorem Inv.write {x e : Addr} {o : HO} {t' : Nat} (I : Inv X pins σ H s) (mu : Mut (H x)) (he : e = x ∨ H e = some (.own x)) (k : ∀ b u,b ≠ e → s.heap.get? b = some u → h'.get? b = some u) (heo : ∃ u,h'.get? e = some u)
  (new : zV X.prog X.w (upd H x o) h' x o) : Inv X pins σ (upd H x o) { s with heap:=h',toks:=t' }:=I.un (Un.write mu he k heo) (I.hok.write mu he k heo new)
theorem Inv.weak {σ' : List (Option V)} (I : Inv X pins σ H s) (hl : σ'.length = σ.length) (w : ∀ (i : Nat) v,σ'[i]? = some (some v) → σ[i]? = some (some v)) : Inv X pins σ' H s :=
 ⟨I.ok,I.os,I.bare,I.base,let ⟨m,hn,hl'⟩:=I.loc; ⟨m,hn,fun i x v e1 e2 e3 => hl' i x v e1 (w i v e2) e3⟩,I.cell,I.free,I.freeC,I.pin,I.hok,hl.trans I.len⟩
theorem Inv.pins_of {pins' : List (Addr × Obj)} (I : Inv X pins σ H s) (h : ∀ p ∈ pins',s.heap.get? p.1 = some p.2 ∧ H p.1 = none ∧ p.1 ≠ X.env.locals ∧ p.1 ∉ X.fs ∧ ∀ v,p.2.data ≠ .cell v) : Inv X pins' σ H s :=
 ⟨I.ok,I.os,I.bare,I.base,I.loc,I.cell,I.free,I.freeC,fun p hp => (List.mem_append.mp hp).elim (fun z => I.pin p (List.mem_append_left _ z)) (h p),I.hok,I.len⟩
theorem zc0 {N : List Str} (hN : N.Nodup) {i j : Nat} {x : Str} (a : N[i]? = some x) (b : N[j]? = some x) : i = j:=by
 obtain ⟨h1,e1⟩:=List.getElem?_eq_some_iff.mp a
 obtain ⟨h2,e2⟩:=List.getElem?_eq_some_iff.mp b
 exact (List.getElem_inj hN).mp (e1.trans e2.symm)
theorem zeA {M : Model} {A : Around} {E : Value → Shared → Prop} {i : Nat} {x : Str} {v : V} {u : Value} {Q : Unit → Shared → Prop} (I : Inv X pins σ H s) (hN : X.N.Nodup) (hi : X.N[i]? = some x) (hx : Loc X.env.scope x) (r : RelV v u)
  (h : ∀ s',Inv X pins (σ.set i (some v)) H s' → (∃ a,Heap.SameBut a s.heap s'.heap ∧ (a = X.env.locals ∨ X.env.cells.lookup x = some a)) → Q () s') (hf : X.fn x = true ∨ X.env.scope.names.lookup x = some .local:=by first | exact .inl rfl | exact .inr rfl | assumption) : wpAny M A (storeName X.env x u) Q E s:=by
 obtain ⟨m,hn,hl⟩:=id I.loc
 have hcls : (X.env.scope.kind == .class || (X.env.scope.kind == .module && X.env.locals != X.env.globals)) = false:=by rw [I.ok.kind]; rfl
 have hiσ : i < σ.length:=by rw [I.len]; exact (List.getElem?_eq_some_iff.mp hi).1
 have cne:=I.cne
 have tracked : ∀ {a : Addr} {h' : Heap},(∃ o,s.heap.get? a = some o ∧ H a = none) → Heap.SameBut a s.heap h' → HOk X.prog X.w H h':=fun {a h'} ha hs b ob e => by
  obtain ⟨_,_,hfree⟩:=ha
  refine (I.hok b ob e).stay (fun c w' hc q => (hs.2 c ?_).trans q) (fun _ q => q) fun _ _ q => q
  rintro rfl
  rcases hc with rfl | hc
  ·rw [hfree] at e; cases e
  ·rw [hfree] at hc; cases hc
 rcases hx with hk | hk
 ·refine wpAny_storeName_local hk hn (fun h' hn' hs => ?_) hcls
  obtain ⟨oL,_,_,hoL,_⟩:=id hn
  refine h _ ⟨I.ok,I.os,I.bare,⟨fun b o e n hb hx => ?_,fun b o e n hb hx => ?_,I.base.free,fun b o e hx => ?_,I.base.tups,I.base.frzs,I.base.tbls⟩,⟨_,hn',fun j y v' e1 e2 e3 => ?_⟩,fun y c e => ?_,I.free,I.freeC,fun p hp => ?_,tracked ⟨oL,hoL,I.free⟩ hs,by simpa using I.len⟩ ⟨_,hs,.inl rfl⟩
  ·exact (hs.2 b (Nat.ne_of_lt (Nat.lt_of_lt_of_le (Heap.lt_size e) I.ok.above))).trans (I.base.keep b o e n hb hx)
  ·obtain ⟨sl,e1⟩:=I.base.slot b o e n hb hx
   exact ⟨sl,(hs.2 b (Nat.ne_of_lt (Nat.lt_of_lt_of_le (Heap.lt_size e) I.ok.above))).trans e1⟩
  ·obtain ⟨o',e1⟩:=I.base.there b o e hx
   exact ⟨o',(hs.2 b (Nat.ne_of_lt (Nat.lt_of_lt_of_le (Heap.lt_size e) I.ok.above))).trans e1⟩
  ·by_cases hj : j = i
   ·subst hj
    rw [hi] at e1; cases e1
    rw [List.getElem?_set_self hiσ] at e2
    cases e2
    exact ⟨u,r,.inl ⟨hk,by simp⟩⟩
   ·rw [List.getElem?_set_ne (Ne.symm hj)] at e2
    obtain ⟨u',r',q⟩:=hl j y v' e1 e2 e3
    refine ⟨u',r',?_⟩
    rcases q with ⟨k,e⟩ | ⟨k,c,e,z⟩
    ·refine .inl ⟨k,?_⟩
     have : y ≠ x:=fun e => hj (zc0 hN e1 (e ▸ hi))
     simp [this,e]
    ·exact .inr ⟨k,c,e,z.sameBut hs (cne y c e)⟩
  ·obtain ⟨w',z⟩:=I.cell y c e
   exact ⟨w',z.sameBut hs (cne y c e)⟩
  ·obtain ⟨e,n,ne,nf,d⟩:=I.pin p hp
   exact ⟨(hs.2 p.1 ne).trans e,n,ne,nf,d⟩
 ·have hfn : X.fn x = true:=by
   rcases hf with z | z
   ·exact z
   ·rw [z] at hk; cases hk
  obtain ⟨c,hc⟩:=I.ok.has x (.inl hk)
  obtain ⟨w',z⟩:=I.cell x c hc
  refine wpAny_storeName_cell I.ok.kind hk hc z (fun h' hc' hs => ?_)
  obtain ⟨oc,hoc,hocd⟩:=id z
  refine h { s with heap:=h' } ⟨I.ok,I.os,I.bare,⟨fun b o e n hb hx => ?_,fun b o e n hb hx => ?_,I.base.free,fun b o e hx => ?_,I.base.tups,I.base.frzs,I.base.tbls⟩,⟨m,hn.sameBut hs (Ne.symm (cne x c hc)),fun j y v' e1 e2 e3 => ?_⟩,fun y c' e => ?_,I.free,I.freeC,fun p hp => ?_,tracked ⟨oc,hoc,I.freeC x c hc⟩ hs,by simpa using I.len⟩ ⟨c,hs,.inr hc⟩
  ·exact (hs.2 b (Nat.ne_of_lt (Nat.lt_of_lt_of_le (Heap.lt_size e) (I.ok.cab x c hfn hc)))).trans (I.base.keep b o e n hb hx)
  ·obtain ⟨sl,e1⟩:=I.base.slot b o e n hb hx
   exact ⟨sl,(hs.2 b (Nat.ne_of_lt (Nat.lt_of_lt_of_le (Heap.lt_size e) (I.ok.cab x c hfn hc)))).trans e1⟩
  ·obtain ⟨o',e1⟩:=I.base.there b o e hx
   exact ⟨o',(hs.2 b (Nat.ne_of_lt (Nat.lt_of_lt_of_le (Heap.lt_size e) (I.ok.cab x c hfn hc)))).trans e1⟩
  ·by_cases hj : j = i
   ·subst hj
    rw [hi] at e1; cases e1
    rw [List.getElem?_set_self hiσ] at e2
    cases e2
    exact ⟨u,r,.inr ⟨.inl hk,c,hc,hc'⟩⟩
   ·rw [List.getElem?_set_ne (Ne.symm hj)] at e2
    obtain ⟨u',r',q⟩:=hl j y v' e1 e2 e3
    refine ⟨u',r',?_⟩
    rcases q with q | ⟨k,c',e,z'⟩
    ·exact .inl q
    ·refine .inr ⟨k,c',e,z'.sameBut hs ?_⟩
     rintro rfl
     exact hj (zc0 hN e1 (I.ok.inj _ _ _ e hc ▸ hi))
  ·by_cases hcc : c' = c
   ·subst hcc; exact ⟨_,hc'⟩
   ·obtain ⟨w2,z2⟩:=I.cell y c' e
    exact ⟨w2,z2.sameBut hs hcc⟩
  ·obtain ⟨e,n,ne,nf,d⟩:=I.pin p hp
   refine ⟨(hs.2 p.1 ?_).trans e,n,ne,nf,d⟩
   intro q
   rw [q,hoc] at e
   have q' : oc = p.2:=Option.some.inj e
   exact d w' (by rw [← q']; exact hocd)
theorem zc1 {M : Model} {A : Around} {E : Value → Shared → Prop} {i : Nat} {x : Str} {v : V} {u : Value} {Q : Unit → Shared → Prop} (I : Inv X pins σ H s) (hN : X.N.Nodup) (hi : X.N[i]? = some x) (hx : Loc X.env.scope x) (r : RelV v u)
  (h : ∀ s',Inv X pins (σ.set i (some v)) H s' → Q () s') (hf : X.fn x = true ∨ X.env.scope.names.lookup x = some .local:=by first | exact .inl rfl | exact .inr rfl | assumption) : wpAny M A (storeName X.env x u) Q E s :=
 zeA I hN hi hx r (fun s' I' _ => h s' I') hf
theorem Inv.call' {s' : Shared} {ch : List Addr} (I : Inv X pins σ H s) (ho : s'.os = s.os) (u : Un (frs X.stack) ch H H' s.heap s'.heap) (hok : HOk X.prog X.w H' s'.heap) (hg : AllBare s'.gens)
  (hch : ∀ b ∈ ch,(b ∈ X.ex ∨ X.s₀.heap.objs.size ≤ b) ∧ b ≠ X.env.locals ∧ (∀ x c,X.env.cells.lookup x = some c → c ≠ b) ∧ ∀ p ∈ X.pn ++ pins,p.1 ≠ b) : Inv X pins σ H' s':=by
 obtain ⟨h',g',d',t',o'⟩:=s'
 have e : o' = s.os:=ho
 subst e
 exact I.call (g':=g') (t':=t') (d':=d') u hok hg hch
end
abbrev XK:=Value → Option Addr → Hp → Prop
abbrev St:=List (Option V)
abbrev VK:=V → Hp → Prop
abbrev TE:=St → Hp → VK → Prop
abbrev TT:=St → Hp → (Bool → Hp → Prop) → Prop
abbrev TA:=St → Hp → (List V → Hp → Prop) → Prop
structure Ends where
 nx : St → Hp → Prop
 rt : VK
 bk : St → Hp → Prop:=fun _ _ => False
 ct : St → Hp → Prop:=fun _ _ => False
abbrev TS:=Ends → St → Hp → Prop
def EP (X : Cx) (pins : List (Addr × Obj)) (σ : St) (Q : VK) (u : Value) (s' : Shared) : Prop:=∃ v H',Inv X pins σ H' s' ∧ RelV v u ∧ Q v H'
def TP (X : Cx) (pins : List (Addr × Obj)) (σ : St) (Q : Bool → Hp → Prop) (b : Bool) (s' : Shared) : Prop:=∃ H',Inv X pins σ H' s' ∧ Q b H'
def AP (X : Cx) (pins : List (Addr × Obj)) (σ : St) (Q : List V → Hp → Prop) (us : List Value) (s' : Shared) : Prop:=∃ vs H',Inv X pins σ H' s' ∧ zt vs us ∧ Q vs H'
def SP (X : Cx) (pins : List (Addr × Obj)) (D : Ends) (f : Flow) (s' : Shared) : Prop :=
 match f with
 | .next => ∃ σ' H',Inv X pins σ' H' s' ∧ D.nx σ' H'
 | .brk => ∃ σ' H',Inv X pins σ' H' s' ∧ D.bk σ' H'
 | .cont => ∃ σ' H',Inv X pins σ' H' s' ∧ D.ct σ' H'
 | .ret u => ∃ v σ' H',Inv X pins σ' H' s' ∧ RelV v u ∧ D.rt v H'
def PE (X : Cx) (e : Expr) (t : TE) : Prop :=
 ∀ (pins : List (Addr × Obj)) (s : Shared) (σ : St) (H : Hp) (Q : VK),Inv X pins σ H s → t σ H Q → wpAny (model X.prog X.w) X.A (eval e X.env) (EP X pins σ Q) X.xe s
def PT (X : Cx) (e : Expr) (t : TT) : Prop :=
 ∀ (pins : List (Addr × Obj)) (s : Shared) (σ : St) (H : Hp) (Q : Bool → Hp → Prop),Inv X pins σ H s → t σ H Q → wpAny (model X.prog X.w) X.A (isTrue e X.env (eval e X.env)) (TP X pins σ Q) X.xe s
def PW (X : Cx) (e : Expr) (t : TT) : Prop :=
 ∀ (whole : Sem Value) (pins : List (Addr × Obj)) (s : Shared) (σ : St) (H : Hp) (Q : Bool → Hp → Prop),Inv X pins σ H s → t σ H Q → wpAny (model X.prog X.w) X.A (isTrue e X.env whole) (TP X pins σ Q) X.xe s
theorem PW.pt {X : Cx} {e : Expr} {t : TT} (h : PW X e t) : PT X e t:=h _
def PA (X : Cx) (es : List Expr) (t : TA) : Prop :=
 ∀ (pos : Pos) (pins : List (Addr × Obj)) (s : Shared) (σ : St) (H : Hp) (Q : List V → Hp → Prop),Inv X pins σ H s → t σ H Q → wpAny (model X.prog X.w) X.A (spliced (backTo pos (starEach es X.env))) (AP X pins σ Q) X.xe s
def PS (X : Cx) (st : Stmt) (t : TS) : Prop :=
 ∀ (pins : List (Addr × Obj)) (s : Shared) (σ : St) (H : Hp) (D : Ends),Inv X pins σ H s → t D σ H → wpAny (model X.prog X.w) X.A (exec st X.env) (SP X pins D) X.xe s
def PSs (X : Cx) (st : List Stmt) (t : TS) : Prop :=
 ∀ (pins : List (Addr × Obj)) (s : Shared) (σ : St) (H : Hp) (D : Ends),Inv X pins σ H s → t D σ H → wpAny (model X.prog X.w) X.A (execs st X.env) (SP X pins D) X.xe s
theorem thn {α : Type} {t : Sem α} {Q Q' : α → Shared → Prop} {M : Model} {A : Around} {E : Value → Shared → Prop} {s : Shared} (h : wpAny M A t Q E s) (hQ : ∀ a s,Q a s → Q' a s) : wpAny M A t Q' E s:=wpAny_mono h hQ fun _ _ x => x
end L2
namespace L2
open PySem PySem.Spec PyProof.Rows
section
variable {X : Cx}
def zho (i : Nat) : TE:=fun σ H Q => ∃ v,σ[i]? = some (some v) ∧ Q v H
def tC (v : V) : TE:=fun _ H Q => Q v H
theorem zgR {i : Nat} {x : Str} {pos : Pos} (hN : X.N[i]? = some x) (hv : Vis X.env.scope x) (hd : (x == ("__debug__" : Str)) = false:=by decide) (hcd : (x == ("__classdict__" : Str)) = false:=by decide) : PE X (.Name x pos) (zho i):=by
 intro pins s σ H Q I h
 obtain ⟨v,e,h⟩:=h
 obtain ⟨m,hn,hl⟩:=I.loc
 obtain ⟨u,r,l⟩:=hl i x v hN e hv
 have fin : EP X pins σ Q u s:=⟨v,H,I,r,h⟩
 rcases l with ⟨hk,hm⟩ | ⟨hk,c,hc,hcell⟩
 ·exact wpAny_Name (wpAny_loadName_local I.ok.kind hk hn hm fin) hd
 ·rcases hk with hk | hk
  ·exact wpAny_Name (wpAny_loadName_cell I.ok.kind hk hc hcell fin) hd
  ·exact wpAny_Name (wpAny_loadName_free I.ok.kind hk hc hcell fin hcd) hd
theorem ze {i j pos} : PE X (.Constant (.int i) j pos) (tC (.int i)):=fun _ _ _ H _ I h => wpAny_Constant_int ⟨.int i,H,I.tok _,⟨_,rfl⟩,h⟩
theorem zcg {b j pos} : PE X (.Constant (.bool b) j pos) (tC (.bl b)):=fun _ _ _ H _ I h => Constant_bool ⟨.bl b,H,I,rfl,h⟩
def Gl (X : Cx) (x : Str) : Prop:=X.env.kindOf x = some .globalImplicit
theorem zfZ {E : Value → Shared → Prop} {pins : List (Addr × Obj)} {s : Shared} {σ : St} {H : Hp} {x : Str} {u : Value} {pos : Pos} {Q : Value → Shared → Prop} (I : Inv X pins σ H s) (hg : Gl X x) (hm : X.mg x = some u) (h : Q u s)
  (hd : (x == ("__debug__" : Str)) = false:=by decide) : wpAny (model X.prog X.w) X.A (eval (.Name x pos) X.env) Q E s :=
 Calls.Name_function_global I.ok.kind hg (Calls.loadGlobal_global (by rw [I.ok.glob]; exact I.mod.glob.keeps I.bk) hm h) hd
theorem zaN {E : Value → Shared → Prop} {pins : List (Addr × Obj)} {s : Shared} {σ : St} {H : Hp} {x : Str} {u : Value} {pos : Pos} {Q : Value → Shared → Prop} (I : Inv X pins σ H s) (hg : Gl X x) (hm : X.mg x = none) (hv : bootBuiltins x = some u) (h : Q u s)
  (hn : x ≠ "__name__":=by decide) (hd : (x == ("__debug__" : Str)) = false:=by decide) : wpAny (model X.prog X.w) X.A (eval (.Name x pos) X.env) Q E s:=by
 obtain ⟨mb,h1,h2⟩:=I.mod.blt
 exact Calls.Name_function_global I.ok.kind hg (Calls.loadGlobal_builtin (by rw [I.ok.glob]; exact I.mod.glob.keeps I.bk) hm (by rw [I.ok.blt]; exact h1.keeps I.bk) ((h2 x hn).trans hv) h) hd
theorem zcC {x : Str} {v : V} {u : Value} {pos : Pos} (hg : Gl X x) (hm : X.mg x = none) (hv : bootBuiltins x = some u) (r : RelV v u) (hn : x ≠ "__name__":=by decide) (hd : (x == ("__debug__" : Str)) = false:=by decide) : PE X (.Name x pos) (tC v) :=
 fun _ _ _ H _ I h => zaN I hg hm hv ⟨v,H,I,r,h⟩ hn hd
variable {a b : Expr} {ta tb : TE} {pos : Pos}
def tB (t : TE) : TT:=fun σ H Q => t σ H fun x H1 => ∃ c,x = .bl c ∧ Q c H1
theorem zdE {e : Expr} {t : TE} (h : PE X e t) (he : ∀ whole,isTrue e X.env whole = (do let v ← whole; standAt e.pos; holding [v] (truthy v)):=by intro _; rfl) : PT X e (tB t):=by
 intro pins s σ H Q I hw
 refine isTrue_plain (thn (h pins s σ H _ I hw) fun v s1 ⟨x,H1,I1,r1,q1⟩ => ?_) (he _)
 obtain ⟨d,rfl,q⟩:=q1
 cases r1
 exact wpAny_truthy_bool ⟨H1,I1,q⟩
variable {tA tB' : TT} {rest : List Expr}
def tOr (t u : TT) : TT:=fun σ H Q => t σ H fun c H1 => if c = true then Q true H1 else u σ H1 Q
def zhW (t : TT) : TT:=fun σ H Q => t σ H fun c H1 => Q (!c) H1
theorem zdF (ha : PT X a tA) : PW X (.BoolOp .Or [a] pos) tA:=by
 intro wh pins s σ H Q I h
 refine isTrue_or (thn (ha pins s σ H Q I h) fun c s1 e => ?_)
 cases c with
 | false => exact isTrue_or_nil e
 | true => exact e
theorem ze7 (ha : PT X a tA) (hb : PW X (.BoolOp .Or (b :: rest) pos) tB') : PW X (.BoolOp .Or (a :: b :: rest) pos) (tOr tA tB'):=by
 intro wh pins s σ H Q I h
 refine isTrue_or (thn (ha pins s σ H _ I h) fun c s1 ⟨H1,I1,q1⟩ => ?_)
 cases c with
 | true => exact ⟨H1,I1,q1⟩
 | false => exact hb wh pins s1 σ H1 Q I1 q1
theorem zdG (ha : PT X a tA) : PT X (.UnaryOp .Not a pos) (zhW tA):=by
 intro pins s σ H Q I h
 exact isTrue_not (ha pins s σ H (fun c H1 => Q (!c) H1) I h)
def zhp (ta tb : TE) : TE:=fun σ H Q => ta σ H fun x H1 => ∃ c,x = .bl c ∧ if c = true then tb σ H1 Q else Q (.bl false) H1
def zhq (ta : TE) : TE:=fun σ H Q => ta σ H fun x H1 => ∃ c,x = .bl c ∧ Q (.bl (!c)) H1
theorem zgS {op} {t : TE} (h : PE X a t) : PE X (.BoolOp op [a] pos) t:=fun pins s σ H Q I hw => BoolOp_one (h pins s σ H Q I hw)
theorem zgT (ha : PE X a ta) (hb : PE X (.BoolOp .And (b :: rest) pos) tb) : PE X (.BoolOp .And (a :: b :: rest) pos) (zhp ta tb):=by
 intro pins s σ H Q I h
 refine BoolOp_and (thn (ha pins s σ H _ I h) fun v s1 ⟨x,H1,I1,r1,q1⟩ => ?_)
 obtain ⟨c,rfl,q1⟩:=q1
 cases r1
 refine wpAny_truthy_bool ?_
 cases c with
 | true => exact hb pins s1 σ H1 Q I1 q1
 | false => exact ⟨.bl false,H1,I1,rfl,q1⟩
theorem zgU (ha : PE X a ta) : PE X (.UnaryOp .Not a pos) (zhq ta):=by
 intro pins s σ H Q I h
 refine UnaryOp_ (thn (ha pins s σ H _ I h) fun v s1 ⟨x,H1,I1,r1,q1⟩ => ?_)
 obtain ⟨c,rfl,q1⟩:=q1
 cases r1
 exact not_of (wpAny_truthy_bool ⟨.bl (!c),H1,I1,rfl,q1⟩)
end
end L2
namespace L2
open PySem PySem.Spec PyProof.Rows
def SqL (K : PySem.W.Frag) (H : Hp) (a : Addr) (xs : List V) : Prop :=
 Rd H a (.lst xs) ∨
  ∃ (o : Obj) (its : Array Value) (n : Nat),K.lookup a = some o ∧ o.cls = .type "list" ∧ o.dict = none ∧ o.data = .seq its n ∧ its.size ≤ sizeLine ∧ zt xs its.toList
def SqT (K : PySem.W.Frag) (H : Hp) (a : Addr) (xs : List V) : Prop :=
 Rd H a (.tup xs) ∨
  ∃ (o : Obj) (its : Array Value) (n : Nat),K.lookup a = some o ∧ o.cls = .type "tuple" ∧ o.data = .seq its n ∧ its.size ≤ sizeLine ∧ zt xs its.toList
def zhX : Value → Option V
 | .none => some .non
 | .bool b => some (.bl b)
 | .int i _ => some (.int i)
 | .str x _ => some (.str x)
 | .bytes b _ => some (.byt b)
 | .float b _ => some (.flt b)
 | .ref a => some (.ref a)
 | .type n => some (.ty n)
 | _ => none
theorem RelV.abs {x : V} {u : Value} (r : RelV x u) : zhX u = some x:=by
 cases x with
 | non => cases r; rfl
 | bl _ => cases r; rfl
 | int _ => obtain ⟨t,rfl⟩:=r; rfl
 | str _ => obtain ⟨t,rfl⟩:=r; rfl
 | byt _ => obtain ⟨t,rfl⟩:=r; rfl
 | flt _ => obtain ⟨t,rfl⟩:=r; rfl
 | ref _ => cases r; rfl
 | ty _ => cases r; rfl
theorem RelV.inj {x y : V} {u : Value} (r : RelV x u) (q : RelV y u) : x = y:=Option.some.inj (r.abs.symm.trans q.abs)
theorem zt.inj : ∀ {xs ys : List V} {us : List Value},zt xs us → zt ys us → xs = ys
 | _,_,_,.nil,.nil => rfl
 | _,_,_,.cons r t,.cons r' t' => by rw [r.inj r',zt.inj t t']
section
variable {X : Cx} {pins : List (Addr × Obj)} {σ : St} {H : Hp} {s : Shared} {a : Addr} {xs ys : List V}
theorem SqL.of {K : PySem.W.Frag} (h : H a = some (.lst xs)) : SqL K H a xs:=.inl (.inl h)
theorem SqT.of {K : PySem.W.Frag} (h : H a = some (.tup xs)) : SqT K H a xs:=.inl (.inl h)
theorem Inv.list (I : Inv X pins σ H s) (h : SqL X.K H a xs) : ∃ its : List Value,zt xs its ∧ PlainL s.heap a its.toArray ∧ xs.length ≤ sizeLine:=by
 rcases h with h | ⟨o,its,n,hk,hc,hd,hs,hz,r⟩
 ·obtain ⟨z,its,n,r,e⟩:=h.ok I.hok
  exact ⟨its,r,⟨_,n,e,rfl,rfl,rfl⟩,z⟩
 ·refine ⟨its.toList,r,⟨o,n,I.kIn a o hk,hc,hd,by simpa using hs⟩,?_⟩
  have e:=r.length
  simp only [Array.length_toList] at e
  omega
theorem Inv.tuple (I : Inv X pins σ H s) (h : SqT X.K H a xs) : ∃ its : List Value,zt xs its ∧ IsTup s.heap a its.toArray ∧ xs.length ≤ sizeLine:=by
 rcases h with h | ⟨o,its,n,hk,hc,hs,hz,r⟩
 ·obtain ⟨z,its,r,p⟩:=h.ok I.hok
  exact ⟨its,r,p,z⟩
 ·refine ⟨its.toList,r,⟨o,I.kIn a o hk,hc,n,by simpa using hs⟩,?_⟩
  have e:=r.length
  simp only [Array.length_toList] at e
  omega
theorem Inv.list_inj (I : Inv X pins σ H s) (h : SqL X.K H a xs) (h' : SqL X.K H a ys) : xs = ys:=by
 obtain ⟨its,r,⟨o,n,e,_,_,d⟩,_⟩:=I.list h
 obtain ⟨its',r',⟨o',n',e',_,_,d'⟩,_⟩:=I.list h'
 rw [e] at e'; cases e'
 rw [d] at d'
 injection d' with d1 _
 have : its = its':=by simpa using congrArg Array.toList d1
 subst this
 exact r.inj r'
theorem Inv.tuple_inj (I : Inv X pins σ H s) (h : SqT X.K H a xs) (h' : SqT X.K H a ys) : xs = ys:=by
 obtain ⟨its,r,⟨o,e,_,n,d⟩,_⟩:=I.tuple h
 obtain ⟨its',r',⟨o',e',_,n',d'⟩,_⟩:=I.tuple h'
 rw [e] at e'; cases e'
 rw [d] at d'
 injection d' with d1 _
 have : its = its':=by simpa using congrArg Array.toList d1
 subst this
 exact r.inj r'
end
abbrev Cx.wish (X : Cx) (E : Value → Shared → Prop) : Cx:={ X with xe:=E }
abbrev Cx.nox (X : Cx) : Cx:=X.wish fun _ _ => False
theorem Cx.Ok.wish {X : Cx} (ok : X.Ok) (E : Value → Shared → Prop) : (X.wish E).Ok :=
 ⟨ok.mod,ok.kind,ok.glob,ok.blt,ok.above,ok.inj,ok.has,ok.cab,ok.hd,ok.frames,ok.stk,ok.exf,ok.bs,ok.bsz,ok.noex,ok.exfs,ok.funs,ok.frf⟩
theorem Cx.Ok.unwish {X : Cx} {E : Value → Shared → Prop} (ok : (X.wish E).Ok) : X.Ok :=
 ⟨ok.mod,ok.kind,ok.glob,ok.blt,ok.above,ok.inj,ok.has,ok.cab,ok.hd,ok.frames,ok.stk,ok.exf,ok.bs,ok.bsz,ok.noex,ok.exfs,ok.funs,ok.frf⟩
section
variable {X : Cx} {pins : List (Addr × Obj)} {σ : St} {H : Hp} {s : Shared} {E : Value → Shared → Prop}
theorem Inv.wish (I : Inv X pins σ H s) (E : Value → Shared → Prop) : Inv (X.wish E) pins σ H s:=⟨I.ok.wish E,I.os,I.bare,I.base,I.loc,I.cell,I.free,I.freeC,I.pin,I.hok,I.len⟩
theorem Inv.unwish (I : Inv (X.wish E) pins σ H s) : Inv X pins σ H s:=⟨I.ok.unwish,I.os,I.bare,I.base,I.loc,I.cell,I.free,I.freeC,I.pin,I.hok,I.len⟩
theorem SP.unwish {D : Ends} {f : Flow} {s' : Shared} (h : SP (X.wish E) pins D f s') : SP X pins D f s':=by
 cases f with
 | next => obtain ⟨σ',H',I,q⟩:=h; exact ⟨σ',H',I.unwish,q⟩
 | brk => obtain ⟨σ',H',I,q⟩:=h; exact ⟨σ',H',I.unwish,q⟩
 | cont => obtain ⟨σ',H',I,q⟩:=h; exact ⟨σ',H',I.unwish,q⟩
 | ret u => obtain ⟨v,σ',H',I,r,q⟩:=h; exact ⟨v,σ',H',I.unwish,r,q⟩
theorem PSs.nox {st : List Stmt} {t : TS} (h : PSs X.nox st t) : PSs X st t:=fun pins s σ H D I hw =>
 wpAny_mono (h pins s σ H D (I.wish _) hw) (fun _ _ q => q.unwish) fun _ _ z => False.elim z
end
section
variable {X : Cx} {st : Stmt} {rest : List Stmt} {t u : TS} {e : Expr} {te : TE} {pos : Pos}
def zhr : TS:=fun D σ H => D.nx σ H
def zhs (t u : TS) : TS:=fun D σ H => t { D with nx:=u D } σ H
theorem zab : PSs X [] zhr:=fun _ _ σ H _ I h => wpAny_execs_nil ⟨σ,H,I,h⟩
theorem zf (h1 : PS X st t) (h2 : PSs X rest u) : PSs X (st :: rest) (zhs t u):=by
 intro pins s σ H D I h
 refine wpAny_execs_cons (thn (h1 pins s σ H { D with nx:=u D } I h) fun f s1 q => ?_)
 cases f with
 | next =>
  obtain ⟨σ',H',I',q⟩:=q
  exact h2 pins s1 σ' H' D I' q
 | ret v => exact q
 | brk => exact q
 | cont => exact q
theorem zj (h1 : PS X st t) : PSs X [st] t:=by
 intro pins s σ H D I h
 refine wpAny_execs_cons (thn (h1 pins s σ H D I h) fun f s1 q => ?_)
 cases f with
 | next => exact wpAny_execs_nil q
 | ret v => exact q
 | brk => exact q
 | cont => exact q
theorem Inv.quiet {pins : List (Addr × Obj)} {σ : St} {H : Hp} {s : Shared} (I : Inv X pins σ H s) : interactive X.env = false:=by simp [interactive,I.ok.kind]
def zht (te : TE) : TS:=fun D σ H => te σ H fun _ H1 => D.nx σ H1
theorem zaO (he : PE X e te) (hs : swapsWith e none pos.line X.env = pure false:=by rfl) : PS X (.Expr e pos) (zht te):=by
 intro pins s σ H D I h
 exact wpAny_Expr_any (thn (he pins s σ H _ I h) fun v s1 ⟨x,H1,I1,r1,q1⟩ => ⟨σ,H1,I1,q1⟩) I.quiet hs
def zhY (te : TE) : TS:=fun D σ H => te σ H D.rt
theorem zB (he : PE X e te) : PS X (.Return (some e) pos) (zhY te):=by
 intro pins s σ H D I h
 exact wpAny_Return_some (thn (he pins s σ H _ I h) fun v s1 ⟨x,H1,I1,r1,q1⟩ => ⟨x,σ,H1,I1,r1,q1⟩)
def zhZ (c : TT) (t u : TS) : TS:=fun D σ H => c σ H fun b H1 => if b = true then t D σ H1 else u D σ H1
theorem zaY {c : Expr} {a b : List Stmt} {tc : TT} (hc : PT X c tc) (ha : PSs X a t) (hb : PSs X b u) : PS X (.If c a b pos) (zhZ tc t u):=by
 intro pins s σ H D I h
 refine wpAny_If (thn (hc pins s σ H _ I h) fun d s1 ⟨H1,I1,q1⟩ => ?_)
 cases d with
 | true => exact ha pins s1 σ H1 D I1 q1
 | false => exact hb pins s1 σ H1 D I1 q1
end
abbrev TG:=V → St → Hp → (St → Hp → Prop) → Prop
abbrev TGs:=List V → St → Hp → (St → Hp → Prop) → Prop
def PG (X : Cx) (target : Expr) (t : TG) : Prop :=
 ∀ (pins : List (Addr × Obj)) (s : Shared) (σ : St) (H : Hp) (v : V) (u : Value) (Q : St → Hp → Prop),Inv X pins σ H s → RelV v u → t v σ H Q →
  wpAny (model X.prog X.w) X.A (assign target X.env u) (fun _ s' => ∃ σ' H',Inv X pins σ' H' s' ∧ Q σ' H') X.xe s
def PGs (X : Cx) (ts : List Expr) (t : TGs) : Prop :=
 ∀ (pins : List (Addr × Obj)) (s : Shared) (σ : St) (H : Hp) (vs : List V) (us : List Value) (Q : St → Hp → Prop),Inv X pins σ H s → zt vs us → t vs σ H Q →
  wpAny (model X.prog X.w) X.A (assignInOrder ((assignEach ts X.env).map (·.2)) us) (fun _ s' => ∃ σ' H',Inv X pins σ' H' s' ∧ Q σ' H') X.xe s
abbrev zgV:=V → V → V → Hp → (Hp → Prop) → Prop
def zhu (X : Cx) (t : zgV) : Prop :=
 ∀ (pins : List (Addr × Obj)) (s : Shared) (σ : St) (H : Hp) (o i v : V) (ov iv u : Value) (Q : Hp → Prop),Inv X pins σ H s → RelV o ov → RelV i iv → RelV v u → t o i v H Q →
  wpAny (model X.prog X.w) X.A (setItem ov iv u) (fun _ s' => ∃ H',Inv X pins σ H' s' ∧ Q H') X.xe s
section
variable {X : Cx} {pos : Pos}
def zaW (i : Nat) : TG:=fun v σ H Q => Q (σ.set i (some v)) H
theorem zi {i : Nat} {x : Str} (hN : X.N.Nodup) (hi : X.N[i]? = some x) (hx : Loc X.env.scope x) (hf : X.fn x = true ∨ X.env.scope.names.lookup x = some .local:=by first | exact .inl rfl | exact .inr rfl | assumption) : PG X (.Name x pos) (zaW i):=by
 intro pins s σ H v u Q I r h
 exact wpAny_assign_Name (zc1 I hN hi hx r (fun s' I' => ⟨_,H,I',h⟩) hf)
def zf0 : TGs:=fun vs σ H Q => vs = [] ∧ Q σ H
def zc2 (t : TG) (u : TGs) : TGs:=fun vs σ H Q => ∃ v r,vs = v :: r ∧ t v σ H fun σ' H' => u r σ' H' Q
theorem zW : PGs X [] zf0:=by
 intro pins s σ H vs us Q I r h
 obtain ⟨e,h⟩:=h
 subst e
 cases r
 exact assignInOrder_nil ⟨σ,H,I,h⟩
theorem zn {e : Expr} {es : List Expr} {t : TG} {u : TGs} (h1 : PG X e t) (h2 : PGs X es u)
  (hs : (assignEach (e :: es) X.env).map (·.2) = assign e X.env :: (assignEach es X.env).map (·.2):=by rfl) : PGs X (e :: es) (zc2 t u):=by
 intro pins s σ H vs us Q I r h
 obtain ⟨v,vr,e1,h⟩:=h
 subst e1
 cases r with
 | cons r rr =>
  rw [hs]
  refine assignInOrder_cons (thn (h1 pins s σ H _ _ _ I r h) fun _ s1 ⟨σ1,H1,I1,q1⟩ => ?_)
  exact h2 pins s1 σ1 H1 _ _ Q I1 rr q1
def ze8 (K : PySem.W.Frag) (n : Nat) (t : TGs) : TG:=fun v σ H Q => ∃ a xs,v = .ref a ∧ SqT K H a xs ∧ xs.length = n ∧ t xs σ H Q
theorem zaZ {es : List Expr} {k : Nat} {t : TGs} {n : Nat} (hc : X.calm = true) (h : PGs X es t)
  (hn : (assignEach es X.env).length = n:=by rfl) (hst : (assignEach es X.env).findIdx? (·.1) = none:=by rfl) : PG X (.Tuple es k pos) (ze8 X.K n t):=by
 intro pins s σ H v u Q I r hw
 obtain ⟨a,xs,e1,hq,hl,hw⟩:=hw
 subst e1
 cases r
 obtain ⟨its,rv,ht,hz⟩:=I.tuple hq
 refine assign_Tuple_tuple (I.ok.hd hc) ht (by simp [hn,← hl,rv.length]) hst fun h' hx => ?_
 have I1 : Inv X pins σ H { s with heap:=h' }:=I.kept (t':=s.toks) fun b o e => hx b o (Nat.ne_of_lt (Heap.lt_size e)) e
 exact h pins _ σ H xs _ Q I1 (by simpa using rv) hw
def zh0 (to ti : TE) (t : zgV) : TG:=fun v σ H Q => to σ H fun o H1 => ti σ H1 fun i H2 => t o i v H2 fun H3 => Q σ H3
theorem zdH {o i : Expr} {to ti : TE} {t : zgV} (ho : PE X o to) (hi : PE X i ti) (hs : zhu X t)
  (ha : ∀ v,assign (.Subscript o i pos) X.env v = (do
   let ov ← holding [v] (eval o X.env)
   let iv ← holding [v,ov] (eval i X.env)
   standAt pos
   holding [v,ov,iv] (setItem ov iv v)
   release [v,ov,iv] []):=by intro _; rfl) : PG X (.Subscript o i pos) (zh0 to ti t):=by
 intro pins s σ H v u Q I r h
 rw [ha]
 refine wpAny_bind (wpAny_holding (thn (ho pins s σ H _ I h) fun ov s1 ⟨x,H1,I1,r1,q1⟩ => ?_))
 refine wpAny_bind (wpAny_holding (thn (hi pins s1 σ H1 _ I1 q1) fun iv s2 ⟨y,H2,I2,r2,q2⟩ => ?_))
 refine wpAny_bind (wpAny_standAt (wpAny_bind (wpAny_holding (thn (hs pins s2 σ H2 x y v ov iv u _ I2 r1 r2 r q2) fun _ s3 ⟨H3,I3,q3⟩ => ?_))))
 exact wpAny_release ⟨σ,H3,I3,q3⟩
def zf1 (te : TE) (g : TG) : TS:=fun D σ H => te σ H fun x H1 => g x σ H1 D.nx
theorem zbq {tg e : Expr} {te : TE} {g : TG} (he : PE X e te) (hg : PG X tg g) (hs : swapsWithSole [tg] e pos.line X.env = pure false:=by rfl) (hw : swappedStores [tg] e X.env = pure none:=by rfl)
  (h1 : (assignEach [tg] X.env).map (·.2) = [assign tg X.env]:=by rfl) : PS X (.Assign [tg] e pos) (zf1 te g):=by
 intro pins s σ H D I h
 refine wpAny_Assign_stores (thn (he pins s σ H _ I h) fun v s1 ⟨x,H1,I1,r1,q1⟩ => ?_) hs hw
 rw [h1]
 exact thn (hg pins s1 σ H1 x v _ I1 r1 q1) fun _ s2 q => q
theorem zl {i : Nat} {x : Str} {e : Expr} {te : TE} {pos' : Pos} (hN : X.N.Nodup) (hi : X.N[i]? = some x) (hx : Loc X.env.scope x) (he : PE X e te) (hs : swapsWith e (some (.Name x pos')) pos.line X.env = pure false:=by rfl) (hf : X.fn x = true ∨ X.env.scope.names.lookup x = some .local:=by first | exact .inl rfl | exact .inr rfl | assumption) :
  PS X (.Assign [.Name x pos'] e pos) (zf1 te (zaW i)):=by
 intro pins s σ H D I h
 refine wpAny_Assign_Name (thn (he pins s σ H _ I h) fun v s1 ⟨y,H1,I1,r1,q1⟩ => ?_) hs
 exact zc1 I1 hN hi hx r1 (fun s2 I2 => ⟨_,H1,I2,q1⟩) hf
end
section
variable {X : Cx} {pos : Pos}
def zgW (c : TT) (tb : TS) : TS:=fun D σ H => ∃ W : Nat → St → Hp → Prop,(∃ m,W m σ H) ∧ ∀ m σ H,W m σ H →
 c σ H fun b H1 => if b = true then ∃ N : St → Hp → Prop,(∀ σ' H',N σ' H' → ∃ m',m' < m ∧ W m' σ' H') ∧ tb { D with nx:=N,ct:=N,bk:=D.nx } σ H1 else D.nx σ H1
theorem ze9 {c : Expr} {body : List Stmt} {tc : TT} {tb : TS} (hp : PassesOwn (model X.prog X.w) X.A X.env X.xe) (hc : PT X c tc) (hb : PSs X body tb) : PS X (.While c body [] pos) (zgW tc tb):=by
 intro pins s σ H D I h
 obtain ⟨W,⟨m0,w0⟩,turn⟩:=h
 refine wpAny_While (codeAny_whileLoop (fun n s' => ∃ σ' H',Inv X pins σ' H' s' ∧ W n σ' H') ?_ m0 ⟨σ,H,I,w0⟩)
 rintro n s1 ⟨σ1,H1,I1,w1⟩
 refine wpAny_passesOwn hp (thn (hc pins s1 σ1 H1 _ I1 (turn n σ1 H1 w1)) fun b s2 ⟨H2,I2,q2⟩ => ?_)
 cases b with
 | true =>
  obtain ⟨N,hN,q2⟩:=q2
  rw [if_pos rfl]
  refine wpAny_passesOwn hp (thn (hb pins s2 σ1 H2 _ I2 q2) fun f s3 q3 => ?_)
  cases f with
  | next =>
   obtain ⟨σ3,H3,I3,n3⟩:=q3
   obtain ⟨m',hm,w3⟩:=hN σ3 H3 n3
   exact ⟨m',hm,σ3,H3,I3,w3⟩
  | cont =>
   obtain ⟨σ3,H3,I3,n3⟩:=q3
   obtain ⟨m',hm,w3⟩:=hN σ3 H3 n3
   exact ⟨m',hm,σ3,H3,I3,w3⟩
  | brk => exact q3
  | ret v => exact q3
 | false =>
  rw [if_neg Bool.false_ne_true]
  exact wpAny_execs_nil ⟨σ1,H2,I2,q2⟩
end
structure It where
 go : Nat → Hp → Prop
 yld : Nat → Hp → V → Hp → Prop
 stop : Nat → Hp → Prop
def za0 (X : Cx) (pins : List (Addr × Obj)) (H : Hp) (b : Addr) : Prop :=
 H b = none ∧ b ≠ X.env.locals ∧ b ∉ X.fs ∧ (b ∈ X.ex ∨ X.s₀.heap.objs.size ≤ b) ∧ (∀ x c,X.env.cells.lookup x = some c → c ≠ b) ∧ ∀ p ∈ X.pn ++ pins,p.1 ≠ b
theorem Inv.fpOk {X : Cx} {pins : List (Addr × Obj)} {σ : St} {H H' : Hp} {s : Shared} {b : Addr} (I : Inv X pins σ H s) (hb : s.heap.objs.size ≤ b) (hn : H' b = none) : za0 X pins H' b:=by
 refine ⟨hn,Nat.ne_of_gt (Nat.lt_of_lt_of_le I.lt hb),I.nofs hb,.inr (Nat.le_trans I.sz hb),fun x c e z => ?_,fun p hp z => ?_⟩
 ·obtain ⟨v,q⟩:=I.cell x c e
  exact absurd (Nat.lt_of_lt_of_le q.lt (by rw [z]; exact hb)) (Nat.lt_irrefl _)
 ·exact absurd (Nat.lt_of_lt_of_le (Heap.lt_size (I.pin p hp).1) (by rw [z]; exact hb)) (Nat.lt_irrefl _)
structure Turn (P : Program) (w : World) (K : PySem.W.Frag) (tg : Expr) (J : It) (fp : List Addr) (it : Addr) (tn : Nat → Heap → Prop) : Prop where
 mem : it ∈ fp
 obj : ∀ i h,tn i h → ∀ b ∈ fp,∃ o,h.get? b = some o ∧ ∀ v,o.data ≠ .cell v
 keep : ∀ i h h',tn i h → (∀ b ∈ fp,∀ o,h.get? b = some o → h'.get? b = some o) → tn i h'
 item : ∀ (X : Cx),X.prog = P → X.w = w → X.K = K → X.calm = true → ∀ (i : Nat) (pins : List (Addr × Obj)) (s : Shared) (σ : St) (H : Hp) (E : Value → Shared → Prop),Inv X pins σ H s → (∀ b ∈ fp,za0 X pins H b) → tn i s.heap → J.go i H →
  wpAny (model P w) X.A (pyNext (.ref it)) (fun r s1 => ∃ u,r = some u ∧
   wpAny (model P w) X.A (letOwnedTupleGo tg (.ref it) u) (fun _ s2 => ∃ x H',Inv X pins σ H' s2 ∧ RelV x u ∧ J.yld i H x H' ∧ tn (i + 1) s2.heap ∧ ∀ b ∈ fp,H' b = none) E s1) E s
 done : ∀ (X : Cx),X.prog = P → X.w = w → X.K = K → X.calm = true → ∀ (i : Nat) (pins : List (Addr × Obj)) (s : Shared) (σ : St) (H : Hp) (E : Value → Shared → Prop),Inv X pins σ H s → (∀ b ∈ fp,za0 X pins H b) → tn i s.heap → J.stop i H →
  wpAny (model P w) X.A (pyNext (.ref it)) (fun r s1 => r = none ∧ Inv X pins σ H s1) E s
 self : ∀ (A : Around) (i : Nat) (s : Shared) (Q : Value → Shared → Prop) (E : Value → Shared → Prop),tn i s.heap → Q (.ref it) s → wpAny (model P w) A (pyIter (.ref it)) Q E s
abbrev TI:=St → Hp → (It → Hp → Prop) → Prop
def PIE (X : Cx) (pins : List (Addr × Obj)) (σ : St) (tg : Expr) (R : It → Hp → Prop) (itv : Value) (s2 : Shared) : Prop :=
 ∃ (it : Addr) (fp : List Addr) (tn : Nat → Heap → Prop) (J : It) (H' : Hp),itv = .ref it ∧ Inv X pins σ H' s2 ∧ Turn X.prog X.w X.K tg J fp it tn ∧ tn 0 s2.heap ∧ (∀ b ∈ fp,za0 X pins H' b) ∧ R J H'
def PI (X : Cx) (tg iter : Expr) (wi : TI) : Prop :=
 ∀ (pins : List (Addr × Obj)) (s : Shared) (σ : St) (H : Hp) (R : It → Hp → Prop),Inv X pins σ H s → wi σ H R →
  wpAny (model X.prog X.w) X.A (eval iter X.env) (fun v s1 => wpAny (model X.prog X.w) X.A (pyIter v) (PIE X pins σ tg R) X.xe s1) X.xe s
theorem zec {M : Model} {A : Around} {E : Value → Shared → Prop} {s : Shared} {tg : Expr} {it : Addr} {u : Value} {o : Obj} {n : String} {vs : Array Value} {Q : Unit → Shared → Prop} (ho : s.heap.get? it = some o) (hc : o.cls = .type n) (hd : o.data = .fields vs)
  (hn : ["enumerate","zip","dict_itemiterator","dict_reverseitemiterator","odict_iterator","itertools.zip_longest","itertools.pairwise"].contains n = false) (hQ : Q () s) : wpAny M A (letOwnedTupleGo tg (.ref it) u) Q E s:=by
 unfold letOwnedTupleGo
 cases tg <;> first
  | exact wpAny_pure hQ
  | (cases u <;> first
    | exact wpAny_pure hQ
    | (refine wpAny_bind (wpAny_load ho ?_)
       rw [hc,hd]
       show wpAny M A (if (["enumerate","zip","dict_itemiterator","dict_reverseitemiterator","odict_iterator","itertools.zip_longest","itertools.pairwise"].contains n && vs[0]? == some (rawInt _)) = true then _ else _) Q E s
       rw [if_neg (by intro h; rw [hn,Bool.false_and] at h; cases h)]
       exact wpAny_pure hQ))
def Itl (K : PySem.W.Frag) (a : Addr) : It :=
 ⟨fun i H => ∃ xs x,SqL K H a xs ∧ xs[i]? = some x,fun i H x H' => H' = H ∧ ∀ xs,SqL K H a xs → xs[i]? = some x,fun i H => ∃ xs,SqL K H a xs ∧ xs.length ≤ i⟩
def Itt (K : PySem.W.Frag) (a : Addr) : It :=
 ⟨fun i H => ∃ xs x,SqT K H a xs ∧ xs[i]? = some x,fun i H x H' => H' = H ∧ ∀ xs,SqT K H a xs → xs[i]? = some x,fun i H => ∃ xs,SqT K H a xs ∧ xs.length ≤ i⟩
def Itr (lo : Int) (n : Nat) : It:=⟨fun i _ => i < n,fun i H x H' => H' = H ∧ x = .int (lo + i),fun i _ => n ≤ i⟩
theorem zch {P : Program} {w : World} {K : PySem.W.Frag} {tg : Expr} (a it : Addr) : Turn P w K tg (Itl K a) [it] it (fun i h => h.IsListIter it a i) where
 mem:=by simp
 obj:=fun i h st b hb => by
  have e : b = it:=by simpa using hb
  subst e
  obtain ⟨o,e,c,d⟩:=st
  exact ⟨o,e,fun v z => by rw [d] at z; cases z⟩
 keep:=fun i h h' st k => st.at fun o e => k it (by simp) o e
 item:=by
  intro X hP hw hK hc i pins s σ H E I hf st hg
  subst hP hw hK
  obtain ⟨xs,x,hq,hx⟩:=hg
  obtain ⟨its,rv,p,hz⟩:=I.list hq
  obtain ⟨u,hu,ru⟩:=rv.get hx
  obtain ⟨f0,f1,f2,f3,f4,f5⟩:=hf it (by simp)
  refine wpAny_pyNext_list_item st p.isList (x:=u) (by simpa using hu) fun h' st' sb => ?_
  have I1 : Inv X pins σ H { s with heap:=h' }:=I.turned (t':=s.toks) (fun b o hb e => (sb.2 b hb).trans e) f0 f1 f3 f4 f5
  obtain ⟨o,e,c,d⟩:=id st'
  exact ⟨u,rfl,zec (s:={ s with heap:=h' }) e c d (by decide) ⟨x,H,I1,ru,⟨rfl,fun ys hy => by rw [I.list_inj hy hq]; exact hx⟩,st',fun b hb => (hf b hb).1⟩⟩
 done:=by
  intro X hP hw hK hc i pins s σ H E I hf st hg
  subst hP hw hK
  obtain ⟨xs,hq,hx⟩:=hg
  obtain ⟨its,rv,p,hz⟩:=I.list hq
  obtain ⟨f0,f1,f2,f3,f4,f5⟩:=hf it (by simp)
  have hl:=rv.length
  exact wpAny_pyNext_list_end (I.ok.hd hc) st p.isList (by simp; omega) fun h' eb => ⟨rfl,I.turned (t':=s.toks) (fun b o hb e => eb b o hb e) f0 f1 f3 f4 f5⟩
 self:=fun _ _ _ _ _ st h => wpAny_pyIter_listiter st h
theorem zbY {P : Program} {w : World} {K : PySem.W.Frag} {tg : Expr} (a it : Addr) : Turn P w K tg (Itt K a) [it] it (fun i h => h.IsTupleIter it a i) where
 mem:=by simp
 obj:=fun i h st b hb => by
  have e : b = it:=by simpa using hb
  subst e
  obtain ⟨o,e,c,d⟩:=st
  exact ⟨o,e,fun v z => by rw [d] at z; cases z⟩
 keep:=fun i h h' st k => st.at fun o e => k it (by simp) o e
 item:=by
  intro X hP hw hK hc i pins s σ H E I hf st hg
  subst hP hw hK
  obtain ⟨xs,x,hq,hx⟩:=hg
  obtain ⟨its,rv,p,hz⟩:=I.tuple hq
  obtain ⟨u,hu,ru⟩:=rv.get hx
  obtain ⟨f0,f1,f2,f3,f4,f5⟩:=hf it (by simp)
  refine wpAny_pyNext_tuple_item st (show s.heap.IsTuple a its.toArray from p) (x:=u) (by simpa using hu) fun h' st' sb => ?_
  have I1 : Inv X pins σ H { s with heap:=h' }:=I.turned (t':=s.toks) (fun b o hb e => (sb.2 b hb).trans e) f0 f1 f3 f4 f5
  obtain ⟨o,e,c,d⟩:=id st'
  exact ⟨u,rfl,zec (s:={ s with heap:=h' }) e c d (by decide) ⟨x,H,I1,ru,⟨rfl,fun ys hy => by rw [I.tuple_inj hy hq]; exact hx⟩,st',fun b hb => (hf b hb).1⟩⟩
 done:=by
  intro X hP hw hK hc i pins s σ H E I hf st hg
  subst hP hw hK
  obtain ⟨xs,hq,hx⟩:=hg
  obtain ⟨its,rv,p,hz⟩:=I.tuple hq
  obtain ⟨f0,f1,f2,f3,f4,f5⟩:=hf it (by simp)
  have hl:=rv.length
  exact wpAny_pyNext_tuple_end (I.ok.hd hc) st (show s.heap.IsTuple a its.toArray from p) (by simp; omega) fun h' eb => ⟨rfl,I.turned (t':=s.toks) (fun b o hb e => eb b o hb e) f0 f1 f3 f4 f5⟩
 self:=fun _ _ _ _ _ st h => wpAny_pyIter_tupleiter st h
theorem zdI {P : Program} {w : World} {K : PySem.W.Frag} {tg : Expr} (it : Addr) (lo : Int) (n : Nat) : Turn P w K tg (Itr lo n) [it] it (fun i h => IsRangeIter h it (lo + (i : Nat) * 1) ((n : Int) - (i : Nat)) 1) where
 mem:=by simp
 obj:=fun i h st b hb => by
  have e : b = it:=by simpa using hb
  subst e
  exact ⟨_,st,fun v z => by
   have z' : Data.fields _ = Data.cell v:=z
   cases z'⟩
 keep:=fun i h h' st k => k it (by simp) _ st
 item:=by
  intro X hP hw hK hc i pins s σ H E I hf st hg
  subst hP hw hK
  obtain ⟨f0,f1,f2,f3,f4,f5⟩:=hf it (by simp)
  have W:=Walks.range (prog:=X.prog) (w:=X.w) (I.ok.hd hc) it lo 1 n
  refine W.item i s _ _ hg st fun v h' tk hv st' kk => ?_
  obtain ⟨t,rfl⟩:=hv
  have I1 : Inv X pins σ H { s with heap:=h',toks:=tk }:=I.turned (fun b o hb e => kk b o (by simpa using hb) e) f0 f1 f3 f4 f5
  refine ⟨_,rfl,zec (s:={ s with heap:=h',toks:=tk }) (n:="range_iterator") st' rfl rfl (by decide) ⟨.int (lo + i),H,I1,⟨t,?_⟩,⟨rfl,rfl⟩,st',fun b hb => (hf b hb).1⟩⟩
  rw [Int.mul_one]
 done:=by
  intro X hP hw hK hc i pins s σ H E I hf st hg
  subst hP hw hK
  obtain ⟨f0,f1,f2,f3,f4,f5⟩:=hf it (by simp)
  exact wpAny_pyNext_range_end (I.ok.hd hc) st (by have : n ≤ i:=hg; omega) fun h' eb => ⟨rfl,I.turned (t':=s.toks) (fun b o hb e => eb b o hb e) f0 f1 f3 f4 f5⟩
 self:=fun _ _ _ _ _ st h => wpAny_pyIter_rangeiter st h
end L2
namespace L2
open PySem PySem.Spec PyProof.Rows
section
variable {X : Cx} {tg : Expr}
def zgB (K : PySem.W.Frag) (tl : TE) : TI:=fun σ H R => tl σ H fun x H1 => ∃ a,x = .ref a ∧ (∃ xs,SqL K H1 a xs) ∧ R (Itl K a) H1
def zhv (K : PySem.W.Frag) (tl : TE) : TI:=fun σ H R => tl σ H fun x H1 => ∃ a,x = .ref a ∧ (∃ xs,SqT K H1 a xs) ∧ R (Itt K a) H1
theorem zax {l : Expr} {tl : TE} (hl : PE X l tl) : PI X tg l (zgB X.K tl):=by
 intro pins s σ H R I h
 refine thn (hl pins s σ H _ I h) fun v s1 ⟨x,H1,I1,r1,q1⟩ => ?_
 obtain ⟨a,e,⟨xs,hq⟩,q⟩:=q1
 subst e
 cases r1
 obtain ⟨its,rv,p,hz⟩:=I1.list hq
 refine wpAny_pyIter_list p.isList ?_
 refine ⟨s1.heap.objs.size,[s1.heap.objs.size],_,_,H1,rfl,I1.kept (t':=s1.toks) fun b o e => Heap.get?_push_of_some _ e,zch a _,⟨_,Heap.get?_push_size _ rfl,rfl,rfl⟩,fun b hb => ?_,q⟩
 have e : b = s1.heap.objs.size:=by simpa using hb
 subst e
 exact I1.fpOk (Nat.le_refl _) (I1.hok.fresh (Nat.le_refl _))
theorem zbC {l : Expr} {tl : TE} (hl : PE X l tl) : PI X tg l (zhv X.K tl):=by
 intro pins s σ H R I h
 refine thn (hl pins s σ H _ I h) fun v s1 ⟨x,H1,I1,r1,q1⟩ => ?_
 obtain ⟨a,e,⟨xs,hq⟩,q⟩:=q1
 subst e
 cases r1
 obtain ⟨its,rv,p,hz⟩:=I1.tuple hq
 refine wpAny_pyIter_tuple (show s1.heap.IsTuple a its.toArray from p) ?_
 refine ⟨s1.heap.objs.size,[s1.heap.objs.size],_,_,H1,rfl,I1.kept (t':=s1.toks) fun b o e => Heap.get?_push_of_some _ e,zbY a _,⟨_,Heap.get?_push_size _ rfl,rfl,rfl⟩,fun b hb => ?_,q⟩
 have e : b = s1.heap.objs.size:=by simpa using hb
 subst e
 exact I1.fpOk (Nat.le_refl _) (I1.hok.fresh (Nat.le_refl _))
theorem zc3 {pins : List (Addr × Obj)} {σ : St} {H : Hp} {s : Shared} {R : It → Hp → Prop} {E : Value → Shared → Prop} {lo hi : Int} {t u v : Tok} {tk : Nat} (I : Inv X pins σ H s) (h1 : -(2 ^ 62) ≤ lo) (h2 : lo < 2 ^ 62) (h3 : -(2 ^ 62) ≤ hi) (h4 : hi < 2 ^ 62)
  (q : R (Itr lo (hi - lo).toNat) H) : wpAny (model X.prog X.w) X.A (pyIter (.ref s.heap.objs.size)) (PIE X pins σ tg R) E { s with heap:=s.heap.push { cls:=.type "range",data:=.fields #[.int lo t,.int hi u,.int 1 v] },toks:=tk }:=by
 refine wpAny_pyIter_range (IsRange.new ..) (small_one h1 h2 h3 h4) ?_
 have I1 : Inv X pins σ H { s with heap:=s.heap.push { cls:=.type "range",data:=.fields #[.int lo t,.int hi u,.int 1 v] },toks:=tk }:=I.kept fun b o e => Heap.get?_push_of_some _ e
 refine ⟨(s.heap.push { cls:=.type "range",data:=.fields #[.int lo t,.int hi u,.int 1 v] }).objs.size,[(s.heap.push { cls:=.type "range",data:=.fields #[.int lo t,.int hi u,.int 1 v] }).objs.size],_,_,H,rfl,
  I1.kept (t':=tk) fun b o e => Heap.get?_push_of_some _ e,zdI _ lo (hi - lo).toNat,?_,fun b hb => ?_,q⟩
 ·have e1 : lo + ((0 : Nat) : Int) * 1 = lo:=by simp
  have e2 : (((hi - lo).toNat : Nat) : Int) - ((0 : Nat) : Int) = Builtin.Range.rangeSize lo hi 1:=by rw [rangeSize_one]; split <;> omega
  show IsRangeIter _ _ (lo + ((0 : Nat) : Int) * 1) ((((hi - lo).toNat : Nat) : Int) - ((0 : Nat) : Int)) 1
  rw [e1,e2]
  exact Heap.get?_push_size _ rfl
 ·have e : b = (s.heap.push { cls:=.type "range",data:=.fields #[.int lo t,.int hi u,.int 1 v] }).objs.size:=by simpa using hb
  subst e
  exact I1.fpOk (Nat.le_refl _) (I1.hok.fresh (Nat.le_refl _))
def zhw (ta : TA) : TI:=fun σ H R => ta σ H fun vs H1 => ∃ j : Int,vs = [.int j] ∧ -(2 ^ 62) ≤ j ∧ j < 2 ^ 62 ∧ R (Itr 0 j.toNat) H1
def zhx (ta : TA) : TI:=fun σ H R => ta σ H fun vs H1 => ∃ i j : Int,vs = [.int i,.int j] ∧ (-(2 ^ 62) ≤ i ∧ i < 2 ^ 62 ∧ -(2 ^ 62) ≤ j ∧ j < 2 ^ 62) ∧ R (Itr i (j - i).toNat) H1
theorem zS {a : Expr} {ta : TA} {p pos : Pos} (hg : Gl X "range") (hm : X.mg "range" = none) (ha : PA X [a] ta) (hs : starEach [a] X.env = [(false,eval a X.env)]:=by rfl) : PI X tg (.Call (.Name "range" p) [a] [] pos) (zhw ta):=by
 intro pins s σ H R I h
 refine Call_ (zaN I hg hm boot_range (PyProof.Rows.callWith_type1 (thn (ha pos pins s σ H _ I h) fun us s1 ⟨vs,H1,I1,r1,q1⟩ => ?_) hs rfl))
 obtain ⟨j,e,q1,q2,q⟩:=q1
 subst e
 cases r1 with
 | cons r rr =>
  cases rr
  obtain ⟨t,rfl⟩:=r
  exact call_range_1 (zc3 I1 (by omega) (by omega) q1 q2 (by simpa using q))
theorem zci {a b : Expr} {ta : TA} {p pos : Pos} (hg : Gl X "range") (hm : X.mg "range" = none) (ha : PA X [a,b] ta) (hs : starEach [a,b] X.env = [(false,eval a X.env),(false,eval b X.env)]:=by rfl) (hs2 : starEach [b] X.env = [(false,eval b X.env)]:=by rfl) :
  PI X tg (.Call (.Name "range" p) [a,b] [] pos) (zhx ta):=by
 intro pins s σ H R I h
 refine Call_ (zaN I hg hm boot_range (PyProof.Rows.callWith_type1 (thn (ha pos pins s σ H _ I h) fun us s1 ⟨vs,H1,I1,r1,q1⟩ => ?_) (by rw [hs,hs2]) (by rw [hs2]; rfl)))
 obtain ⟨i,j,e,⟨q1,q2,q3,q4⟩,q⟩:=q1
 subst e
 cases r1 with
 | cons r rr =>
  cases rr with
  | cons r' rr =>
   cases rr
   obtain ⟨t,rfl⟩:=r
   obtain ⟨t',rfl⟩:=r'
   exact call_range_2 (zc3 I1 q1 q2 q3 q4 q)
def zh1 (wi : TI) (g : TG) (tb : TS) : TS:=fun D σ H => wi σ H fun J H1 => ∃ W : Nat → Nat → St → Hp → Prop,(∃ m,W 0 m σ H1) ∧ ∀ i m σ H,W i m σ H →
 (J.stop i H ∧ D.nx σ H) ∨ (J.go i H ∧ ∃ N : St → Hp → Prop,(∀ σ' H',N σ' H' → ∃ m',m' < m ∧ W (i + 1) m' σ' H') ∧ ∀ x H',J.yld i H x H' → g x σ H' fun σ2 H2 => tb { D with nx:=N,ct:=N,bk:=D.nx } σ2 H2)
def za1 (fp : List Addr) (h : Heap) : List (Addr × Obj):=fp.filterMap fun b => (h.get? b).map fun o => (b,o)
theorem zaP {fp : List Addr} {h : Heap} {b : Addr} {o : Obj} (hb : b ∈ fp) (e : h.get? b = some o) : (b,o) ∈ za1 fp h:=List.mem_filterMap.mpr ⟨b,hb,by rw [e]; rfl⟩
theorem zcj {fp : List Addr} {h : Heap} {p : Addr × Obj} (hp : p ∈ za1 fp h) : p.1 ∈ fp ∧ h.get? p.1 = some p.2:=by
 obtain ⟨b,hb,e⟩:=List.mem_filterMap.mp hp
 cases q : h.get? b with
 | none => rw [q] at e; cases e
 | some o =>
  rw [q] at e
  have e' : (b,o) = p:=Option.some.inj e
  subst e'
  exact ⟨hb,q⟩
theorem Inv.pinned {pins : List (Addr × Obj)} {σ : St} {H : Hp} {s : Shared} {fp : List Addr} (I : Inv X pins σ H s) (hf : ∀ b ∈ fp,za0 X pins H b) (ho : ∀ b ∈ fp,∃ o,s.heap.get? b = some o ∧ ∀ v,o.data ≠ .cell v) : Inv X (pins ++ za1 fp s.heap) σ H s :=
 I.pins_of fun p hp => (List.mem_append.mp hp).elim (fun z => I.pin p (List.mem_append_right _ z)) fun z => by
  obtain ⟨hb,e⟩:=zcj z
  obtain ⟨f0,f1,f2,_⟩:=hf p.1 hb
  obtain ⟨o,e',d⟩:=ho p.1 hb
  rw [e] at e'; cases e'
  exact ⟨e,f0,f1,f2,d⟩
theorem Inv.unpinned {pins pl : List (Addr × Obj)} {σ : St} {H : Hp} {s : Shared} (I : Inv X (pins ++ pl) σ H s) : Inv X pins σ H s:=I.pins_of fun p hp => I.pin p (List.mem_append_right _ (List.mem_append_left _ hp))
theorem zZ {iter : Expr} {body : List Stmt} {wi : TI} {g : TG} {tb : TS} {pos : Pos} (hp : PassesOwn (model X.prog X.w) X.A X.env X.xe) (hc : X.calm = true) (hi : PI X tg iter wi) (hg : PG X tg g) (hb : PSs X body tb)
  (hs : ∀ x,foldedSetIterable iter X.env x = pure x:=by intro _; rfl) : PS X (.For tg iter body [] pos) (zh1 wi g tb):=by
 intro pins s σ H D I h
 refine wpAny_For (thn (hi pins s σ H _ I h) fun v s1 h1 => thn h1 fun itv s2 h2 => ?_) hs
 obtain ⟨it,fp,tn,J,H2,e,I2,T,st2,f2,W,⟨m0,w0⟩,turn⟩:=h2
 subst e
 have stat : ∀ {H' : Hp},(∀ b ∈ fp,H' b = none) → ∀ b ∈ fp,za0 X pins H' b:=fun hn b hb => ⟨hn b hb,(f2 b hb).2⟩
 refine codeAny_forLoop_any (fun n s' => ∃ i σ' H',Inv X pins σ' H' s' ∧ tn i s'.heap ∧ (∀ b ∈ fp,H' b = none) ∧ W i n σ' H') ?_ m0 ⟨0,σ,H2,I2,st2,fun b hb => (f2 b hb).1,w0⟩
 rintro n s3 ⟨i,σ3,H3,I3,st3,fr3,w3⟩
 rcases turn i n σ3 H3 w3 with ⟨stop,qn⟩ | ⟨go,N,hN,step⟩
 ·refine wpAny_passesOwn hp (thn (T.done X rfl rfl rfl hc i pins s3 σ3 H3 X.xe I3 (stat fr3) st3 stop) fun r s4 ⟨hr,I4⟩ => ?_)
  subst hr
  exact wpAny_execs_nil ⟨σ3,H3,I4,qn⟩
 ·refine wpAny_passesOwn hp (thn (T.item X rfl rfl rfl hc i pins s3 σ3 H3 X.xe I3 (stat fr3) st3 go) fun r s4 ⟨u,hr,h4⟩ => ?_)
  subst hr
  refine wpAny_passesOwn hp (thn h4 fun _ s5 ⟨x,H5,I5,r5,y5,st5,fr5⟩ => ?_)
  have I5':=I5.pinned (stat fr5) (T.obj _ _ st5)
  refine wpAny_passesOwn hp (thn (hg _ s5 σ3 H5 x u _ I5' r5 (step x H5 y5)) fun _ s6 ⟨σ6,H6,I6,q6⟩ => ?_)
  refine wpAny_passesOwn hp (thn (hb _ s6 σ6 H6 _ I6 q6) fun f s7 q7 => ?_)
  have again : ∀ {σ7 : St} {H7 : Hp},Inv X (pins ++ za1 fp s5.heap) σ7 H7 s7 → N σ7 H7 → ∃ m,m < n ∧ ∃ i σ' H',Inv X pins σ' H' s7 ∧ tn i s7.heap ∧ (∀ b ∈ fp,H' b = none) ∧ W i m σ' H':=fun {σ7 H7} I7 n7 => by
   obtain ⟨m',hm,w7⟩:=hN σ7 H7 n7
   refine ⟨m',hm,i + 1,σ7,H7,I7.unpinned,T.keep _ _ _ st5 fun b hb o e => (I7.pin (b,o) (List.mem_append_right _ (List.mem_append_right _ (zaP hb e)))).1,fun b hb => ?_,w7⟩
   obtain ⟨o,e,d⟩:=T.obj _ _ st5 b hb
   exact (I7.pin (b,o) (List.mem_append_right _ (List.mem_append_right _ (zaP hb e)))).2.1
  cases f with
  | next => obtain ⟨σ7,H7,I7,n7⟩:=q7; exact again I7 n7
  | cont => obtain ⟨σ7,H7,I7,n7⟩:=q7; exact again I7 n7
  | brk => obtain ⟨σ7,H7,I7,q7⟩:=q7; exact ⟨σ7,H7,I7.unpinned,q7⟩
  | ret v => obtain ⟨x7,σ7,H7,I7,r7,q7⟩:=q7; exact ⟨x7,σ7,H7,I7.unpinned,r7,q7⟩
end
theorem zbZ {K : PySem.W.Frag} {a : Addr} {xs : List V} {g : TG} {tb : TS} {D : Ends} {σ : St} {H : Hp} (Pv : Nat → St → Hp → Prop) (h0 : Pv 0 σ H) (hl : ∀ i σ H,i ≤ xs.length → Pv i σ H → SqL K H a xs)
  (hs : ∀ i x σ H,xs[i]? = some x → Pv i σ H → g x σ H fun σ2 H2 => tb { D with nx:=Pv (i + 1),ct:=Pv (i + 1),bk:=D.nx } σ2 H2) (hd : ∀ σ H,Pv xs.length σ H → D.nx σ H) :
  ∃ W : Nat → Nat → St → Hp → Prop,(∃ m,W 0 m σ H) ∧ ∀ i m σ H,W i m σ H →
   ((Itl K a).stop i H ∧ D.nx σ H) ∨ ((Itl K a).go i H ∧ ∃ N : St → Hp → Prop,(∀ σ' H',N σ' H' → ∃ m',m' < m ∧ W (i + 1) m' σ' H') ∧ ∀ x H',(Itl K a).yld i H x H' → g x σ H' fun σ2 H2 => tb { D with nx:=N,ct:=N,bk:=D.nx } σ2 H2):=by
 refine ⟨fun i m σ H => m = xs.length - i ∧ i ≤ xs.length ∧ Pv i σ H,⟨xs.length,by simp,Nat.zero_le _,h0⟩,?_⟩
 rintro i m σ H ⟨rfl,hi,p⟩
 have q:=hl i σ H hi p
 by_cases hlt : i < xs.length
 ·refine .inr ⟨⟨xs,xs[i],q,by simp [hlt]⟩,Pv (i + 1),fun σ' H' p' => ⟨xs.length - (i + 1),by omega,rfl,hlt,p'⟩,fun x H' y => ?_⟩
  obtain ⟨e,y⟩:=y
  subst e
  exact hs i x σ _ (y xs q) p
 ·have e : i = xs.length:=by omega
  subst e
  exact .inl ⟨⟨xs,q,Nat.le_refl _⟩,hd σ H p⟩
theorem zf2 {K : PySem.W.Frag} {a : Addr} {xs : List V} {g : TG} {tb : TS} {D : Ends} {σ : St} {H : Hp} (Pv : Nat → St → Hp → Prop) (h0 : Pv 0 σ H) (hl : ∀ i σ H,i ≤ xs.length → Pv i σ H → SqT K H a xs)
  (hs : ∀ i x σ H,xs[i]? = some x → Pv i σ H → g x σ H fun σ2 H2 => tb { D with nx:=Pv (i + 1),ct:=Pv (i + 1),bk:=D.nx } σ2 H2) (hd : ∀ σ H,Pv xs.length σ H → D.nx σ H) :
  ∃ W : Nat → Nat → St → Hp → Prop,(∃ m,W 0 m σ H) ∧ ∀ i m σ H,W i m σ H →
   ((Itt K a).stop i H ∧ D.nx σ H) ∨ ((Itt K a).go i H ∧ ∃ N : St → Hp → Prop,(∀ σ' H',N σ' H' → ∃ m',m' < m ∧ W (i + 1) m' σ' H') ∧ ∀ x H',(Itt K a).yld i H x H' → g x σ H' fun σ2 H2 => tb { D with nx:=N,ct:=N,bk:=D.nx } σ2 H2):=by
 refine ⟨fun i m σ H => m = xs.length - i ∧ i ≤ xs.length ∧ Pv i σ H,⟨xs.length,by simp,Nat.zero_le _,h0⟩,?_⟩
 rintro i m σ H ⟨rfl,hi,p⟩
 have q:=hl i σ H hi p
 by_cases hlt : i < xs.length
 ·refine .inr ⟨⟨xs,xs[i],q,by simp [hlt]⟩,Pv (i + 1),fun σ' H' p' => ⟨xs.length - (i + 1),by omega,rfl,hlt,p'⟩,fun x H' y => ?_⟩
  obtain ⟨e,y⟩:=y
  subst e
  exact hs i x σ _ (y xs q) p
 ·have e : i = xs.length:=by omega
  subst e
  exact .inl ⟨⟨xs,q,Nat.le_refl _⟩,hd σ H p⟩
theorem zT {lo : Int} {n : Nat} {g : TG} {tb : TS} {D : Ends} {σ : St} {H : Hp} (Pv : Nat → St → Hp → Prop) (h0 : Pv 0 σ H)
  (hs : ∀ i σ H,i < n → Pv i σ H → g (.int (lo + i)) σ H fun σ2 H2 => tb { D with nx:=Pv (i + 1),ct:=Pv (i + 1),bk:=D.nx } σ2 H2) (hd : ∀ σ H,Pv n σ H → D.nx σ H) :
  ∃ W : Nat → Nat → St → Hp → Prop,(∃ m,W 0 m σ H) ∧ ∀ i m σ H,W i m σ H →
   ((Itr lo n).stop i H ∧ D.nx σ H) ∨ ((Itr lo n).go i H ∧ ∃ N : St → Hp → Prop,(∀ σ' H',N σ' H' → ∃ m',m' < m ∧ W (i + 1) m' σ' H') ∧ ∀ x H',(Itr lo n).yld i H x H' → g x σ H' fun σ2 H2 => tb { D with nx:=N,ct:=N,bk:=D.nx } σ2 H2):=by
 refine ⟨fun i m σ H => m = n - i ∧ i ≤ n ∧ Pv i σ H,⟨n,by simp,Nat.zero_le _,h0⟩,?_⟩
 rintro i m σ H ⟨rfl,hi,p⟩
 by_cases hlt : i < n
 ·refine .inr ⟨hlt,Pv (i + 1),fun σ' H' p' => ⟨n - (i + 1),by omega,rfl,hlt,p'⟩,fun x H' y => ?_⟩
  obtain ⟨e,y⟩:=y
  subst e y
  exact hs i σ _ hlt p
 ·have e : i = n:=by omega
  subst e
  exact .inl ⟨Nat.le_refl _,hd σ H p⟩
end L2
namespace L2
open PySem PySem.Spec PyProof.Rows
abbrev R2:=V → V → Hp → VK → Prop
def OpR (X : Cx) (f : Value → Value → Sem Value) (r : R2) : Prop :=
 ∀ (pins : List (Addr × Obj)) (s : Shared) (σ : St) (H : Hp) (x y : V) (v u : Value) (Q : VK),Inv X pins σ H s → RelV x v → RelV y u → r x y H Q →
  wpAny (model X.prog X.w) X.A (f v u) (EP X pins σ Q) X.xe s
def UnR (X : Cx) (f : Value → Sem Value) (r : V → Hp → VK → Prop) : Prop :=
 ∀ (pins : List (Addr × Obj)) (s : Shared) (σ : St) (H : Hp) (x : V) (v : Value) (Q : VK),Inv X pins σ H s → RelV x v → r x H Q →
  wpAny (model X.prog X.w) X.A (f v) (EP X pins σ Q) X.xe s
def zar (X : Cx) (f : Value) (r : List V → Hp → VK → Prop) : Prop :=
 ∀ (pins : List (Addr × Obj)) (s : Shared) (σ : St) (H : Hp) (xs : List V) (us : List Value) (Q : VK),Inv X pins σ H s → zt xs us → r xs H Q →
  wpAny (model X.prog X.w) X.A (call f us) (EP X pins σ Q) X.xe s
def tOp (r : R2) (ta tb : TE) : TE:=fun σ H Q => ta σ H fun x H1 => tb σ H1 fun y H2 => r x y H2 Q
def tUn (r : V → Hp → VK → Prop) (ta : TE) : TE:=fun σ H Q => ta σ H fun x H1 => r x H1 Q
def rI (C : Int → Int → Prop) (g : Int → Int → V) : R2:=fun x y H Q => ∃ i j,x = .int i ∧ y = .int j ∧ C i j ∧ Q (g i j) H
def rI0 (g : Int → Int → V) : R2:=fun x y H Q => ∃ i j,x = .int i ∧ y = .int j ∧ Q (g i j) H
def rU (g : Int → V) : V → Hp → VK → Prop:=fun x H Q => ∃ i,x = .int i ∧ Q (g i) H
section
variable {X : Cx} {a b c : Expr} {ta tb tc : TE} {pos : Pos}
theorem zhy (ha : PE X a ta) (hb : PE X b tb) {pins : List (Addr × Obj)} {s : Shared} {σ : St} {H : Hp} {R : V → V → Hp → Prop} (I : Inv X pins σ H s)
  (h : ta σ H fun x H1 => tb σ H1 fun y H2 => R x y H2) {Q : Value → Shared → Prop} {f : Value → Value → Sem Value}
  (hf : ∀ v u s2 x y H2,Inv X pins σ H2 s2 → RelV x v → RelV y u → R x y H2 → wpAny (model X.prog X.w) X.A (f v u) Q X.xe s2) :
  wpAny (model X.prog X.w) X.A (eval a X.env) (fun v s₁ => wpAny (model X.prog X.w) X.A (eval b X.env) (fun u s₂ => wpAny (model X.prog X.w) X.A (f v u) Q X.xe s₂) X.xe s₁) X.xe s:=by
 refine thn (ha pins s σ H _ I h) fun v s1 ⟨x,H1,I1,r1,q1⟩ => ?_
 refine thn (hb pins s1 σ H1 _ I1 q1) fun u s2 ⟨y,H2,I2,r2,q2⟩ => ?_
 exact hf v u s2 x y H2 I2 r1 r2 q2
theorem zg {op : Operator} {r : R2} (ho : OpR X (binaryOp op) r) (ha : PE X a ta) (hb : PE X b tb) : PE X (.BinOp a op b pos) (tOp r ta tb):=by
 intro pins s σ H Q I h
 exact wpAny_BinOp (zhy ha hb I h fun v u s2 x y H2 I2 rx ry q => ho pins s2 σ H2 x y v u Q I2 rx ry q)
theorem zed {op : UnaryOp} {r : V → Hp → VK → Prop} (ho : UnR X (unaryOp op) r) (ha : PE X a ta) : PE X (.UnaryOp op a pos) (tUn r ta):=by
 intro pins s σ H Q I h
 exact UnaryOp_ (thn (ha pins s σ H _ I h) fun v s1 ⟨x,H1,I1,r1,q1⟩ => ho pins s1 σ H1 x v Q I1 r1 q1)
theorem opI {f : Value → Value → Sem Value} {C : Int → Int → Prop} {g : Int → Int → Int}
  (rule : ∀ (i j : Int) (t u : Tok) (s : Shared) (Q : Value → Shared → Prop) (E : Value → Shared → Prop),C i j → Q (.int (g i j) s.toks) { s with toks:=s.toks + 1 } → wpAny (model X.prog X.w) X.A (f (.int i t) (.int j u)) Q E s) :
  OpR X f (rI C fun i j => .int (g i j)):=by
 intro pins s σ H x y v u Q I rx ry h
 obtain ⟨i,j,rfl,rfl,hc,q⟩:=h
 obtain ⟨t,rfl⟩:=rx
 obtain ⟨t',rfl⟩:=ry
 exact rule i j t t' s _ _ hc ⟨.int (g i j),H,I.tok _,⟨_,rfl⟩,q⟩
theorem zhz {f : Value → Value → Sem Value} {g : Int → Int → Int}
  (rule : ∀ (i j : Int) (t u : Tok) (s : Shared) (Q : Value → Shared → Prop) (E : Value → Shared → Prop),Q (.int (g i j) s.toks) { s with toks:=s.toks + 1 } → wpAny (model X.prog X.w) X.A (f (.int i t) (.int j u)) Q E s) :
  OpR X f (rI0 fun i j => .int (g i j)):=by
 intro pins s σ H x y v u Q I rx ry h
 obtain ⟨i,j,rfl,rfl,q⟩:=h
 obtain ⟨t,rfl⟩:=rx
 obtain ⟨t',rfl⟩:=ry
 exact rule i j t t' s _ _ ⟨.int (g i j),H,I.tok _,⟨_,rfl⟩,q⟩
theorem zgX {f : Value → Value → Sem Value} {g : Int → Int → Bool}
  (rule : ∀ (i j : Int) (t u : Tok) (s : Shared) (Q : Value → Shared → Prop) (E : Value → Shared → Prop),Q (.bool (g i j)) s → wpAny (model X.prog X.w) X.A (f (.int i t) (.int j u)) Q E s) :
  OpR X f (rI0 fun i j => .bl (g i j)):=by
 intro pins s σ H x y v u Q I rx ry h
 obtain ⟨i,j,rfl,rfl,q⟩:=h
 obtain ⟨t,rfl⟩:=rx
 obtain ⟨t',rfl⟩:=ry
 exact rule i j t t' s _ _ ⟨.bl (g i j),H,I,rfl,q⟩
def zh2 (i j : Int) : Prop:=0 < j ∧ j < 1073741824
def zh3 (i j : Int) : Prop:=0 ≤ j ∧ j ≤ 1000000 ∧ i.natAbs < 2 ^ 64
def zgY (i j : Int) : Prop:=(-(2 ^ 64) < i ∧ i < 2 ^ 64) ∨ (-(2 ^ 64) < j ∧ j < 2 ^ 64)
theorem zgY.ok {i j : Int} (h : zgY i j) : IntMulOk i j:=by
 rcases h with ⟨h1,h2⟩ | ⟨h1,h2⟩
 ·exact .of_left (intBits_le_64 h1 h2)
 ·exact .of_right (intBits_le_64 h1 h2)
theorem zu : OpR X (binaryOp .Add) (rI0 fun i j => .int (i + j)):=zhz fun _ _ _ _ _ _ _ q => add_int q
theorem zas : OpR X (binaryOp .Sub) (rI0 fun i j => .int (i - j)):=zhz fun _ _ _ _ _ _ _ q => sub_int q
theorem zD : OpR X (binaryOp .Mult) (rI zgY fun i j => .int (i * j)):=opI fun _ _ _ _ _ _ _ hc q => mul_int q hc.ok
theorem zee : OpR X (binaryOp .FloorDiv) (rI zh2 fun i j => .int (i / j)):=opI fun i j _ _ _ _ _ hc q => by
 have h1 : (0 : Int) < j:=hc.1
 have h2 : j < 1073741824:=hc.2
 exact floordiv_int (by omega) (by rw [Int.fdiv_eq_ediv_of_nonneg i (by omega)]; exact q) (.inl (PyProof.noPylong_small (by omega)))
theorem zq : OpR X (binaryOp .Mod) (rI (fun _ j => 0 < j) fun i j => .int (i % j)):=opI fun i j _ _ _ _ _ hc q => by
 have h1 : (0 : Int) < j:=hc
 exact mod_int' (by omega) (by rw [Int.fmod_eq_emod_of_nonneg i (by omega)]; exact q)
theorem zgZ : OpR X (binaryOp .Pow) (rI zh3 fun i j => .int (i ^ j.toNat)):=opI fun _ _ _ _ _ _ _ hc q => pow_int_small hc.1 hc.2.1 hc.2.2 q
theorem unI {f : Value → Sem Value} {g : Int → Int}
  (rule : ∀ (i : Int) (t : Tok) (s : Shared) (Q : Value → Shared → Prop) (E : Value → Shared → Prop),Q (.int (g i) s.toks) { s with toks:=s.toks + 1 } → wpAny (model X.prog X.w) X.A (f (.int i t)) Q E s) :
  UnR X f (rU fun i => .int (g i)):=by
 intro pins s σ H x v Q I rx h
 obtain ⟨i,rfl,q⟩:=h
 obtain ⟨t,rfl⟩:=rx
 exact rule i t s _ _ ⟨.int (g i),H,I.tok _,⟨_,rfl⟩,q⟩
theorem zcD : UnR X (unaryOp .USub) (rU fun i => .int (-i)):=unI fun _ _ _ _ _ q => neg_int q
end
def zhA : V → V → Bool
 | .non,.non => true | .non,.int _ => true | .int _,.non => true | .non,.bl _ => true | .bl _,.non => true | .non,.str _ => true | .str _,.non => true
 | .int _,.int _ => true | .bl _,.bl _ => true | .str _,.str _ => true | .byt _,.byt _ => true
 | .int _,.str _ => true | .str _,.int _ => true | .bl _,.str _ => true | .str _,.bl _ => true
 | _,_ => false
def rEq : R2:=fun x y H Q => zhA x y = true ∧ Q (.bl (decide (x = y))) H
def rNe : R2:=fun x y H Q => zhA x y = true ∧ Q (.bl (!decide (x = y))) H
theorem zef {i j : Int} : decide (V.int i = V.int j) = (i == j):=by
 rw [Bool.eq_iff_iff]
 simp
theorem zfa {i j : Bool} : decide (V.bl i = V.bl j) = (i == j):=by
 rw [Bool.eq_iff_iff]
 simp
theorem zeg {i j : Str} : decide (V.str i = V.str j) = (i == j):=by
 rw [Bool.eq_iff_iff]
 simp
theorem zeh {i j : Array UInt8} : decide (V.byt i = V.byt j) = (i.toList == j.toList):=by
 rw [Bool.eq_iff_iff]
 cases i
 cases j
 simp
section
variable {X : Cx} {a b c : Expr} {ta tb tc : TE} {pos : Pos}
theorem zy {pins : List (Addr × Obj)} {σ : St} {H : Hp} {s : Shared} {Q : VK} {k k' : Bool} (I : Inv X pins σ H s) (q : Q (.bl k) H) (e : k = k') : EP X pins σ Q (.bool k') s:=by
 subst e
 exact ⟨.bl k,H,I,rfl,q⟩
theorem zgC : OpR X (compareOp .Eq) rEq:=by
 intro pins s σ H x y v u Q I rx ry h
 obtain ⟨hs,q⟩:=h
 cases x with
 | non =>
  cases rx
  cases y with
  | non => cases ry; exact PySem.EqNone.eq_none_none (zy I q (by simp))
  | bl j => cases ry; exact PySem.EqNone.eq_none_bool (zy I q (by simp))
  | int j => obtain ⟨t',rfl⟩:=ry; exact PySem.EqNone.eq_none_int (zy I q (by simp))
  | str j => obtain ⟨t',rfl⟩:=ry; exact PySem.EqNone.eq_none_str (zy I q (by simp))
  | _ => exact absurd (show false = true from hs) Bool.false_ne_true
 | bl i =>
  cases rx
  cases y with
  | non => cases ry; exact PySem.EqNone.eq_bool_none (zy I q (by simp))
  | bl j => cases ry; exact eq_bool (zy I q zfa)
  | str j => obtain ⟨t',rfl⟩:=ry; exact PySem.EqMixed.eq_bool_str (zy I q (by simp))
  | _ => exact absurd (show false = true from hs) Bool.false_ne_true
 | int i =>
  obtain ⟨t,rfl⟩:=rx
  cases y with
  | non => cases ry; exact PySem.EqNone.eq_int_none (zy I q (by simp))
  | int j => obtain ⟨t',rfl⟩:=ry; exact eq_int (zy I q zef)
  | str j => obtain ⟨t',rfl⟩:=ry; exact PySem.EqMixed.eq_int_str (zy I q (by simp))
  | _ => exact absurd (show false = true from hs) Bool.false_ne_true
 | str i =>
  obtain ⟨t,rfl⟩:=rx
  cases y with
  | non => cases ry; exact PySem.EqNone.eq_str_none (zy I q (by simp))
  | bl j => cases ry; exact PySem.EqMixed.eq_str_bool (zy I q (by simp))
  | int j => obtain ⟨t',rfl⟩:=ry; exact PySem.EqMixed.eq_str_int (zy I q (by simp))
  | str j => obtain ⟨t',rfl⟩:=ry; exact eq_str (zy I q zeg)
  | _ => exact absurd (show false = true from hs) Bool.false_ne_true
 | byt i =>
  obtain ⟨t,rfl⟩:=rx
  cases y with
  | byt j => obtain ⟨t',rfl⟩:=ry; exact PySem.W.eq_bytes (zy I q zeh)
  | _ => exact absurd (show false = true from hs) Bool.false_ne_true
 | _ => cases y <;> exact absurd (show false = true from hs) Bool.false_ne_true
theorem zck : OpR X (compareOp .NotEq) rNe:=by
 intro pins s σ H x y v u Q I rx ry h
 obtain ⟨hs,q⟩:=h
 cases x with
 | non =>
  cases rx
  cases y with
  | non => cases ry; exact PySem.EqNone.ne_none_none (zy I q (by simp))
  | bl j => cases ry; exact PySem.EqNone.ne_none_bool (zy I q (by simp))
  | int j => obtain ⟨t',rfl⟩:=ry; exact PySem.EqNone.ne_none_int (zy I q (by simp))
  | str j => obtain ⟨t',rfl⟩:=ry; exact PySem.EqNone.ne_none_str (zy I q (by simp))
  | _ => exact absurd (show false = true from hs) Bool.false_ne_true
 | bl i =>
  cases rx
  cases y with
  | non => cases ry; exact PySem.EqNone.ne_bool_none (zy I q (by simp))
  | bl j => cases ry; exact ne_bool (zy I q (congrArg not zfa))
  | str j => obtain ⟨t',rfl⟩:=ry; exact PySem.EqMixed.ne_bool_str (zy I q (by simp))
  | _ => exact absurd (show false = true from hs) Bool.false_ne_true
 | int i =>
  obtain ⟨t,rfl⟩:=rx
  cases y with
  | non => cases ry; exact PySem.EqNone.ne_int_none (zy I q (by simp))
  | int j => obtain ⟨t',rfl⟩:=ry; exact ne_int (zy I q (congrArg not zef))
  | str j => obtain ⟨t',rfl⟩:=ry; exact PySem.EqMixed.ne_int_str (zy I q (by simp))
  | _ => exact absurd (show false = true from hs) Bool.false_ne_true
 | str i =>
  obtain ⟨t,rfl⟩:=rx
  cases y with
  | non => cases ry; exact PySem.EqNone.ne_str_none (zy I q (by simp))
  | bl j => cases ry; exact PySem.EqMixed.ne_str_bool (zy I q (by simp))
  | int j => obtain ⟨t',rfl⟩:=ry; exact PySem.EqMixed.ne_str_int (zy I q (by simp))
  | str j => obtain ⟨t',rfl⟩:=ry; exact ne_str (zy I q (congrArg not zeg))
  | _ => exact absurd (show false = true from hs) Bool.false_ne_true
 | byt i =>
  obtain ⟨t,rfl⟩:=rx
  cases y with
  | byt j => obtain ⟨t',rfl⟩:=ry; exact PySem.W.ne_bytes (zy I q (congrArg not zeh))
  | _ => exact absurd (show false = true from hs) Bool.false_ne_true
 | _ => cases y <;> exact absurd (show false = true from hs) Bool.false_ne_true
theorem zgD : OpR X (compareOp .Lt) (rI0 fun i j => .bl (decide (i < j))):=zgX fun _ _ _ _ _ _ _ q => lt_int q
theorem zgE : OpR X (compareOp .Gt) (rI0 fun i j => .bl (decide (j < i))):=zgX fun _ _ _ _ _ _ _ q => gt_int q
theorem zhB : OpR X (compareOp .GtE) (rI0 fun i j => .bl (decide (j ≤ i))):=zgX fun _ _ _ _ _ _ _ q => ge_int q
theorem z6 (b : Expr) {op : CmpOp} (h : op ≠ .In:=by decide) (h2 : op ≠ .NotIn:=by decide) : behindInMarks op b = false:=by
 have e1 : (op == CmpOp.In) = false:=by cases op <;> first | rfl | exact absurd rfl h
 have e2 : (op == CmpOp.NotIn) = false:=by cases op <;> first | rfl | exact absurd rfl h2
 cases b <;> simp [behindInMarks,e1,e2]
def zhC (t : TE) : TT:=fun σ H Q => t σ H fun x H' => ∃ k,x = .bl k ∧ Q k H'
theorem zR {op : CmpOp} {r : R2} (ho : OpR X (compareOp op) r) (ha : PE X a ta) (hb : PE X b tb) (hm : behindInMarks op b = false) : PT X (.Compare a [op] [b] pos) (zhC (tOp r ta tb)):=by
 intro pins s σ H Q I h
 refine wpAny_isTrue_Compare1 (thn (ha pins s σ H _ I h) fun v s1 ⟨x,H1,I1,r1,q1⟩ => thn (hb pins s1 σ H1 _ I1 q1) fun u s2 ⟨y,H2,I2,r2,q2⟩ =>
  thn (ho pins s2 σ H2 x y v u _ I2 r1 r2 q2) fun c s3 ⟨z,H3,I3,r3,k,e,q3⟩ => ?_) hm
 subst e
 cases r3
 exact wpAny_truthy_bool ⟨H3,I3,q3⟩
theorem zcE : (sizeLine : Nat) < 2 ^ 63:=by rw [sizeLine_eq]; decide
theorem vals1 {x : V} {us : List Value} (r : zt [x] us) : ∃ u,us = [u] ∧ RelV x u:=by
 cases r with
 | cons r1 r2 => cases r2; exact ⟨_,rfl,r1⟩
theorem vals2 {x y : V} {us : List Value} (r : zt [x,y] us) : ∃ u w',us = [u,w'] ∧ RelV x u ∧ RelV y w':=by
 cases r with
 | cons r1 r2 =>
  cases r2 with
  | cons r3 r4 => cases r4; exact ⟨_,_,rfl,r1,r3⟩
theorem zcl (hc : X.calm = true) : zar X (.builtin "min") (fun xs H Q => ∃ i j,xs = [.int i,.int j] ∧ Q (.int (if j < i then j else i)) H):=by
 intro pins s σ H xs us Q I r h
 obtain ⟨i,j,rfl,q⟩:=h
 obtain ⟨u,w',rfl,⟨t,rfl⟩,⟨t',rfl⟩⟩:=vals2 r
 refine min_two_ints (I.ok.hd hc) fun h' tk k => ⟨_,H,I.kept k,?_,q⟩
 by_cases hj : j < i
 ·rw [if_pos hj,if_pos hj]; exact ⟨_,rfl⟩
 ·rw [if_neg hj,if_neg hj]; exact ⟨_,rfl⟩
end
end L2
namespace L2
open PySem PySem.Spec PyProof.Rows
structure ObjM (h : Heap) (x dx C : Addr) (mA : Str → Option Value) : Prop where
 obj : h.get? x = some (PySem.W.instObj C dx)
 ns : h.Ns1 dx mA
 ne : dx ≠ x
theorem zeB {h : Heap} {dx : Addr} {mA : Str → Option Value} (n : h.Ns1 dx mA) : ∃ od,h.get? dx = some od ∧ ∀ name,PySem.W.lookIn name od = some (mA name):=by
 obtain ⟨o,es,ep,ho,hd,hk,_,hm⟩:=n
 refine ⟨o,ho,fun name => ?_⟩
 have e:=hm name
 unfold nsFind findBy at e
 rw [← Array.find?_toList] at e
 unfold PySem.W.lookIn
 rw [hd]
 dsimp only
 split
 ·rename_i y q
  rw [q] at e
  exact congrArg some e
 ·rename_i q
  rw [q] at e
  have a : es.toList.any (·.refKey) = false:=by
   rw [List.any_eq_false]
   intro y hy
   obtain ⟨z,t,hkey⟩:=hk y (Array.mem_toList_iff.mp hy)
   simp [DictEntry.refKey,hkey]
  have a' : ¬ es.toList.any (·.refKey) = true:=by rw [a]; exact Bool.false_ne_true
  rw [if_neg a']
  exact congrArg some e
theorem ObjM.look {h : Heap} {x dx C : Addr} {mA : Str → Option Value} (I : ObjM h x dx C mA) : ∃ od,PySem.W.InstAt h x (PySem.W.instObj C dx) C (some od) ∧ ∀ name,PySem.W.lookIn name od = some (mA name) :=
 let ⟨od,ho,hl⟩:=zeB I.ns
 ⟨od,⟨I.obj,rfl,rfl,ho⟩,hl⟩
section
variable {prog : Program} {w : World} {A : Around} {E : Value → Shared → Prop} {s : Shared} {K : PySem.W.Frag} {x dx C f : Addr} {mA : Str → Option Value} {name : Str} {v : Value}
end
section
variable {P : Program} {w : World} {H H' : Hp} {h h' : Heap} {a C dx : Addr} {fs fs' : List (Str × V)}
theorem zf3 (hok : HOk P w H h) (e : H a = some (.ins C dx fs)) : ∃ mA,ObjM h a dx C mA ∧ (∀ f,zgQ (fs.lookup f) (mA f)) ∧ PySem.Within mA (fs.map (·.1)) ∧ fs.length ≤ 1000 ∧ H dx = some (.own a):=by
 obtain ⟨d,z,ne,ob,mA,n,r,q⟩:=(show zV P w H h a (.ins C dx fs) from hok a _ e)
 exact ⟨mA,⟨ob,n,ne⟩,r,q,z,d⟩
end
structure Cls (K : PySem.W.Frag) (C : Addr) : Prop where
 pg : PySem.W.plainGet K C Str.empty = true
 hd : PySem.W.hasDictIn K C = true
 po : PySem.W.plainOver K C = true
 sa : PySem.W.findIn K (.ref C) "__setattr__" = some (some (.builtin "object.__setattr__"))
theorem Cls.get {K : PySem.W.Frag} {C : Addr} (c : Cls K C) (f : Str) : PySem.W.plainGet K C f = true:=c.pg
section
variable {X : Cx} {pins : List (Addr × Obj)} {σ : St} {H : Hp} {s : Shared} {a C dx : Addr} {fs : List (Str × V)} {f : Str} {v : V} {A : Around} {E : Value → Shared → Prop}
end
section
variable {X : Cx} {o e value : Expr} {f : Str} {pos pos' tpos : Pos} {ta tv : TE}
end
section
variable {X : Cx} {pins : List (Addr × Obj)} {σ : St} {H : Hp} {s : Shared} {A : Around} {E : Value → Shared → Prop} {Q : Value → Shared → Prop} {c : Value} {b : Bool}
inductive TyOf (K : PySem.W.Frag) (H : Hp) : V → Value → Prop where
 | non : TyOf K H .non (.type "NoneType")
 | bl (x : Bool) : TyOf K H (.bl x) (.type "bool")
 | int (i : Int) : TyOf K H (.int i) (.type "int")
 | str (x : Str) : TyOf K H (.str x) (.type "str")
 | flt (x : UInt64) : TyOf K H (.flt x) (.type "float")
 | lst {a : Addr} {xs : List V} (e : H a = some (.lst xs)) : TyOf K H (.ref a) (.type "list")
 | frz {a : Addr} {o : Obj} {xs : List V} (e : H a = some (.frz o (.lst xs))) : TyOf K H (.ref a) (.type "list")
 | tup {a : Addr} {xs : List V} (e : H a = some (.tup xs)) : TyOf K H (.ref a) (.type "tuple")
 | dK {a : Addr} {kvs : List (Key × V)} (e : H a = some (.dK kvs)) : TyOf K H (.ref a) (.type "dict")
 | dT {a : Addr} {kvs : List (List Key × V)} (e : H a = some (.dT kvs)) : TyOf K H (.ref a) (.type "dict")
 | ins {a C dx : Addr} {fs : List (Str × V)} (e : H a = some (.ins C dx fs)) (cl : Cls K C) (ha : PySem.W.findIn K (.ref C) "__class__" = some (some (.builtin "object.__class__")))
   (hn : PySem.W.specialIn K (.builtin "object.__class__") "__get__" = some (some (.builtin "getset_descriptor.__get__"))) (htk : PySem.W.takesIn K (.builtin "object.__class__") = some true)
   (hm : PySem.W.mroIn K C (.type "object") = some true) : TyOf K H (.ref a) (.ref C)
theorem zeC {x : V} {u t : Value} (I : Inv X pins σ H s) (rx : RelV x u) (ty : TyOf X.K H x t) (e : PySem.W.kitOne X.K t c = some b) (h : ∀ tk,Q (.bool b) { s with toks:=tk }) :
  wpAny (model X.prog X.w) A (call (.builtin "isinstance") [u,c]) Q E s:=by
 cases ty with
 | non => cases (show u = Value.none from rx); exact PySem.W.kia_one PySem.W.kitx_none I.kIn True.intro e (fun z => nomatch z) h
 | bl y => cases (show u = Value.bool y from rx); exact PySem.W.kia_one PySem.W.kitx_bool I.kIn True.intro e (fun z => nomatch z) h
 | int i => obtain ⟨t,q⟩:=(show ∃ t,u = Value.int i t from rx); cases q; exact PySem.W.kia_one PySem.W.kitx_int I.kIn True.intro e (fun z => nomatch z) h
 | str y => obtain ⟨t,q⟩:=(show ∃ t,u = Value.str y t from rx); cases q; exact PySem.W.kia_one PySem.W.kitx_str I.kIn True.intro e (fun z => nomatch z) h
 | flt y => obtain ⟨t,q⟩:=(show ∃ t,u = Value.float y t from rx); cases q; exact PySem.W.kia_one PySem.W.kitx_float I.kIn True.intro e (fun z => nomatch z) h
 | @lst a xs ea =>
  cases (show u = Value.ref a from rx)
  obtain ⟨_,_,n,_,h1⟩:=(show zV X.prog X.w H s.heap a (.lst xs) from I.hok a _ ea)
  exact PySem.W.kia_one PySem.W.kitx_list I.kIn ⟨_,h1,rfl⟩ e (fun z => nomatch z) h
 | @frz a ob xs ea =>
  cases (show u = Value.ref a from rx)
  obtain ⟨_,_,_,n,_,h1⟩:=(show zV X.prog X.w H s.heap a (.frz ob (.lst xs)) from I.hok a _ ea)
  exact PySem.W.kia_one PySem.W.kitx_list I.kIn ⟨_,h1,rfl⟩ e (fun z => nomatch z) h
 | @tup a xs ea =>
  cases (show u = Value.ref a from rx)
  obtain ⟨_,_,_,p⟩:=(show zV X.prog X.w H s.heap a (.tup xs) from I.hok a _ ea)
  obtain ⟨o,h1,h2,_⟩:=p
  exact PySem.W.kia_one PySem.W.kitx_tuple I.kIn ⟨o,h1,h2⟩ e (fun z => nomatch z) h
 | @dK a kvs ea =>
  cases (show u = Value.ref a from rx)
  obtain ⟨_,_,vs,_,p⟩:=(show zV X.prog X.w H s.heap a (.dK kvs) from I.hok a _ ea)
  obtain ⟨o,es,ep,h1,h2,_⟩:=p
  exact PySem.W.kia_one PySem.W.kitx_dict I.kIn ⟨o,h1,h2.1⟩ e (fun z => nomatch z) h
 | @dT a kvs ea =>
  cases (show u = Value.ref a from rx)
  obtain ⟨_,_,xs,_,o,es,ep,h1,h2,_⟩:=(show zV X.prog X.w H s.heap a (.dT kvs) from I.hok a _ ea)
  exact PySem.W.kia_one PySem.W.kitx_dict I.kIn ⟨o,h1,h2.1⟩ e (fun z => nomatch z) h
 | @ins a C dx fs ea cl ha hn htk hm =>
  cases (show u = Value.ref a from rx)
  obtain ⟨mA,O,_⟩:=zf3 I.hok ea
  obtain ⟨od,J,_⟩:=O.look
  exact PySem.W.kia_one (PySem.W.kitx_own (cl.get _) cl.hd ha hn htk hm) I.kIn J e (fun z => nomatch z) h
end
end L2
namespace L2
open PySem PySem.Spec PyProof.Rows
structure Room (k : Nat) (A : Around) : Prop where
 hd : A.handled = none
 dp : A.depth + 3 * k + 5 < recursionLimit
 un : A.units + 16 * k + 200 < cLine
theorem Room.mono {j k : Nat} {A : Around} (r : Room k A) (h : j ≤ k) : Room j A:=⟨r.hd,by have:=r.dp; omega,by have:=r.un; omega⟩
theorem Room.deeper {k : Nat} {A : Around} (r : Room (k + 1) A) (env : Env) : Room k (A.deeper env) :=
 ⟨r.hd,by have:=r.dp; show A.depth + 1 + 3 * k + 5 < _; omega,by have:=r.un; show A.units + 3 + 16 * k + 200 < _; omega⟩
theorem Room.depth {k : Nat} {A : Around} (r : Room k A) : A.depth < recursionLimit:=by have:=r.dp; omega
theorem Room.units {k : Nat} {A : Around} (r : Room k A) : A.units + 64 < cLine:=by have:=r.un; omega
def zh4 : TA:=fun _ H Q => Q [] H
def zgF (ta : TE) (tr : TA) : TA:=fun σ H Q => ta σ H fun x H1 => tr σ H1 fun xs H2 => Q (x :: xs) H2
section
variable {X : Cx} {e : Expr} {es : List Expr} {te : TE} {t : TA} {pos : Pos}
theorem zd : PA X [] zh4:=fun _ _ _ _ H Q I h => Calls.spliced_nil ⟨[],H,I,.nil,h⟩
theorem za (ha : PE X e te) (hr : PA X es t) (hs : starEach (e :: es) X.env = (false,eval e X.env) :: starEach es X.env:=by rfl) : PA X (e :: es) (zgF te t):=by
 intro pos pins s σ H Q I h
 rw [hs]
 show wpAny _ _ (spliced ((false,eval e X.env) :: backTo pos (starEach es X.env))) _ _ s
 refine Calls.spliced_cons (thn (ha pins s σ H _ I h) fun u s1 ⟨x,H1,I1,r1,q1⟩ => ?_)
 exact thn (hr pos pins s1 σ H1 _ I1 q1) fun us s2 ⟨xs,H2,I2,r2,q2⟩ => ⟨x :: xs,H2,I2,.cons r1 r2,q2⟩
def zh5 (t : TA) : TE:=fun σ H Q => t σ H fun xs H1 => xs.length ≤ sizeLine ∧ ∀ p,H1 p = none → Q (.ref p) (upd H1 p (.tup xs))
def zf4 (t : TA) : TE:=fun σ H Q => t σ H fun xs H1 => xs.length ≤ sizeLine ∧ ∀ p,H1 p = none → Q (.ref p) (upd H1 p (.lst xs))
theorem zaA {x1} (h : PA X es t) : PE X (.Tuple es x1 pos) (zh5 t):=by
 intro pins s σ H Q I hq
 refine wpAny_Tuple_spliced (thn (h pos pins s σ H _ I hq) fun us s1 ⟨xs,H1,I1,r,z,q⟩ => ⟨by rw [← r.length]; exact z,?_⟩)
 have hf : H1 s1.heap.objs.size = none:=I1.hok.fresh (Nat.le_refl _)
 refine ⟨.ref s1.heap.objs.size,upd H1 s1.heap.objs.size (.tup xs),I1.laid (t':=s1.toks) (fun b u e => Heap.get?_push_of_some _ e) (Nat.le_refl _) ?_,rfl,q _ hf⟩
 exact ⟨z,us,r,⟨_,Heap.get?_push_size _ rfl,rfl,_,rfl⟩⟩
theorem zad (h : PA X es t) : PE X (.List es pos) (zf4 t):=by
 intro pins s σ H Q I hq
 refine wpAny_List_spliced (thn (h pos pins s σ H _ I hq) fun us s1 ⟨xs,H1,I1,r,z,q⟩ => ⟨by rw [← r.length]; exact z,?_⟩)
 have hf : H1 s1.heap.objs.size = none:=I1.hok.fresh (Nat.le_refl _)
 refine ⟨.ref s1.heap.objs.size,upd H1 s1.heap.objs.size (.lst xs),I1.laid (t':=s1.toks) (fun b u e => Heap.get?_push_of_some _ e) (Nat.le_refl _) ?_,rfl,q _ hf⟩
 exact ⟨z,us,0,r,Heap.get?_push_size _ rfl⟩
end
abbrev Sp:=List V → Hp → VK → XK → Prop
abbrev CXT:=List Env → Hp → Shared → XK → Value → Shared → Prop
structure Env0 (P : Program) (w : World) (K : PySem.W.Frag) (mg : Str → Option Value) (base : Heap) (A : Around) (outer : List Env) (s : Shared) (H : Hp) : Prop where
 frames : A.frames = some outer
 mod : Mod K mg base
 bs : ∀ b o,base.get? b = some o → s.heap.get? b = some o ∧ H b = none
 bsz : base.objs.size ≤ s.heap.objs.size
 funs : s.heap.FunFrames base outer
 frf : ∀ b ∈ frs outer,H b = none
 hok : HOk P w H s.heap
 bare : AllBare s.gens
def CE (outer : List Env) (P : Program) (w : World) (H : Hp) (s : Shared) (Q : VK) (u : Value) (s' : Shared) : Prop :=
 ∃ v H',s'.os = s.os ∧ AllBare s'.gens ∧ Un (frs outer) [] H H' s.heap s'.heap ∧ HOk P w H' s'.heap ∧ RelV v u ∧ Q v H'
def CR (CX : CXT) (outer : List Env) (P : Program) (w : World) (H : Hp) (s : Shared) (Q : VK) (E : XK) (r : Result) (s' : Shared) : Prop :=
 match r with
 | .ok (.ret u) => CE outer P w H s Q u s'
 | .ok _ => False
 | .error e => CX outer H s E e s'
structure FnOk (P : Program) (w : World) (K : PySem.W.Frag) (mg : Str → Option Value) (base : Heap) (CX : CXT) (k : Nat) (f : Addr) (fd : FuncData) (ps : List Str) (sp : Sp) : Prop where
 len : ∀ vs H Q E,sp vs H Q E → vs.length = ps.length
 run : ∀ (A : Around) (outer : List Env) (s : Shared) (H : Hp) (args : Args) (us : List Value) (vs : List V) (Q : VK) (E : XK),Room k A → Env0 P w K mg base A outer s H → BindsTo s fd args (ps.zip us) → zt vs us → sp vs H Q E →
  codeAny (model P w) A (.call (.ref f) args) (CR CX outer P w H s Q E) s
section
variable {X : Cx} {pins : List (Addr × Obj)} {σ : St} {H : Hp} {s s' : Shared}
theorem Inv.env0 (I : Inv X pins σ H s) : Env0 X.prog X.w X.K X.mg X.base X.A X.stack s H :=
 ⟨I.ok.frames,I.ok.mod,I.bs,Nat.le_trans I.ok.bsz I.sz,I.stack,I.stkFree,I.hok,I.bare⟩
theorem Inv.after {Q : VK} {u : Value} (I : Inv X pins σ H s) (h : CE X.stack X.prog X.w H s Q u s') : EP X pins σ Q u s':=by
 obtain ⟨v,H',os,bare,un,hok,r,q⟩:=h
 obtain ⟨hh,g,d,t,os'⟩:=s'
 obtain rfl : os' = s.os:=os
 exact ⟨v,H',I.call (h':=hh) (g':=g) (d':=d) (t':=t) (ch:=[]) un hok bare (fun b z => absurd z (by simp)),r,q⟩
end
def zhD (sp : Sp) (dvs : List V) (E : XK) (t : TA) : TE:=fun σ H Q => t σ H fun vs H1 => sp (vs ++ dvs) H1 Q E
def Binds (K : PySem.W.Frag) (fd : FuncData) (ps : List Str) (ds : List Value) : Prop :=
 ∀ (s : Shared) (us : List Value),K.In s.heap → (us ++ ds).length = ps.length → BindsTo s fd ⟨us,[]⟩ (ps.zip (us ++ ds))
theorem Binds.all {K : PySem.W.Frag} {fd : FuncData} {ps : List Str} (h : ∀ us : List Value,us.length = ps.length → bindArgs fd ⟨us,[]⟩ = pure (ps.zip us)) : Binds K fd ps []:=fun s us _ hl => by
 rw [List.append_nil] at hl ⊢
 exact .of_eq (h us hl)
def zdJ (CX : CXT) (X : Cx) (E : XK) : Prop:=∀ (pins : List (Addr × Obj)) (σ : St) (H : Hp) (s : Shared) (e : Value) (s' : Shared),Inv X pins σ H s → CX X.stack H s E e s' → X.xe e s'
section
variable {X : Cx} {CX : CXT} {k : Nat} {f C : Addr} {fd : FuncData} {ps : List Str} {sp : Sp} {dvs : List V} {ds : List Value} {E : XK} {x m : Str} {p pos apos : Pos} {e o : Expr} {es : List Expr} {ta : TE} {t : TA}
theorem zg0 {pins : List (Addr × Obj)} {σ : St} {H : Hp} {s : Shared} {Q : VK} {us : List Value} {vs : List V} (F : FnOk X.prog X.w X.K X.mg X.base CX k f fd ps sp) (hr : Room k X.A) (hb : Binds X.K fd ps ds) (hd : zt dvs ds) (hx : zdJ CX X E)
  (I : Inv X pins σ H s) (r : zt vs us) (h : sp (vs ++ dvs) H Q E) : wpAny (model X.prog X.w) X.A (call (.ref f) us) (EP X pins σ Q) X.xe s:=by
 have r2 : zt (vs ++ dvs) (us ++ ds):=r.append hd
 have hl : (us ++ ds).length = ps.length:=by rw [← r2.length]; exact F.len _ _ _ _ h
 refine wpAny_call (codeAny_mono (F.run X.A X.stack s H ⟨us,[]⟩ (us ++ ds) (vs ++ dvs) Q E hr I.env0 (hb s us I.kIn hl) r2 h) fun r s' hq => ?_)
 cases r with
 | error e => exact hx pins σ H s e s' I hq
 | ok fl =>
  cases fl with
  | ret u => exact I.after hq
  | next => exact False.elim hq
  | brk => exact False.elim hq
  | cont => exact False.elim hq
theorem zm (F : FnOk X.prog X.w X.K X.mg X.base CX k f fd ps sp) (hr : Room k X.A) (hg : Gl X x) (hm : X.mg x = some (.ref f)) (hk : PySem.W.keepIn X.K (.ref f) = true) (hb : Binds X.K fd ps ds) (hd : zt dvs ds) (hx : zdJ CX X E)
  (ha : PA X (e :: es) t) (hdb : (x == ("__debug__" : Str)) = false:=by decide) (he : starEach (e :: es) X.env = (false,eval e X.env) :: starEach es X.env:=by rfl) (hpl : (backTo pos (starEach es X.env)).any (·.1) = false:=by rfl) :
  PE X (.Call (.Name x p) (e :: es) [] pos) (zhD sp dvs E t):=by
 intro pins s σ H Q I h
 refine wpAny_Call_Name_kw (zfZ I hg hm ?_ hdb)
 refine PySem.W.callWith_K (h₀:=X.base) I.ok.mod.kin hk (thn (ha pos pins s σ H _ I h) fun us s1 ⟨vs,H1,I1,r,q⟩ => ⟨I1.kIn,?_⟩) he hpl
 exact zg0 F hr hb hd hx I1 r q
end
section
variable {X : Cx} {CX : CXT} {k : Nat} {f C : Addr} {fd : FuncData} {ps ks : List Str} {sp : Sp} {E : XK} {x m : Str} {p pos apos kpos : Pos} {e o : Expr} {es : List Expr} {kws : List Keyword} {te ta : TE} {t tk : TA} {nm : Option Str}
variable {g : List Value → List Value → List Value} {gV : List V → List V → List V}
end
structure FnScope (N P : List Str) (sc : Scope) : Prop where
 kind : sc.kind = .function
 co : sc.isCoroutine = false
 gen : sc.isGenerator = false
 nd : N.Nodup
 pre : N.take P.length = P
 par : ∀ x ∈ P,sc.names.lookup x = some .local ∨ sc.names.lookup x = some .cell
 nofree : ∀ y ∈ sc.names,y.2 ≠ .free
theorem zcm {kindOf : Str → Option NameKind} {x : Str} : ∀ {binds : List (Str × Value)} {m : Str → Option Value},(∀ v,(x,v) ∉ binds) → bindL kindOf binds m x = m x
 | [],_,_ => rfl
 | (n,v) :: r,m,h => by
  unfold bindL
  rw [zcm fun w hw => h w (List.mem_cons_of_mem _ hw)]
  split
  ·have : x ≠ n:=by rintro rfl; exact h v List.mem_cons_self
   simp [this]
  ·rfl
theorem zcn {kindOf : Str → Option NameKind} {x : Str} : ∀ {binds : List (Str × Value)} {m : Str → Option Value},(∀ v,(x,v) ∉ binds) → bindC kindOf binds m x = m x
 | [],_,_ => rfl
 | (n,v) :: r,m,h => by
  unfold bindC
  rw [zcn fun w hw => h w (List.mem_cons_of_mem _ hw)]
  split
  ·rfl
  ·have : x ≠ n:=by rintro rfl; exact h v List.mem_cons_self
   simp [this]
theorem zco {kindOf : Str → Option NameKind} {x : Str} {v : Value} : ∀ {P : List Str} {vs : List Value} {i : Nat} {m : Str → Option Value},P.Nodup → P[i]? = some x → vs[i]? = some v → kindOf x = some .local →
  bindL kindOf (P.zip vs) m x = some v
 | [],_,_,_,_,h,_,_ => by simp at h
 | _ :: _,[],_,_,_,_,h,_ => by simp at h
 | p :: P,w :: vs,0,m,nd,h1,h2,hk => by
  simp at h1 h2; subst h1; subst h2
  show bindL kindOf ((p,w) :: P.zip vs) m p = _
  unfold bindL
  rw [zcm fun v hv => (List.nodup_cons.mp nd).1 (List.of_mem_zip hv).1,if_pos hk]
  simp
 | p :: P,w :: vs,i + 1,m,nd,h1,h2,hk => by
  show bindL kindOf ((p,w) :: P.zip vs) m x = _
  unfold bindL
  exact zco (i:=i) (List.nodup_cons.mp nd).2 (by simpa using h1) (by simpa using h2) hk
theorem zcp {kindOf : Str → Option NameKind} {x : Str} {v : Value} : ∀ {P : List Str} {vs : List Value} {i : Nat} {m : Str → Option Value},P.Nodup → P[i]? = some x → vs[i]? = some v → kindOf x ≠ some .local →
  bindC kindOf (P.zip vs) m x = some v
 | [],_,_,_,_,h,_,_ => by simp at h
 | _ :: _,[],_,_,_,_,h,_ => by simp at h
 | p :: P,w :: vs,0,m,nd,h1,h2,hk => by
  simp at h1 h2; subst h1; subst h2
  show bindC kindOf ((p,w) :: P.zip vs) m p = _
  unfold bindC
  rw [zcn fun v hv => (List.nodup_cons.mp nd).1 (List.of_mem_zip hv).1,if_neg hk]
  simp
 | p :: P,w :: vs,i + 1,m,nd,h1,h2,hk => by
  show bindC kindOf ((p,w) :: P.zip vs) m x = _
  unfold bindC
  exact zcp (i:=i) (List.nodup_cons.mp nd).2 (by simpa using h1) (by simpa using h2) hk
def start (N : List Str) (vs : List V) : St:=vs.map some ++ List.replicate (N.length - vs.length) none
def zeD (CX : CXT) (P : Program) (w : World) (K : PySem.W.Frag) (mg : Str → Option Value) (base : Heap) (N : List Str) (qual : Str) (scope : Scope) (f : Addr) (cd : Value) (A : Around) (outer : List Env) (s : Shared) (H : Hp) (E : XK) : Cx where
 prog:=P
 w:=w
 K:=K
 mg:=mg
 base:=base
 A:=A.deeper (envOfC qual scope s.heap.objs.size f cd)
 N:=N
 s₀:=s
 H₀:=H
 env:=envOfC qual scope s.heap.objs.size f cd
 outer:=outer
 stack:=envOfC qual scope s.heap.objs.size f cd :: outer
 ex:=[]
 calm:=true
 fn:=fun _ => true
 pn:=[]
 xe:=fun e s' => wpAny (model P w) (A.deeper (envOfC qual scope s.heap.objs.size f cd)) (leaving (envOfC qual scope s.heap.objs.size f cd) e) (fun _ s'' => CX outer H s E e s'') (fun e' s'' => CX outer H s E e' s'') s'
theorem zc4 {sc : Scope} {n : Nat} {x : Str} (h : sc.names.lookup x = some .cell) : ∃ c,(cellsFrom n sc.names []).lookup x = some c:=by
 have q:=PySem.W.cellsFrom_some sc.names n [] (.inl h)
 exact Option.isSome_iff_exists.mp q
theorem zeE {CX : CXT} {P : Program} {w : World} {K : PySem.W.Frag} {mg : Str → Option Value} {base : Heap} {N ps : List Str} {qual : Str} {scope : Scope} {f : Addr} {cd : Value} {A : Around} {outer : List Env} {s s1 : Shared} {H : Hp} {E : XK} {us : List Value} {vs : List V}
  (S : FnScope N ps scope) (hd : A.handled = none) (e0 : Env0 P w K mg base A outer s H) (hl : vs.length = ps.length) (r : zt vs us)
  (x : InCallC s s.heap.objs.size (bindL (envOfC qual scope s.heap.objs.size f cd).kindOf (ps.zip us) fun _ => none) (cellsFrom (s.heap.objs.size + 1) scope.names []) (bindC (envOfC qual scope s.heap.objs.size f cd).kindOf (ps.zip us) fun _ => none) s1) :
  Inv (zeD CX P w K mg base N qual scope f cd A outer s H E) [] (start N vs) H s1:=by
 have hpl : ps.length ≤ N.length:=by have:=congrArg List.length S.pre; rw [List.length_take] at this; omega
 obtain ⟨h1,tk,rfl,hk⟩:=x.done
 have noA : ∀ b : Addr,b ∉ (zeD CX P w K mg base N qual scope f cd A outer s H E).ex:=fun b z => absurd (show b ∈ ([] : List Addr) from z) (by simp)
 refine ⟨⟨e0.mod,S.kind,rfl,rfl,Nat.le_refl _,fun y z c h1 h2 => ?_,fun y hy => ?_,fun y c _ h => ?_,fun _ => hd,Around.frames_deeper e0.frames,.inr ⟨rfl,rfl⟩,fun b z => absurd z (noA b),e0.bs,e0.bsz,fun b _ _ => noA b,fun b z => absurd z (noA b),e0.funs,e0.frf⟩,
  rfl,e0.bare,Un.kept hk,⟨_,x.toInCall.ns,fun i y v h1 h2 h3 => ?_⟩,fun y c h => ⟨_,x.cell y c h⟩,e0.hok.fresh (Nat.le_refl _),fun y c h => ?_,fun p hp => absurd (show p ∈ ([] : List (Addr × Obj)) from hp) (by simp),e0.hok.kept hk,?_⟩
 ·exact name_of_addr x.apart (PySem.mem_of_lookup h1) (PySem.mem_of_lookup h2)
 ·have hy : scope.names.lookup y = some .cell ∨ scope.names.lookup y = some .free:=hy
  rcases hy with hy | hy
  ·exact zc4 hy
  ·exact absurd rfl (S.nofree _ (PySem.mem_of_lookup hy))
 ·exact Nat.le_of_lt (x.above y c (PySem.mem_of_lookup h))
 ·have hi : i < vs.length:=by
   unfold start at h2
   by_cases hi : i < vs.length
   ·exact hi
   ·rw [List.getElem?_append_right (by simpa using hi)] at h2
    rw [List.getElem?_replicate] at h2
    split at h2 <;> cases h2
  have ha : vs[i]? = some v:=by
   unfold start at h2
   rw [List.getElem?_append_left (by simpa using hi),List.getElem?_map] at h2
   cases e : vs[i]? with
   | none => rw [e] at h2; cases h2
   | some a => rw [e] at h2; cases h2; rfl
  obtain ⟨u,hu,rv⟩:=r.get ha
  have hp : ps[i]? = some y:=by
   rw [← S.pre,List.getElem?_take_of_lt (by omega)]; exact h1
  have ndP : ps.Nodup:=by rw [← S.pre]; exact S.nd.sublist (List.take_sublist _ _)
  refine ⟨u,rv,?_⟩
  rcases S.par y (List.mem_of_getElem? hp) with k | k
  ·exact .inl ⟨k,zco ndP hp hu k⟩
  ·obtain ⟨c,e⟩:=zc4 (n:=s.heap.objs.size + 1) k
   refine .inr ⟨.inl k,c,e,?_⟩
   have q:=x.cell y c e
   rw [zcp ndP hp hu (by show scope.names.lookup y ≠ _; rw [k]; decide)] at q
   exact q
 ·exact e0.hok.fresh (Nat.le_of_lt (x.above y c (PySem.mem_of_lookup h)))
 ·unfold start
  show _ = N.length
  rw [List.length_append,List.length_map,List.length_replicate]
  omega
theorem zhE {CX : CXT} {P : Program} {w : World} {K : PySem.W.Frag} {mg : Str → Option Value} {base : Heap} {k : Nat} {f : Addr} {name qual : Str} {params : Arguments} {body : List Stmt} {scope : Scope} {dV kV doc pm cdv ct oc : Value} {an od : Option Addr}
  {osl : Array (Option Value)} {N ps : List Str} {sp : Sp} (lk : K.lookup f = some ⟨oc,od,.func (PySem.W.fnOf name qual params body scope dV kV doc pm an cdv ct),osl⟩) (hcd : PySem.W.codeIn K cdv qual = true) (S : FnScope N ps scope)
  (len : ∀ vs H Q E,sp vs H Q E → vs.length = ps.length)
  (hbody : ∀ (A : Around) (outer : List Env) (s : Shared) (H : Hp) (vs : List V) (Q : VK) (E : XK),Room k (A.deeper (envOfC qual scope s.heap.objs.size f cdv)) → sp vs H Q E →
   ∃ t,PSs (zeD CX P w K mg base N qual scope f cdv A outer s H E) body t ∧ t { nx:=fun _ H' => Q .non H',rt:=Q } (start N vs) H) :
  FnOk P w K mg base CX (k + 1) f (PySem.W.fnOf name qual params body scope dV kV doc pm an cdv ct) ps sp:=by
 refine ⟨len,fun A outer s H args us vs Q E hr e0 hb r hsp => ?_⟩
 have hl:=len _ _ _ _ hsp
 have KX : K.In s.heap:=e0.mod.kin.keeps fun b o e => (e0.bs b o e).1
 have lim : s.heap.NoLimit:=e0.mod.nolimit.keeps fun b o e => (e0.bs b o e).1
 have hkind : ∀ y ∈ ps.zip us,scope.names.lookup y.1 = some .local ∨ (scope.names.lookup y.1 = some .cell ∧ ((cellsFrom (s.heap.objs.size + 1) scope.names []).lookup y.1).isSome = true):=fun ⟨n,v⟩ hy => by
  rcases S.par n (List.of_mem_zip hy).1 with q | q
  ·exact .inl q
  ·exact .inr ⟨q,PySem.W.cellsFrom_some _ _ _ (.inl q)⟩
 refine codeAny_call_function hr.depth (KX _ _ lk) rfl S.co S.gen rfl (PySem.W.codeRec_of KX hcd) (hb _ _ _ _ ?_)
 refine wpAny_newFunctionEnv_cells S.kind hkind fun env he s1 x => ?_
 subst he
 refine ⟨lim.keeps x.toInCall.keep,codeAny_func ?_⟩
 obtain ⟨t,ht,hq⟩:=hbody A outer s H vs Q E (hr.deeper _) hsp
 have I : Inv (zeD CX P w K mg base N qual scope f cdv A outer s H E) [] (start N vs) H s1:=zeE S hr.hd e0 hl r x
 refine wpAny_mono (ht [] s1 (start N vs) H _ I hq) (fun fl s' hs => ?_) fun e s' hs => hs
 have fin : ∀ {σ' : St} {H' : Hp} {v : V} {u : Value},Inv (zeD CX P w K mg base N qual scope f cdv A outer s H E) [] σ' H' s' → RelV v u → Q v H' → CE outer P w H s Q u s' :=
  fun {σ' H' v u} J rv q => ⟨v,H',J.os,J.bare,J.base,J.hok,rv,q⟩
 cases fl with
 | ret u =>
  obtain ⟨v,σ',H',J,rv,q⟩:=hs
  exact fin J rv q
 | next =>
  obtain ⟨σ',H',J,q⟩:=hs
  exact fin (v:=V.non) (u:=Value.none) J rfl q
 | brk =>
  obtain ⟨_,_,_,q⟩:=hs
  exact False.elim q
 | cont =>
  obtain ⟨_,_,_,q⟩:=hs
  exact False.elim q
end L2
namespace L2
open PySem PySem.Spec PyProof.Rows
section
variable {X : Cx} {x : Str} {p pos : Pos} {e : Expr} {es : List Expr} {t : TA} {id T : String} {r : List V → Hp → VK → Prop}
def tCB (r : List V → Hp → VK → Prop) (t : TA) : TE:=fun σ H Q => t σ H fun vs H1 => r vs H1 Q
theorem zp (hc : zar X (.builtin id) r) (hg : Gl X x) (hm : X.mg x = none) (hv : bootBuiltins x = some (.builtin id)) (ha : PA X (e :: es) t) (hn : x ≠ "__name__":=by decide) (hdb : (x == ("__debug__" : Str)) = false:=by decide)
  (he : starEach (e :: es) X.env = (false,eval e X.env) :: starEach es X.env:=by rfl) (hpl : (backTo pos (starEach es X.env)).any (·.1) = false:=by rfl) : PE X (.Call (.Name x p) (e :: es) [] pos) (tCB r t):=by
 intro pins s σ H Q I h
 refine wpAny_Call_Name_kw (zaN I hg hm hv ?_ hn hdb)
 exact PyProof.Rows.callWith_builtin1 (thn (ha pos pins s σ H _ I h) fun us s1 ⟨vs,H1,I1,r1,q1⟩ => hc pins s1 σ H1 vs us Q I1 r1 q1) he hpl
theorem zM (hc : zar X (.type T) r) (hg : Gl X x) (hm : X.mg x = none) (hv : bootBuiltins x = some (.type T)) (ha : PA X (e :: es) t) (hn : x ≠ "__name__":=by decide) (hdb : (x == ("__debug__" : Str)) = false:=by decide)
  (he : starEach (e :: es) X.env = (false,eval e X.env) :: starEach es X.env:=by rfl) (hpl : (backTo pos (starEach es X.env)).any (·.1) = false:=by rfl) : PE X (.Call (.Name x p) (e :: es) [] pos) (tCB r t):=by
 intro pins s σ H Q I h
 refine wpAny_Call_Name_kw (zaN I hg hm hv ?_ hn hdb)
 exact PyProof.Rows.callWith_type1 (thn (ha pos pins s σ H _ I h) fun us s1 ⟨vs,H1,I1,r1,q1⟩ => hc pins s1 σ H1 vs us Q I1 r1 q1) he hpl
end
end L2
namespace HT
open PySem PyProof.Rows
section
open PySem.SeqAt
open PySem.AutoSeq1 (wpAny_loadPart')
open PySem.MeetsSeq PySem.MeetsSeq2 PySem.MeetsSeq3
end
section
variable {prog : Program} {w : World} {A : Around} {E : Value → Shared → Prop} {s : Shared}
theorem cat_tup {t b : Addr} {vs ws : List Value} {Q : Value → Shared → Prop} (ht : IsTup s.heap t vs.toArray) (hb : IsTup s.heap b ws.toArray) (hv : vs ≠ [])
  (h1 : ws = [] → Q (.ref t) s) (h2 : ws ≠ [] → Q (.ref s.heap.objs.size) { s with heap:=s.heap.push { cls:=.type "tuple",data:=.seq (vs ++ ws).toArray } })
  (hsz : vs.length + ws.length ≤ sizeLine) : wpAny (model prog w) A (binaryOp .Add (.ref t) (.ref b)) Q E s:=by
 obtain ⟨⟨cls,dd,data,sl⟩,ho,hc,n,hd⟩:=id ht
 obtain ⟨⟨cls2,dd2,data2,sl2⟩,ho2,hc2,n2,hd2⟩:=id hb
 simp only at hc hd hc2 hd2
 subst hc hd hc2 hd2
 have e : vs.toArray ++ ws.toArray = (vs ++ ws).toArray:=by simp
 by_cases hw : ws = []
 ·exact concat_meets ⟨_,ho,rfl⟩ ⟨_,ho2,rfl⟩ noFill_tuple_add seq_tuple_add PySem.F.slot_tuple_add PySem.F.entry_tuple_add (PySem.F.args_tuple_add_2 _ _)
   (tuple_addW1 t b vs.toArray ws.toArray n n2 dd dd2 sl sl2 (by simpa using hv) (by simp [hw])) ⟨ho,ho2,h1 hw⟩
 ·refine concat_meets ⟨_,ho,rfl⟩ ⟨_,ho2,rfl⟩ noFill_tuple_add seq_tuple_add PySem.F.slot_tuple_add PySem.F.entry_tuple_add (PySem.F.args_tuple_add_2 _ _)
   (tuple_addW2 t b vs.toArray ws.toArray n n2 dd dd2 sl sl2 (by simpa using hv) (by simpa using hw) (by rw [List.size_toArray,List.size_toArray]; exact hsz)) ⟨ho,ho2,?_⟩
  rw [e]
  exact h2 hw
def sIx (n d : Nat) : Option Int → Nat
 | none => d
 | some v => if v < 0 then (v + (n : Int)).toNat else min v.toNat n
theorem sIx_none (n d : Nat) : sIx n d none = d:=rfl
theorem sIx_nat (n d k : Nat) : sIx n d (some (k : Int)) = min k n:=by
 show (if (k : Int) < 0 then ((k : Int) + (n : Int)).toNat else min (k : Int).toNat n) = min k n
 rw [if_neg (by omega),Int.toNat_natCast]
end
end HT
namespace L2
open PySem PySem.Spec PyProof.Rows
abbrev TO:=St → Hp → (Option Int → Hp → Prop) → Prop
def PO (X : Cx) (e : Option Expr) (t : TO) : Prop :=
 ∀ (pins : List (Addr × Obj)) (s : Shared) (σ : St) (H : Hp) (Q : Option Int → Hp → Prop),Inv X pins σ H s → t σ H Q →
  wpAny (model X.prog X.w) X.A (evalPart e X.env) (fun u s' => ∃ o H',Inv X pins σ H' s' ∧ IsPart u o ∧ Q o H') X.xe s
def zf5 : TO:=fun _ H Q => Q none H
def zhF (t : TE) : TO:=fun σ H Q => t σ H fun x H1 => ∃ i,x = .int i ∧ Q (some i) H1
theorem intsAre_of {ns : List Int} : ∀ {us : List Value},zt (ns.map V.int) us → IntsAre us ns:=by
 induction ns with
 | nil => intro us r; rw [List.map_nil] at r; cases r; exact .nil
 | cons n ns ih =>
  intro us r
  rw [List.map_cons] at r
  cases r with
  | cons r1 r2 =>
   obtain ⟨t,e⟩:=r1
   subst e
   exact .cons n t (ih r2)
section
variable {X : Cx} {e : Expr} {te : TE} {lo hi : Option Expr} {tl th : TO} {pos p2 : Pos}
theorem zf6 : PO X none zf5:=by
 intro pins s σ H Q I h
 rw [evalPart_none]
 exact wpAny_pure ⟨none,H,I,.none,h⟩
theorem zf7 (h : PE X e te) : PO X (some e) (zhF te):=by
 intro pins s σ H Q I hw
 rw [evalPart_some]
 refine thn (h pins s σ H _ I hw) fun u s1 ⟨x,H1,I1,r1,q1⟩ => ?_
 obtain ⟨i,rfl,q⟩:=q1
 obtain ⟨t,rfl⟩:=r1
 exact ⟨some i,H1,I1,.int i t,q⟩
def SlR (X : Cx) (r : V → Option Int → Option Int → Hp → VK → Prop) : Prop :=
 ∀ (pins : List (Addr × Obj)) (s : Shared) (σ : St) (H : Hp) (x : V) (v vl vu : Value) (lo hi : Option Int) (sl : Addr) (Q : VK),Inv X pins σ H s → RelV x v → s.heap.IsSliceOf sl vl vu .none → IsPart vl lo → IsPart vu hi → r x lo hi H Q →
  ∃ T id,typeLookup (.type T) "__getitem__" = pure (some (.builtin id)) ∧ s.TypeIs v T ∧ wpAny (model X.prog X.w) X.A (getItem v (.ref sl)) (EP X pins σ Q) X.xe s
def tSl (r : V → Option Int → Option Int → Hp → VK → Prop) (te : TE) (tl th : TO) : TE:=fun σ H Q => te σ H fun x H1 => tl σ H1 fun l H2 => th σ H2 fun u H3 => r x l u H3 Q
theorem zfb {r : V → Option Int → Option Int → Hp → VK → Prop} (hr : SlR X r) (he : PE X e te) (hl : PO X lo tl) (hu : PO X hi th) : PE X (.Subscript e (.Slice lo hi none p2) pos) (tSl r te tl th):=by
 intro pins s σ H Q I h
 refine Subscript_ (thn (he pins s σ H _ I h) fun v s1 ⟨x,H1,I1,r1,q1⟩ => ?_)
 refine wpAny_Slice (thn (hl pins s1 σ H1 _ I1 q1) fun vl s2 ⟨l,H2,I2,pl,q2⟩ => thn (hu pins s2 σ H2 _ I2 q2) fun vu s3 ⟨u,H3,I3,pu,q3⟩ => ?_)
 rw [evalPart_none]
 refine wpAny_pure ?_
 have I4 : Inv X pins σ H3 { s3 with heap:=s3.heap.push { cls:=.type "slice",data:=.fields #[vl,vu,.none] } }:=I3.kept (t':=s3.toks) fun b ob q => Heap.get?_push_of_some _ q
 obtain ⟨T,id,hT,ht,hg⟩:=hr pins { s3 with heap:=s3.heap.push { cls:=.type "slice",data:=.fields #[vl,vu,.none] } } σ H3 x v vl vu l u s3.heap.objs.size Q I4 r1 (Heap.IsSliceOf.new ..) pl pu q3
 show wpAny (model X.prog X.w) X.A (subscriptTail e (.Slice lo hi none p2) v (.ref s3.heap.objs.size)) (EP X pins σ Q) X.xe { s3 with heap:=s3.heap.push { cls:=.type "slice",data:=.fields #[vl,vu,.none] } }
 exact tail_any (ops:=[.ref s3.heap.objs.size,v]) ht hT hg (by with_unfolding_all rfl)
def zeF (xs : List V) (lo hi : Option Int) : List V:=(xs.drop (HT.sIx xs.length 0 lo)).take (HT.sIx xs.length xs.length hi - HT.sIx xs.length 0 lo)
theorem zc5 (xs : List V) (lo hi : Option Int) : (zeF xs lo hi).length ≤ xs.length:=by
 unfold zeF
 rw [List.length_take,List.length_drop]
 omega
def zhG (K : PySem.W.Frag) : R2:=fun x y H Q => ∃ a b xs ys,x = .ref a ∧ y = .ref b ∧ SqT K H a xs ∧ SqT K H b ys ∧ xs ≠ [] ∧ xs.length + ys.length ≤ sizeLine ∧
 (ys = [] → Q (.ref a) H) ∧ (ys ≠ [] → ∀ p,H p = none → Q (.ref p) (upd H p (.tup (xs ++ ys))))
theorem zt.nil_iff {xs : List V} {us : List Value} (r : zt xs us) : us = [] ↔ xs = []:=by
 cases r with
 | nil => simp
 | cons _ _ => simp
theorem zf8 : OpR X (binaryOp .Add) (zhG X.K):=by
 intro pins s σ H x y v u Q I rx ry h
 obtain ⟨a,b,xs,ys,rfl,rfl,ha,hb,hx,hz,q1,q2⟩:=h
 cases rx
 cases ry
 obtain ⟨its,r1,p1,_⟩:=I.tuple ha
 obtain ⟨its2,r2,p2,_⟩:=I.tuple hb
 refine HT.cat_tup p1 p2 (fun z => hx (r1.nil_iff.mp z)) (fun z => ⟨.ref a,H,I,rfl,q1 (r2.nil_iff.mp z)⟩) (fun z => ?_) (by rw [← r1.length,← r2.length]; exact hz)
 refine ⟨.ref s.heap.objs.size,_,I.laid (t':=s.toks) (o:=.tup (xs ++ ys)) (fun b ob q => Heap.get?_push_of_some _ q) (Nat.le_refl _) ?_,rfl,q2 (fun w => z (r2.nil_iff.mpr w)) _ (I.hok.fresh (Nat.le_refl _))⟩
 exact ⟨by rw [List.length_append]; exact hz,_,r1.append r2,IsTup.new _ _⟩
end
end L2
namespace L2
open PySem PySem.Spec PyProof.Rows
def ixN (n : Nat) (i : Int) : Option Nat:=if 0 ≤ i then (if i < n then some i.toNat else none) else if -(n : Int) ≤ i then some (i + n).toNat else none
def atI {α : Type} (xs : List α) (i : Int) : Option α:=(ixN xs.length i).bind fun j => xs[j]?
theorem zei {n : Nat} {i : Int} {j : Nat} (h : ixN n i = some j) : seqIndex? i n = some j ∧ j < n ∧ -(n : Int) ≤ i ∧ i < n:=by
 unfold ixN at h
 by_cases h0 : 0 ≤ i
 ·rw [if_pos h0] at h
  by_cases h1 : i < n
  ·rw [if_pos h1] at h
   have e : i.toNat = j:=Option.some.inj h
   exact ⟨by rw [seqIndex_of h0 h1,e],by omega,by omega,h1⟩
  ·rw [if_neg h1] at h; cases h
 ·rw [if_neg h0] at h
  by_cases h1 : -(n : Int) ≤ i
  ·rw [if_pos h1] at h
   have e : (i + n).toNat = j:=Option.some.inj h
   exact ⟨by rw [seqIndex_neg (by omega) h1,e],by omega,h1,by omega⟩
  ·rw [if_neg h1] at h; cases h
theorem zej {α : Type} {xs : List α} {i : Int} {v : α} (h : atI xs i = some v) : ∃ j,seqIndex? i xs.length = some j ∧ xs[j]? = some v ∧ j < xs.length ∧ -(xs.length : Int) ≤ i ∧ i < xs.length:=by
 unfold atI at h
 cases e : ixN xs.length i with
 | none => rw [e] at h; cases h
 | some j =>
  rw [e] at h
  obtain ⟨h1,h2,h3,h4⟩:=zei e
  exact ⟨j,h1,h,h2,h3,h4⟩
theorem zal {α : Type} {xs : List α} {j : Nat} {v : α} (h : xs[j]? = some v) : atI xs (j : Int) = some v:=by
 have hj : j < xs.length:=(List.getElem?_eq_some_iff.mp h).1
 have e : ixN xs.length (j : Int) = some j:=by
  unfold ixN
  rw [if_pos (by omega),if_pos (by omega)]; simp
 unfold atI; rw [e]; exact h
def zf9 (b : Expr) : Prop:=∀ o i,subscripted b false o i = operate [o,i] (getItem o i)
def IxR (X : Cx) (r : R2) : Prop :=
 ∀ (value slice : Expr) (pins : List (Addr × Obj)) (s : Shared) (σ : St) (H : Hp) (x y : V) (v u : Value) (Q : VK),Inv X pins σ H s → RelV x v → RelV y u → r x y H Q →
  subscripted slice false v u = operate [v,u] (getItem v u) → wpAny (model X.prog X.w) X.A (subscriptTail value slice v u) (EP X pins σ Q) X.xe s
def MtR (X : Cx) (id : String) (r : V → List V → Hp → VK → Prop) : Prop :=
 ∀ (pins : List (Addr × Obj)) (s : Shared) (σ : St) (H : Hp) (x : V) (xs : List V) (v : Value) (us : List Value) (Q : VK),Inv X pins σ H s → RelV x v → zt xs us → r x xs H Q →
  wpAny (model X.prog X.w) X.A (call (.builtin id) (v :: us)) (EP X pins σ Q) X.xe s
section
variable {X : Cx} {a b : Expr} {ta tb : TE} {pos : Pos}
theorem zC {r : R2} (hr : IxR X r) (ha : PE X a ta) (hb : PE X b tb) (hs : zf9 b) : PE X (.Subscript a b pos) (tOp r ta tb):=by
 intro pins s σ H Q I h
 exact Subscript_ (zhy ha hb I h fun v u s2 x y H2 I2 rx ry q => hr a b pins s2 σ H2 x y v u Q I2 rx ry q (hs _ _))
def zhH (K : PySem.W.Frag) : R2:=fun x y H Q => ∃ p xs i v,x = .ref p ∧ y = .int i ∧ SqL K H p xs ∧ atI xs i = some v ∧ Q v H
def zh6 (K : PySem.W.Frag) : R2:=fun x y H Q => ∃ p xs i v,x = .ref p ∧ y = .int i ∧ SqT K H p xs ∧ atI xs i = some v ∧ Q v H
theorem zr : IxR X (zhH X.K):=by
 intro value slice pins s σ H x y v u Q I rx ry h hs
 obtain ⟨p,xs,i,z,rfl,rfl,hq,he,q⟩:=h
 cases rx
 obtain ⟨t,rfl⟩:=ry
 obtain ⟨its,r,pl,hz⟩:=I.list hq
 obtain ⟨j,h1,h2,h3,h4,h5⟩:=zej he
 obtain ⟨w,ew,rw'⟩:=r.get h2
 have hl:=r.length
 have hn:=zcE
 have fin : EP X pins σ Q w s:=⟨z,H,I,rw',q⟩
 by_cases h0 : 0 ≤ i
 ·have hj : i.toNat = j:=by
   rw [seqIndex_of h0 h5] at h1
   exact Option.some.inj h1
  exact item_listR pl.isList h0 (by omega) (by rw [hj]; simpa using ew) fin hs
 ·have hj : (i + (its.toArray.size : Int)).toNat = j:=by
   rw [seqIndex_neg (by omega) h4] at h1
   rw [List.size_toArray,← hl]
   exact Option.some.inj h1
  exact subscriptTail_builtinR (x:=w) pl.isList.typeIs slot_list_getitem.lookup
   (wpAny_getItem_list_neg (Q:=fun r s' => r = w ∧ EP X pins σ Q r s') pl.isList (by omega) (by rw [List.size_toArray] <;> omega) (by omega) (by rw [hj]; simpa using ew) ⟨rfl,fin⟩) hs
theorem zbD : IxR X (zh6 X.K):=by
 intro value slice pins s σ H x y v u Q I rx ry h hs
 obtain ⟨p,xs,i,z,rfl,rfl,hq,he,q⟩:=h
 cases rx
 obtain ⟨t,rfl⟩:=ry
 obtain ⟨its,r,pl,hz⟩:=I.tuple hq
 obtain ⟨j,h1,h2,h3,h4,h5⟩:=zej he
 obtain ⟨w,ew,rw'⟩:=r.get h2
 have hl:=r.length
 have hn:=zcE
 have fin : EP X pins σ Q w s:=⟨z,H,I,rw',q⟩
 exact subscriptTail_builtinR (x:=w) pl.typeIs slot_tuple_getitem.lookup
  (getItem_tuple (j:=j) (Q:=fun r s' => r = w ∧ EP X pins σ Q r s') pl (by omega) (by omega) (by rw [List.size_toArray,← hl]; exact h1) (by simpa using ew) ⟨rfl,fin⟩) hs
theorem zdK (its : List Value) (n j : Nat) (u : Value) : Obj.mapSeq (·.setIfInBounds j u) { cls:=.type "list",data:=.seq its.toArray n } = { cls:=.type "list",data:=.seq (its.set j u).toArray n }:=by
 simp [Obj.mapSeq]
theorem Inv.lst {pins : List (Addr × Obj)} {σ : St} {H : Hp} {s : Shared} {p : Addr} {xs : List V} (I : Inv X pins σ H s) (h : H p = some (.lst xs)) :
  ∃ (its : List Value) (n : Nat),zt xs its ∧ s.heap.get? p = some { cls:=.type "list",data:=.seq its.toArray n } ∧ xs.length ≤ sizeLine:=by
 obtain ⟨z,its,n,r,e⟩:=I.hok p _ h
 exact ⟨its,n,r,e,z⟩
theorem Inv.lstUpd {pins : List (Addr × Obj)} {σ : St} {H : Hp} {s : Shared} {p : Addr} {xs ys : List V} {its its' : List Value} {n n' : Nat} {f : Obj → Obj} (I : Inv X pins σ H s) (h : H p = some (.lst xs))
  (ho : s.heap.get? p = some { cls:=.type "list",data:=.seq its.toArray n }) (hf : f { cls:=.type "list",data:=.seq its.toArray n } = { cls:=.type "list",data:=.seq its'.toArray n' }) (r : zt ys its') (hz : ys.length ≤ sizeLine) (t : Nat) :
  Inv X pins σ (upd H p (.lst ys)) { s with heap:=s.heap.update p f,toks:=t }:=by
 have e : (s.heap.update p f).get? p = some { cls:=.type "list",data:=.seq its'.toArray n' }:=by
  rw [Heap.get?_update_self f ho (by rw [hf] <;> rfl),hf]
 refine I.write (x:=p) (e:=p) (by rw [h]; trivial) (.inl rfl) (fun b u hb q => (Heap.get?_update_other _ _ (Ne.symm hb)).trans q) ⟨_,e⟩ ?_
 exact ⟨hz,its',n',r,e⟩
def zhI : V → V → V → Hp → (Hp → Prop) → Prop:=fun o i v H Q => ∃ p xs k j,o = .ref p ∧ i = .int k ∧ H p = some (.lst xs) ∧ ixN xs.length k = some j ∧ Q (upd H p (.lst (xs.set j v)))
theorem set_list : zhu X zhI:=by
 intro pins s σ H o i v ov iv u Q I ro ri rv h
 obtain ⟨p,xs,k,j,rfl,rfl,hp,hj,q⟩:=h
 cases ro
 obtain ⟨t,rfl⟩:=ri
 obtain ⟨its,n,r,ho,hz⟩:=I.lst hp
 obtain ⟨h1,h2,h3,h4⟩:=zei hj
 have hl:=r.length
 have hn:=zcE
 have I' : Inv X pins σ (upd H p (.lst (xs.set j v))) { s with heap:=s.heap.update p (Obj.mapSeq (·.setIfInBounds j u)) } :=
  I.lstUpd hp ho (zdK its n j u) (r.set rv j) (by rw [List.length_set]; exact hz) s.toks
 by_cases h0 : 0 ≤ k
 ·have hk : k.toNat = j:=by
   rw [seqIndex_of h0 h4] at h1
   exact Option.some.inj h1
  exact PySem.W.ki_setAt ho h0 (by omega) (by rw [List.size_toArray,← hl]; exact h4) (by rw [hk]; exact ⟨_,I',q⟩)
 ·have hk : (k + (its.toArray.size : Int)).toNat = j:=by
   rw [seqIndex_neg (by omega) h3] at h1
   rw [List.size_toArray,← hl]
   exact Option.some.inj h1
  exact PySem.W.ki_setBack ho (by omega) (by rw [List.size_toArray,← hl]; exact h3) (by omega) (by rw [hk]; exact ⟨_,I',q⟩)
theorem zcF (lo hi : Option Int) (n : Nat) : (sliceBounds lo hi none n).1 = ((HT.sIx n 0 lo : Nat) : Int) ∧ (sliceBounds lo hi none n).2.1 = ((HT.sIx n n hi : Nat) : Int) ∧ (sliceBounds lo hi none n).2.2 = 1:=by
 refine ⟨?_,?_,rfl⟩
 ·cases lo with
  | none => simp [sliceBounds,HT.sIx]
  | some i =>
   simp only [sliceBounds,HT.sIx,Option.getD_none,show (1 : Int) > 0 by decide,if_true]
   by_cases h : i < 0
   ·simp only [h,if_true] <;> omega
   ·simp only [h,if_false] <;> omega
 ·cases hi with
  | none => simp [sliceBounds,HT.sIx]
  | some i =>
   simp only [sliceBounds,HT.sIx,Option.getD_none,show (1 : Int) > 0 by decide,if_true]
   by_cases h : i < 0
   ·simp only [h,if_true] <;> omega
   ·simp only [h,if_false] <;> omega
theorem zcb (its : List Value) (lo hi : Option Int) : slicePick its.toArray lo hi none = ((its.drop (HT.sIx its.length 0 lo)).take (HT.sIx its.length its.length hi - HT.sIx its.length 0 lo)).toArray:=by
 obtain ⟨h1,h2,h3⟩:=zcF lo hi its.toArray.size
 unfold slicePick
 rw [h1,h2,h3]
 simp only [sliceRange_one,pick_run,List.size_toArray] <;> rfl
def zh7 (K : PySem.W.Frag) : V → Option Int → Option Int → Hp → VK → Prop:=fun x lo hi H Q => ∃ a xs,x = .ref a ∧ SqL K H a xs ∧ ∀ p,H p = none → Q (.ref p) (upd H p (.lst (zeF xs lo hi)))
theorem zga : SlR X (zh7 X.K):=by
 intro pins s σ H x v vl vu lo hi sl Q I rx hs pl pu h
 obtain ⟨a,xs,rfl,hx,q⟩:=h
 cases rx
 obtain ⟨its,r,ht,hz⟩:=I.list hx
 have hlen:=r.length
 refine ⟨"list",_,slot_list_getitem.lookup,ht.isList.typeIs,?_⟩
 refine wpAny_getItem_list_slice ht.isList hs pl pu .none (by simp) ?_ (by rw [List.size_toArray] <;> omega)
 rw [zcb,← hlen]
 refine ⟨.ref s.heap.objs.size,_,I.laid (t':=s.toks) (o:=.lst (zeF xs lo hi)) (fun b ob q => Heap.get?_push_of_some _ q) (Nat.le_refl _) ?_,rfl,q _ (I.hok.fresh (Nat.le_refl _))⟩
 exact ⟨Nat.le_trans (zc5 xs lo hi) hz,_,0,(r.drop (HT.sIx xs.length 0 lo)).take (HT.sIx xs.length xs.length hi - HT.sIx xs.length 0 lo),Heap.get?_push_size _ rfl⟩
def zcq : V → Bool
 | .non => true
 | .bl _ => true
 | .int _ => true
 | .str _ => true
 | _ => false
def eqV : V → V → Bool
 | .non,.non => true
 | .bl a,.bl b => a == b
 | .bl a,.int b => (if a then 1 else 0) == b
 | .int a,.bl b => a == (if b then 1 else 0)
 | .int a,.int b => a == b
 | .str a,.str b => a == b
 | _,_ => false
theorem zg1 {A : Around} {s : Shared} {y x : V} {u v : Value} (ry : RelV y u) (rx : RelV x v) (fy : zcq y = true) (fx : zcq x = true) : SeqAt.EqAt A s u v (eqV y x):=by
 cases y with
 | non =>
  cases ry
  cases x with
  | non => cases rx; exact SeqAt.EqAt.same _
  | bl b => cases rx; exact SeqAt.EqAt.none_bool b
  | int b => obtain ⟨t,rfl⟩:=rx; exact SeqAt.EqAt.none_int b t
  | str b => obtain ⟨t,rfl⟩:=rx; exact SeqAt.EqAt.none_str b t
  | _ => exact absurd (show false = true from fx) Bool.false_ne_true
 | bl a =>
  cases ry
  cases x with
  | non => cases rx; exact SeqAt.EqAt.bool_none a
  | bl b => cases rx; exact SeqAt.EqAt.bool_bool a b
  | int b => obtain ⟨t,rfl⟩:=rx; exact SeqAt.EqAt.bool_int a b t
  | str b => obtain ⟨t,rfl⟩:=rx; exact SeqAt.EqAt.bool_str a b t
  | _ => exact absurd (show false = true from fx) Bool.false_ne_true
 | int a =>
  obtain ⟨t',rfl⟩:=ry
  cases x with
  | non => cases rx; exact SeqAt.EqAt.int_none a t'
  | bl b => cases rx; exact SeqAt.EqAt.int_bool a t' b
  | int b => obtain ⟨t,rfl⟩:=rx; exact SeqAt.EqAt.int_int a t' b t
  | str b => obtain ⟨t,rfl⟩:=rx; exact SeqAt.EqAt.int_str a t' b t
  | _ => exact absurd (show false = true from fx) Bool.false_ne_true
 | str a =>
  obtain ⟨t',rfl⟩:=ry
  cases x with
  | non => cases rx; exact SeqAt.EqAt.str_none a t'
  | bl b => cases rx; exact SeqAt.EqAt.str_bool a t' b
  | int b => obtain ⟨t,rfl⟩:=rx; exact SeqAt.EqAt.str_int a t' b t
  | str b => obtain ⟨t,rfl⟩:=rx; exact SeqAt.EqAt.str_str a t' b t
  | _ => exact absurd (show false = true from fx) Bool.false_ne_true
 | _ => exact absurd (show false = true from fy) Bool.false_ne_true
theorem zw : zar X (.builtin "len") (fun xs H Q => ∃ p ys,xs = [.ref p] ∧ (SqL X.K H p ys ∨ SqT X.K H p ys) ∧ Q (.int ys.length) H):=by
 intro pins s σ H xs us Q I r h
 obtain ⟨p,ys,rfl,hq,q⟩:=h
 obtain ⟨u,rfl,rx⟩:=vals1 r
 cases rx
 have hn:=zcE
 rcases hq with hq | hq
 ·obtain ⟨its,r',pl,hz⟩:=I.list hq
  have hlen:=r'.length
  exact Calls.call_len_list pl.isList (by simp only [List.size_toArray] <;> omega) ⟨.int ys.length,H,I.tok _,⟨s.toks + 1,by rw [List.size_toArray,hlen]⟩,q⟩
 ·obtain ⟨its,r',pl,hz⟩:=I.tuple hq
  have hlen:=r'.length
  exact len_tuple pl (by simp only [List.size_toArray] <;> omega) ⟨.int ys.length,H,I.tok _,⟨s.toks + 1,by rw [List.size_toArray,hlen]⟩,q⟩
theorem zcG : zar X (.type "list") (fun xs H Q => ∃ p ys,xs = [.ref p] ∧ (SqL X.K H p ys ∨ SqT X.K H p ys) ∧ ∀ l,H l = none → Q (.ref l) (upd H l (.lst ys))):=by
 intro pins s σ H xs us Q I r h
 obtain ⟨p,ys,rfl,hq,q⟩:=h
 obtain ⟨u,rfl,rx⟩:=vals1 r
 cases rx
 have fin : ∀ (its : List Value),zt ys its → ys.length ≤ sizeLine → ∀ (h' : Heap) (c' : Nat),(∀ b o',s.heap.get? b = some o' → h'.get? b = some o') →
   h'.get? s.heap.objs.size = some { cls:=.type "list",dict:=none,data:=.seq its.toArray c',slots:=#[] } → EP X pins σ Q (.ref s.heap.objs.size) { s with heap:=h' }:=fun its r' hz h' c' kp e =>
  ⟨.ref s.heap.objs.size,_,I.laid (t':=s.toks) kp (Nat.le_refl _) (show zV X.prog X.w _ h' _ (.lst ys) from ⟨hz,its,c',r',e⟩),rfl,q _ (I.hok.fresh (Nat.le_refl _))⟩
 rcases hq with hq | hq
 ·obtain ⟨its,r',pl,hz⟩:=I.list hq
  have hlen:=r'.length
  obtain ⟨o,ho,hc,n,hd⟩:=pl.isList
  exact call_list_seq p (.inl rfl) ho hc hd (fun h' c' kp e => fin its r' hz h' c' kp e) (by simp only [List.size_toArray] <;> omega)
 ·obtain ⟨its,r',pl,hz⟩:=I.tuple hq
  have hlen:=r'.length
  obtain ⟨o,ho,hc,n,hd⟩:=pl
  exact call_list_seq p (.inr rfl) ho hc hd (fun h' c' kp e => fin its r' hz h' c' kp e) (by simp only [List.size_toArray] <;> omega)
theorem zP : zar X (.type "tuple") (fun xs H Q => ∃ p ys,xs = [.ref p] ∧ ((SqL X.K H p ys ∧ ∀ l,H l = none → Q (.ref l) (upd H l (.tup ys))) ∨ (SqT X.K H p ys ∧ Q (.ref p) H))):=by
 intro pins s σ H xs us Q I r h
 obtain ⟨p,ys,rfl,h⟩:=h
 obtain ⟨u,rfl,rx⟩:=vals1 r
 cases rx
 rcases h with ⟨hq,q⟩ | ⟨hq,q⟩
 ·obtain ⟨its,r',pl,hz⟩:=I.list hq
  have hlen:=r'.length
  refine call_tuple_list pl.isList (fun h' kp => ?_) (by simp only [List.size_toArray] <;> omega)
  have I1 : Inv X pins σ H { s with heap:=h' }:=I.kept (t':=s.toks) kp
  have I2 : Inv X pins σ (upd H h'.objs.size (.tup ys)) { s with heap:=h'.push { cls:=.type "tuple",data:=.seq its.toArray } } :=
   I1.laid (t':=s.toks) (fun b o e => Heap.get?_push_of_some _ e) (Nat.le_refl _) (show zV X.prog X.w _ _ _ (.tup ys) from ⟨hz,its,r',IsTup.new _ _⟩)
  exact ⟨.ref h'.objs.size,_,I2,rfl,q _ (I1.hok.fresh (Nat.le_refl _))⟩
 ·obtain ⟨its,r',pl,hz⟩:=I.tuple hq
  exact call_tuple_same pl ⟨.ref p,H,I,rfl,q⟩
def tyV (K : PySem.W.Frag) (T : String) (x : V) (H : Hp) : Prop:=match x with
 | .str _ => T = "str"
 | .int _ => T = "int"
 | .ref p => (T = "list" ∧ ∃ xs,SqL K H p xs) ∨ (T = "tuple" ∧ ∃ o,K.lookup p = some o ∧ o.cls = .type "tuple" ∧ o.dict = none) ∨
   (T = "dict" ∧ ((∃ kvs,H p = some (.dK kvs)) ∨ ∃ kvs,H p = some (.dT kvs))) ∨ (T = "set" ∧ ∃ S n,H p = some (.set S n))
 | _ => False
theorem zg2 {pins : List (Addr × Obj)} {σ : St} {H : Hp} {s : Shared} {T : String} {x : V} {v : Value} (I : Inv X pins σ H s) (r : RelV x v) (ty : tyV X.K T x H) :
  s.TypeIs v T ∧ ∀ a,v = .ref a → ∃ ob,s.heap.get? a = some ob ∧ ob.dict = none:=by
 cases x with
 | str z =>
  obtain ⟨t,rfl⟩:=r
  cases (show T = "str" from ty)
  exact ⟨typeIs_str s z t,fun _ e => nomatch e⟩
 | int i =>
  obtain ⟨t,rfl⟩:=r
  cases (show T = "int" from ty)
  exact ⟨typeIs_int s i t,fun _ e => nomatch e⟩
 | ref p =>
  cases r
  rcases ty with ⟨rfl,xs,hq⟩ | ⟨rfl,o,hk,hc,hd⟩ | ⟨rfl,hk⟩ | ⟨rfl,S,n,hk⟩
  ·obtain ⟨its,_,pl,_⟩:=I.list hq
   refine ⟨pl.isList.typeIs,fun a e => ?_⟩
   cases e
   obtain ⟨o,n,e,c,hd,_⟩:=pl
   exact ⟨o,e,hd⟩
  ·refine ⟨⟨o,I.kIn p o hk,hc⟩,fun a e => ?_⟩
   cases e
   exact ⟨o,I.kIn _ o hk,hd⟩
  ·have z : ∃ o,s.heap.get? p = some o ∧ o.ExactDict:=by
    rcases hk with ⟨kvs,hk⟩ | ⟨kvs,hk⟩
    ·obtain ⟨_,_,_,_,o,_,_,e,ex,_⟩:=I.hok p _ hk
     exact ⟨o,e,ex⟩
    ·obtain ⟨_,_,_,_,o,_,_,e,ex,_⟩:=I.hok p _ hk
     exact ⟨o,e,ex⟩
   obtain ⟨o,e,ex⟩:=z
   refine ⟨⟨o,e,ex.1⟩,fun a e2 => ?_⟩
   cases e2
   exact ⟨o,e,ex.2.1⟩
  ·obtain ⟨o,_,_,_,e,ex,_⟩:=I.hok p _ hk
   refine ⟨⟨o,e,ex.1⟩,fun a e2 => ?_⟩
   cases e2
   exact ⟨o,e,ex.2.1⟩
 | _ => exact False.elim ty
def tBM (K : PySem.W.Frag) (T : String) (r : V → List V → Hp → VK → Prop) (to : TE) (t : TA) : TE:=fun σ H Q => to σ H fun x H1 => tyV K T x H1 ∧ t σ H1 fun xs H2 => r x xs H2 Q
variable {o e : Expr} {es : List Expr} {to : TE} {t : TA} {name : Str} {apos cpos : Pos} {T id : String} {r : V → List V → Hp → VK → Prop}
theorem zbI (pa : PlainAttrs T) (slot : Slot T name id) (hty : typeOf (.builtin id) = pure (.type "method_descriptor")) (hm : MtR X id r) (ho : PE X o to) (ha : PA X (e :: es) t)
  (hbase : attributeBase o name X.env (eval o X.env) = eval o X.env:=by rfl)
  (hfew : ((backTo cpos (starEach (e :: es) X.env)).all (fun x => !x.1) && (backToKw cpos (keywordEach [] X.env)).all (fun x => x.1.isSome)
   && decide ((e :: es).length + ([] : List Keyword).length + (if ([] : List Keyword).isEmpty then 0 else 1) < 30)) = true:=by rfl)
  (hline : (apos.endLine == cpos.line) = true:=by rfl) (hs : starEach (e :: es) X.env = (false,eval e X.env) :: starEach es X.env:=by rfl) (hplain : (backTo cpos (starEach es X.env)).any (·.1) = false:=by rfl) :
  PE X (.Call (.Attribute o name apos) (e :: es) [] cpos) (tBM X.K T r to t):=by
 intro pins s σ H Q I h
 refine wpAny_Call_method_late hbase hfew hline rfl (thn (ho pins s σ H _ I h) fun v s1 ⟨x,H1,I1,r1,ty,q1⟩ => ?_)
 obtain ⟨h1,h2⟩:=zg2 I1 r1 ty
 refine ⟨T,id,pa,slot,hty,h1,h2,?_⟩
 have hA:=ha cpos pins s1 σ H1 _ I1 q1
 rw [hs] at hA ⊢
 refine Calls.callWith_builtin (by show (false || (backTo cpos (starEach es X.env)).any (·.1)) = false; rw [hplain] <;> rfl) (Calls.evalArgs_plain ?_)
 exact thn hA fun us s2 ⟨vs,H2,I2,r2,q2⟩ => hm pins s2 σ H2 x vs v us Q I2 r1 r2 q2
end
end L2
namespace L2
open PySem PySem.Spec PyProof.Rows
def MtM (X : Cx) (id : String) (r : V → List V → Hp → VK → Prop) : Prop :=
 ∀ (pins : List (Addr × Obj)) (s : Shared) (σ : St) (H : Hp) (x : V) (xs : List V) (v : Value) (us : List Value) (Q : VK),Inv X pins σ H s → RelV x v → zt xs us → r x xs H Q →
  wpAny (model X.prog X.w) X.A (call (.builtin id) (v :: us)) (EP X pins σ Q) X.xe s
theorem zt.one : ∀ {x : V} {us : List Value},zt [x] us → ∃ u,us = [u] ∧ RelV x u
 | _,_,.cons r .nil => ⟨_,rfl,r⟩
theorem zt.eraseIdx : ∀ {xs : List V} {us : List Value} (i : Nat),zt xs us → zt (xs.eraseIdx i) (us.eraseIdx i)
 | _,_,_,.nil => .nil
 | _,_,0,.cons _ t => t
 | _,_,i + 1,.cons r t => .cons r (zt.eraseIdx i t)
theorem zt.rep {xs : List V} {us : List Value} (h : zt xs us) : ∀ k : Nat,zt (List.replicate k xs).flatten (List.replicate k us).flatten
 | 0 => .nil
 | k + 1 => by
  rw [List.replicate_succ,List.replicate_succ,List.flatten_cons,List.flatten_cons]
  exact zt.append h (zt.rep h k)
theorem zcr {α : Type} : ∀ (l : List α) (i : Nat),(l.eraseIdx i).length ≤ l.length
 | [],_ => Nat.le_refl _
 | _ :: _,0 => Nat.le_succ _
 | _ :: r,i + 1 => Nat.succ_le_succ (zcr r i)
theorem foldl_rep (its : List Value) : ∀ (k : Nat) (acc : List Value),
  List.foldl (fun x1 x2 => x1 ++ x2) acc.toArray (List.replicate k its.toArray) = (acc ++ (List.replicate k its).flatten).toArray
 | 0,acc => by simp
 | k + 1,acc => by
  have e : acc.toArray ++ its.toArray = (acc ++ its).toArray:=by simp
  have e2 : (acc ++ its) ++ (List.replicate k its).flatten = acc ++ (List.replicate (k + 1) its).flatten:=by
   rw [List.replicate_succ,List.flatten_cons,List.append_assoc]
  rw [← e2,← foldl_rep its k (acc ++ its),← e,List.replicate_succ,List.foldl_cons]
section
variable {X : Cx} {pins : List (Addr × Obj)} {σ : St} {H : Hp} {s : Shared} {l b : Addr} {xs ys zs : List V}
theorem Inv.lset {its its' : List Value} {n : Nat} {f : Array Value → Array Value} {t' : Nat} (I : Inv X pins σ H s) (hH : H l = some (.lst xs))
  (e : s.heap.get? l = some { cls:=.type "list",data:=.seq its.toArray n }) (hf : f its.toArray = its'.toArray) (hv : zt ys its') (hz : ys.length ≤ sizeLine) :
  Inv X pins σ (upd H l (.lst ys)) { s with heap:=s.heap.update l (Obj.mapSeq f),toks:=t' }:=by
 have q:=PySem.IsL.update e f
 rw [hf] at q
 refine I.write (x:=l) (e:=l) (by rw [hH]; exact trivial) (.inl rfl) (fun b' u hb hu => (Heap.get?_update_other s.heap (Obj.mapSeq f) (Ne.symm hb)).trans hu) ⟨_,q⟩ ?_
 exact ⟨hz,its',_,hv,q⟩
theorem Inv.lnew {its : List Value} {t' : Nat} (I : Inv X pins σ H s) (hv : zt ys its) (hz : ys.length ≤ sizeLine) :
  Inv X pins σ (upd H s.heap.objs.size (.lst ys)) { s with heap:=s.heap.push { cls:=.type "list",data:=.seq its.toArray },toks:=t' } :=
 I.laid (fun _ _ q => Heap.get?_push_of_some _ q) (Nat.le_refl _) ⟨hz,its,0,hv,Heap.get?_push_size _ rfl⟩
theorem Inv.fresh (I : Inv X pins σ H s) : H s.heap.objs.size = none:=I.hok.fresh (Nat.le_refl _)
theorem Inv.lstM (I : Inv X pins σ H s) (hH : H l = some (.lst xs)) : xs.length ≤ sizeLine ∧ ∃ (its : List Value) (n : Nat),zt xs its ∧ xs.length = its.length ∧ s.heap.get? l = some { cls:=.type "list",data:=.seq its.toArray n }:=by
 obtain ⟨z,its,n,r,e⟩:=I.hok l _ hH
 exact ⟨z,its,n,r,r.length,e⟩
theorem zc6 {n : Nat} (h : n ≤ sizeLine) : Builtin.List.listTooLong n = false:=by
 unfold Builtin.List.listTooLong
 exact decide_eq_false (by omega)
end
section
variable {X : Cx}
def zgb : V → List V → Hp → VK → Prop:=fun x vs H Q => ∃ l xs y,x = .ref l ∧ vs = [y] ∧ H l = some (.lst xs) ∧ xs.length < sizeLine ∧ Q .non (upd H l (.lst (xs ++ [y])))
theorem zaE : MtM X "list.append" zgb:=by
 intro pins s σ H x vs v us Q I rx rv h
 obtain ⟨l,xs,y,rfl,rfl,hH,hz,q⟩:=h
 cases rx
 obtain ⟨u,rfl,ru⟩:=rv.one
 obtain ⟨z,its,n,r,hl,e⟩:=I.lstM hH
 refine call_meets F.slot_list_append ⟨_,e,rfl⟩ F.entry_list_append (F.args_list_append_2 _ _) (PySem.list_append l its.toArray n u (by rw [List.size_toArray]; omega)) ⟨e,?_⟩
 refine ⟨.non,_,I.lset (its':=its ++ [u]) hH e (by simp) (r.append (.cons ru .nil)) ?_,rfl,q⟩
 rw [List.length_append,List.length_singleton]
 omega
def zgc : V → List V → Hp → VK → Prop:=fun x vs H Q => ∃ l b xs zs,x = .ref l ∧ vs = [.ref b] ∧ H l = some (.lst xs) ∧ H b = some (.lst zs) ∧ xs.length + zs.length ≤ sizeLine ∧ Q .non (upd H l (.lst (xs ++ zs)))
theorem zcs : MtM X "list.extend" zgc:=by
 intro pins s σ H x vs v us Q I rx rv h
 obtain ⟨l,b,xs,zs,rfl,rfl,hH,hB,hz,q⟩:=h
 cases rx
 obtain ⟨u,rfl,ru⟩:=rv.one
 cases ru
 obtain ⟨z,its,n,r,hl,e⟩:=I.lstM hH
 obtain ⟨z2,its2,n2,r2,hl2,e2⟩:=I.lstM hB
 have hsz : its.toArray.size + its2.toArray.size ≤ sizeLine:=by rw [List.size_toArray,List.size_toArray]; omega
 have hlong : ¬ (!its.toArray.isEmpty && Builtin.List.listTooLong (its.toArray.size + its2.toArray.size)) = true:=by
  rw [zc6 hsz,Bool.and_false]
  exact Bool.false_ne_true
 refine call_meets F.slot_list_extend ⟨_,e,rfl⟩ F.entry_list_extend (F.args_list_extend_2 _ _)
  (AutoSeq1.list_extend_list_list_0 l its.toArray n b its2.toArray n2 hlong (by rw [List.size_toArray]; omega) (by omega)) ⟨e,e2,?_⟩
 refine ⟨.non,_,I.lset (its':=its ++ its2) hH e (by simp) (r.append r2) ?_,rfl,q⟩
 rw [List.length_append]
 omega
def zg3 : V → List V → Hp → VK → Prop:=fun x vs H Q => ∃ l xs i k y,x = .ref l ∧ vs = [.int i] ∧ H l = some (.lst xs) ∧ -(2 ^ 63) ≤ i ∧ i < 2 ^ 63 ∧ seqIndex? i xs.length = some k ∧ xs[k]? = some y ∧ Q y (upd H l (.lst (xs.eraseIdx k)))
theorem zfc : MtM X "list.pop" zg3:=by
 intro pins s σ H x vs v us Q I rx rv h
 obtain ⟨l,xs,i,k,y,rfl,rfl,hH,h1,h2,hk,hy,q⟩:=h
 cases rx
 obtain ⟨u,rfl,ru⟩:=rv.one
 obtain ⟨t,rfl⟩:=ru
 obtain ⟨z,its,n,r,hl,e⟩:=I.lstM hH
 obtain ⟨w,hw,rw'⟩:=r.get hy
 refine call_meets F.slot_list_pop ⟨_,e,rfl⟩ F.entry_list_pop (F.args_list_pop_2 _ _)
  (MeetsSeq.list_pop_at l its.toArray n i t k w (fitsIndex_both h1 h2) (by rw [List.size_toArray,← hl]; exact hk) (by rw [← Array.getElem?_toList]; exact hw) (by rw [List.size_toArray]; omega)) ⟨e,?_⟩
 refine ⟨y,_,I.lset (its':=its.eraseIdx k) hH e ?_ (r.eraseIdx k) ?_,rw',q⟩
 ·show its.toArray.eraseIdxIfInBounds k = (its.eraseIdx k).toArray
  rw [List.eraseIdxIfInBounds_toArray]
 ·have:=zcr xs k
  omega
def zh8 : R2:=fun x y H Q => ∃ l b xs zs,x = .ref l ∧ y = .ref b ∧ H l = some (.lst xs) ∧ H b = some (.lst zs) ∧ xs.length + zs.length ≤ sizeLine ∧ ∀ p,H p = none → Q (.ref p) (upd H p (.lst (xs ++ zs)))
theorem zg4 : OpR X (binaryOp .Add) zh8:=by
 intro pins s σ H x y v u Q I rx ry h
 obtain ⟨l,b,xs,zs,rfl,rfl,hH,hB,hz,q⟩:=h
 cases rx
 cases ry
 obtain ⟨z,its,n,r,hl,e⟩:=I.lstM hH
 obtain ⟨z2,its2,n2,r2,hl2,e2⟩:=I.lstM hB
 refine PySem.P.add_list e e2 ?_ (by rw [List.size_toArray,List.size_toArray]; omega)
 have ea : its.toArray ++ its2.toArray = (its ++ its2).toArray:=by simp
 rw [ea]
 exact ⟨.ref _,_,I.lnew (t':=s.toks) (r.append r2) (by rw [List.length_append]; omega),rfl,q _ I.fresh⟩
def zh9 : R2:=fun x y H Q => ∃ l k xs,x = .ref l ∧ y = .int k ∧ H l = some (.lst xs) ∧ -(2 ^ 63) ≤ k ∧ k < 2 ^ 63 ∧ xs.length * k.toNat ≤ sizeLine ∧
 ∀ p,H p = none → Q (.ref p) (upd H p (.lst (List.replicate k.toNat xs).flatten))
theorem len_rep {α : Type} (xs : List α) (k : Nat) : (List.replicate k xs).flatten.length = k * xs.length:=by
 induction k with
 | zero => simp
 | succ k ih => rw [List.replicate_succ,List.flatten_cons,List.length_append,ih,Nat.succ_mul,Nat.add_comm]
theorem zfd : OpR X (binaryOp .Mult) zh9:=by
 intro pins s σ H x y v u Q I rx ry h
 obtain ⟨l,k,xs,rfl,rfl,hH,h1,h2,hz,q⟩:=h
 cases rx
 obtain ⟨t,rfl⟩:=ry
 obtain ⟨z,its,n,r,hl,e⟩:=I.lstM hH
 have hlen : its.toArray.size * k.toNat ≤ sizeLine:=by rw [List.size_toArray,← hl]; exact hz
 have hcap : ¬ its.toArray.size * k.toNat > (2 ^ 63 - 1) / 8:=by
  have : (sizeLine : Nat) ≤ (2 ^ 63 - 1) / 8:=by decide
  omega
 have hfit : ¬ (!Builtin.List.listFitsIndex k) = true:=by
  rw [fitsIndex_both h1 h2]
  exact Bool.false_ne_true
 have hlong : ¬ Builtin.List.listTooLong (its.toArray.size * k.toNat) = true:=by
  rw [zc6 hlen]
  exact Bool.false_ne_true
 have hnew : List.foldl (fun x1 x2 => x1 ++ x2) #[] (List.replicate (if its.toArray.isEmpty = true then 0 else k.toNat) its.toArray) = (List.replicate k.toNat its).flatten.toArray:=by
  have f0 : ∀ m : Nat,List.foldl (fun x1 x2 => x1 ++ x2) #[] (List.replicate m its.toArray) = (List.replicate m its).flatten.toArray:=fun m => by
   have:=foldl_rep its m []
   rw [List.nil_append] at this
   exact this
  rw [f0]
  cases its with
  | nil => simp
  | cons a r' => rw [if_neg (by simp)]
 refine wpAny_binaryOp_repeat_ref (T:="list") (U:="int") (by decide) ⟨_,e,rfl⟩ (fun s' => typeIs_int s' k t) noFill_list_mul F.fills_int_mul F.slot_int_rmul repeat_list F.slot_int_index.lookup
  (call_meets F.slot_int_rmul (typeIs_int s k t) F.entry_int_rmul (F.args_int_rmul_2 _ _) (int___rmul___int_list k t l its.toArray n)
   ⟨e,rfl,⟨_,e,rfl⟩,call_meets F.slot_list_mul ⟨_,e,rfl⟩ F.entry_list_mul (F.args_list_mul_2 _ _) (AutoListH.list___mul___list_int_3 l its.toArray n k t hfit hcap hlong) ⟨e,?_⟩⟩)
 rw [hnew]
 exact ⟨.ref _,_,I.lnew (t':=s.toks) (r.rep k.toNat) (by rw [len_rep,Nat.mul_comm]; exact hz),rfl,q _ I.fresh⟩
end
section
variable {prog : Program} {w : World} {A : Around} {E : Value → Shared → Prop} {s : Shared}
end
section
variable {X : Cx}
end
end L2
namespace Att
open PySem PySem.W PySem.Calls PyProof.Rows
theorem zbP {P : Params} {h : Heap} : ∀ (ns : List Int) (vs : List Value),WellAll P h vs (ns.map WData.int) → IntsAre vs ns:=by
 intro ns
 induction ns with
 | nil =>
  intro vs w
  rw [List.map_nil] at w
  cases w
  exact .nil
 | cons n ns ih =>
  intro vs w
  rw [List.map_cons] at w
  cases w with
  | cons a b =>
   cases a
   exact .cons _ _ (ih _ b)
theorem zeG {l : OpenLaw} {n : Nat} (hn : l.most = some n) {P : Params} {h : Heap} {args : List WData} {vals : List Value}
  (hpre : l.row.toRowW.claim.pre args = true) (hwl : WellAll P h vals args) :
  ∃ a vs ns,vals = [Value.ref a] ∧ args = [WData.list (ns.map WData.int)] ∧ h.get? a = some { cls:=.type "list",data:=.seq vs.toArray } ∧ IntsAre vs ns ∧ ns.length ≤ n:=by
 have hsh : WShape.hasAll [] args [.list .int] = true:=(pre_splitW hpre).1
 have hc : l.pre.holds [] { args:=args } = true:=(pre_splitW hpre).2
 obtain ⟨d,r,rfl,h1,h2⟩:=hasAllW_cons hsh
 obtain rfl:=hasAllW_nil h2
 obtain ⟨xs,rfl,h3⟩:=hasW_list h1
 obtain ⟨ns,rfl⟩:=items_int h3
 have hlen : ns.length ≤ n:=by
  unfold OpenLaw.pre at hc
  have h4 : (WTm.not (.lt (.lit (.int (n : Int))) (.len (.arg 0)))).holds [] { args:=[.list (ns.map .int)] } = true:=by
   have h4:=(holds_andW hc).1
   rw [hn] at h4
   exact h4
  have h5:=condW_of h4 (w_not (w_lt w_lit (w_len_list (w_arg rfl))))
  rw [List.length_map] at h5
  refine Nat.le_of_not_lt fun q => ?_
  have q' : (n : Int) < ((ns.length : Nat) : Int):=by omega
  first
   | (rw [decide_eq_true q'] at h5; exact absurd h5 (by decide))
   | (simp at h5; omega)
 cases hwl with
 | cons w1 w2 =>
  cases w2
  cases w1 with
  | list ho hall => exact ⟨_,_,ns,rfl,rfl,ho,zbP ns _ hall,hlen⟩
theorem zeH (l : OpenLaw) (args : List WData) : l.row.toRowW.claim.post args (.bool true) args = true :=
 postW_of (r:=l.row.toRowW) (X:=(true == true))
  (show WShape.has [] (.bool true) .bool = true by first | rfl | decide | simp [WShape.has,WShape.arms,WShape.armsAll])
  (show (WTm.eq .res (.lit (.bool true))).value [] { args:=args,res:=some (.bool true),after:=args } = some (.bool (true == true)) from w_eq_bool (w_res rfl) w_lit) rfl
theorem attach_call {l : OpenLaw} {n : Nat} {q : Program} {loose : List Str} {XP : (Str → Option Value) → Heap → Prop} {YP : World → Heap → Prop} {d : DefRec}
  (hn : l.most = some n) (hdf : d.params.defaults = [])
  (call : ∀ (w : World) (s₀ s₁ : Shared) (mg mb : Str → Option Value) (fa : Addr) (o : Obj) (pm cd doc : Value) (a : Addr) (vs : List Value) (ns : List Int),
   Ground q loose [] XP w s₀ mg mb s₁.heap → YP w s₁.heap →
   s₁.heap.get? fa = some o → o.data = .func (docDef d.name d.params d.body d.scope pm cd doc) → s₁.heap.CodeRec cd d.name → mg d.name = some (.ref fa) →
   s₁.heap.get? a = some { cls:=.type "list",data:=.seq vs.toArray } → IntsAre vs ns → ns.length ≤ n → s₁.gens = #[] →
   codeAny (model l.prog w) callerA (.call (.ref fa) ⟨[.ref a],[]⟩) (fun r s' => r = .ok (.ret (.bool true)) ∧ OldK s₁.heap s'.heap ∧ s'.os = s₁.os ∧ AllBare s'.gens) s₁) :
  WalkO q loose XP YP l.row.toRowW d [] (fun f vs => PySem.call f vs):=by
 intro w s₀ s₁ mg mb G Y fa o pm cd doc dV kV ho hd hcd hD hmg hg args vals as hpre hlay hrd hwl hlo
 obtain rfl : dV = .none:=Dflts.none hD hdf
 obtain rfl : kV = .none:=Dflts.noKw hD
 obtain ⟨a,vs,ns,rfl,rfl,hobj,hints,hlen⟩:=zeG hn hpre hwl
 refine enter_call (codeAny_mono (call w s₀ s₁ mg mb fa o pm cd doc a vs ns G Y ho (fd_plain hd) hcd hmg hobj hints hlen hg) fun r s' hq => ?_)
 obtain ⟨rfl,h2,h3,h4⟩:=hq
 exact ⟨.inl ⟨.bool true,.bool true,[],rfl,fun _ => rfl,.bool true,zeH l _,fun _ => ⟨List.Pairwise.nil,fun _ hm => (nomatch hm)⟩⟩,h2,h3,h4⟩
section
variable {prog : Program} {w : World} {A : Around} {E : Value → Shared → Prop} {s : Shared} {K : Frag}
end
end Att
namespace L2
open PySem PySem.Spec PyProof.Rows
theorem zct : ∀ {vs : List Value} {ns : List Int},IntsAre vs ns → zt (ns.map V.int) vs
 | _,_,.nil => .nil
 | _,_,.cons n t h => .cons ⟨t,rfl⟩ (zct h)
def zg5 (H : Hp) : Prop:=∀ b,H b = none ∨ ∃ o xs,H b = some (.frz o (.lst xs))
theorem zfe {P : Program} {w : World} {K : PySem.W.Frag} {mg mb : Str → Option Value} {CX : CXT} {k : Nat} {fa a : Addr} {fd : FuncData} {x : Str} {sp : Sp} {s₁ : Shared} {vs : List Value} {ns : List Int}
  (KX : K.In s₁.heap) (hns : s₁.heap.Ns mainGlobals mg) (hb : s₁.heap.Ns builtinsNs mb) (hbb : ∀ x : Str,x ≠ "__name__" → mb x = bootBuiltins x) (hlim : s₁.heap.NoLimit) (hg : s₁.gens = #[])
  (ha : s₁.heap.get? a = some { cls:=.type "list",data:=.seq vs.toArray }) (hi : IntsAre vs ns) (hl : ns.length ≤ sizeLine) (hr : Room k callerA)
  (F : ∀ base : Heap,K.In base → base.Ns mainGlobals mg → FnOk P w K mg base CX k fa fd [x] sp) (hbind : ∀ (s : Shared) (u : Value),BindsTo s fd ⟨[u],[]⟩ [(x,u)])
  (hsp : ∀ H : Hp,zg5 H → SqL K H a (ns.map V.int) → sp [.ref a] H (fun v _ => v = .bl true) fun _ _ _ => False)
  (hCX : ∀ H e s',CX [] H s₁ (fun _ _ _ => False) e s' → False) :
  codeAny (model P w) callerA (.call (.ref fa) ⟨[.ref a],[]⟩) (fun r s' => r = .ok (.ret (.bool true)) ∧ OldK s₁.heap s'.heap ∧ s'.os = s₁.os ∧ AllBare s'.gens) s₁:=by
 have rv:=zct hi
 have lenV:=hi.length
 have core : ∀ H : Hp,zg5 H → SqL K H a (ns.map V.int) → HOk P w H s₁.heap → (∀ b,H b ≠ none → b = a) → (H a ≠ none → K.lookup a = none) →
   codeAny (model P w) callerA (.call (.ref fa) ⟨[.ref a],[]⟩) (fun r s' => r = .ok (.ret (.bool true)) ∧ OldK s₁.heap s'.heap ∧ s'.os = s₁.os ∧ AllBare s'.gens) s₁:=by
  intro H hO hS hok hA hK
  have base_of : ∀ {b : Addr} {o : Obj},s₁.heap.get? b = some o → H b = none → (zcB s₁.heap H).get? b = some o:=fun e n => ze6 e n
  have noA : ∀ {b : Addr} {o : Obj} {es : Array DictEntry} {ep : Nat},s₁.heap.get? b = some o → o.data = .dict es ep → H b = none:=fun {b o es ep} e d => by
   cases q : H b with
   | none => rfl
   | some u =>
    have e' : b = a:=hA b (by rw [q]; simp)
    subst e'
    rw [ha] at e; cases e
    have d' : Data.seq vs.toArray _ = Data.dict es ep:=d
    cases d'
  have nsK : ∀ {b : Addr} {m : Str → Option Value},s₁.heap.Ns b m → (zcB s₁.heap H).Ns b m:=fun {b m} ⟨o,es,ep,e,d,r⟩ => ⟨o,es,ep,base_of e (noA e d),d,r⟩
  have hKb : K.In (zcB s₁.heap H):=fun b o e => base_of (KX b o e) (by
   cases q : H b with
   | none => rfl
   | some u =>
    have e' : b = a:=hA b (by rw [q]; simp)
    subst e'
    rw [hK (by rw [q]; simp)] at e; cases e)
  have hM : Mod K mg (zcB s₁.heap H):=⟨hKb,nsK hns,⟨mb,nsK hb,hbb⟩,let ⟨mc,h1,h2⟩:=hlim; ⟨mc,nsK h1,h2⟩⟩
  have e0 : Env0 P w K mg (zcB s₁.heap H) callerA [] s₁ H:=⟨rfl,hM,fun b o e => zfY e,Nat.le_of_eq (zez _ _),trivial,fun b hb => absurd (show b ∈ ([] : List Addr) from hb) (by simp),hok,.of_eq hg⟩
  refine codeAny_mono ((F _ hKb (nsK hns)).run callerA [] s₁ H ⟨[.ref a],[]⟩ [.ref a] [.ref a] _ _ hr e0 (hbind s₁ (.ref a)) (.cons rfl .nil) (hsp H hO hS)) fun r s' h => ?_
  cases r with
  | error e => exact (hCX H e s' h).elim
  | ok fl =>
   cases fl with
   | next => exact False.elim h
   | brk => exact False.elim h
   | cont => exact False.elim h
   | ret u =>
    obtain ⟨v,H',os,bare,un,hok',r',q⟩:=h
    have q' : v = .bl true:=q
    subst q'
    obtain rfl : u = Value.bool true:=r'
    refine ⟨rfl,OldK.of_keep fun b o e => ?_,os,bare⟩
    cases q : H b with
    | none => exact un.keep b o e q (by intro z; exact absurd (show b ∈ ([] : List Addr) from z) (by simp)) (by simp)
    | some u =>
     rcases hO b with z | ⟨ob,xs,z⟩
     ·rw [q] at z; cases z
     ·have z2:=un.frzs b ob _ z
      obtain ⟨e1,_⟩:=hok b _ z
      obtain ⟨e2,_⟩:=hok' b _ z2
      rw [e] at e1; cases e1
      exact e2
 cases hk : K.lookup a with
 | some o =>
  have e:=KX a o hk
  rw [ha] at e
  cases e
  refine core (fun _ => none) (fun _ => .inl rfl) (.inr ⟨_,vs.toArray,_,hk,rfl,rfl,rfl,by rw [List.size_toArray,lenV]; exact hl,by simpa using rv⟩) (fun b u z => by have z' : (none : Option HO) = some u:=z; cases z') (fun b z => absurd rfl z) fun z => absurd rfl z
 | none =>
  refine core (fun b => if b = a then some (.frz { cls:=.type "list",data:=.seq vs.toArray } (.lst (ns.map V.int))) else none) (fun b => ?_) (.inl (.inr ⟨{ cls:=.type "list",data:=.seq vs.toArray },if_pos rfl⟩)) (fun b u z => ?_) (fun b z => ?_) fun _ => hk
  ·by_cases hb : b = a
   ·exact .inr ⟨_,_,if_pos hb⟩
   ·exact .inl (if_neg hb)
  ·by_cases hb : b = a
   ·have z':=(if_pos hb).symm.trans z
    cases z'
    subst hb
    exact ⟨ha,by rw [List.length_map]; exact hl,vs,_,rv,ha⟩
   ·have z':=(if_neg hb).symm.trans z
    cases z'
  ·by_cases hb : b = a
   ·exact hb
   ·exact absurd (if_neg hb) z
end L2
namespace L2
open PySem PySem.Spec PyProof.Rows
theorem zgd {l : PySem.W.OpenLaw} {n k : Nat} {q : Program} {loose : List Str} {XP : (Str → Option Value) → Heap → Prop} {YP : World → Heap → Prop} {d : DefRec} {K : Params → PySem.W.Frag} {CX : World → CXT} {sp : World → Sp} {x : Str}
  (hn : l.most = some n) (hn2 : n ≤ sizeLine) (hdf : d.params.defaults = []) (hr : Room k callerA)
  (hY : ∀ (w : World) (h : Heap),YP w h → (K w.params).In h)
  (F : ∀ (w : World) (mg : Str → Option Value) (fa : Addr) (h : Heap),(K w.params).In h → h.Ns mainGlobals mg → mg d.name = some (.ref fa) →
   ∃ fd : FuncData,(∀ (s : Shared) (u : Value),BindsTo s fd ⟨[u],[]⟩ [(x,u)]) ∧
    ∀ base : Heap,(K w.params).In base → base.Ns mainGlobals mg → FnOk l.prog w (K w.params) mg base (CX w) k fa fd [x] (sp w))
  (hsp : ∀ (w : World) (H : Hp) (a : Addr) (ns : List Int),ns.length ≤ n → zg5 H → SqL (K w.params) H a (ns.map V.int) → sp w [.ref a] H (fun v _ => v = .bl true) fun _ _ _ => False)
  (hCX : ∀ (w : World) (H : Hp) (s : Shared) (e : Value) (s' : Shared),CX w [] H s (fun _ _ _ => False) e s' → False) :
  PySem.W.WalkO q loose XP YP l.row.toRowW d [] (fun f vs => PySem.call f vs):=by
 refine Att.attach_call hn hdf fun w s₀ s₁ mg mb fa o pm cd doc a vs ns G Y ho hd hcd hmg hobj hints hlen hg => ?_
 have KX:=hY w _ Y
 obtain ⟨fd,hb,hF⟩:=F w mg fa _ KX G.T.g hmg
 exact zfe KX G.T.g G.T.b G.T.builtins G.T.nolimit hg hobj hints (Nat.le_trans hlen hn2) hr hF hb (fun H hO hS => hsp w H a ns hlen hO hS) fun H e s' => hCX w H s₁ e s'
end L2
namespace L2
open PySem PySem.Spec PyProof.Rows
def zay (s : Stmt) : Arguments:=match s with
 | .FunctionDef _ a _ _ _ _ _ _ _ _ => a
 | _ => { posonlyargs:=[],args:=[],vararg:=none,kwonlyargs:=[],kw_defaults:=[],kwarg:=none,defaults:=[] }
def zam (s : Stmt) : List Stmt:=match s with
 | .FunctionDef _ _ b _ _ _ _ _ _ _ => b
 | _ => []
def zh (s : Stmt) : Scope:=match s with
 | .FunctionDef _ _ _ _ _ _ sc _ _ _ => sc
 | _ => { kind:=.function,names:=[],isGenerator:=false,isCoroutine:=false }
abbrev CX0 : CXT:=fun _ _ _ _ _ _ => False
abbrev E0 : XK:=fun _ _ _ => False
theorem zH {X : Cx} : zdJ CX0 X E0:=fun _ _ _ _ _ _ _ h => h.elim
structure Fun (K : PySem.W.Frag) (x qual : Str) (st : Stmt) (f : Addr) (fd : FuncData) : Prop where
 ex : ∃ (oc : Value) (od : Option Addr) (kV doc pm : Value) (an : Option Addr) (cdv ct : Value) (osl : Array (Option Value)),
  fd = PySem.W.fnOf x qual (zay st) (zam st) (zh st) .none kV doc pm an cdv ct ∧ K.lookup f = some ⟨oc,od,.func fd,osl⟩ ∧ PySem.W.codeIn K cdv qual = true
 kp : PySem.W.keepIn K (.ref f) = true
section
variable {P : Program} {w : World} {K : PySem.W.Frag} {mg : Str → Option Value} {base : Heap}
theorem Fun.ok {x qual : Str} {st : Stmt} {f : Addr} {fd : FuncData} {N ps : List Str} {k : Nat} {sp : Sp} (F : Fun K x qual st f fd) (S : FnScope N ps (zh st)) (len : ∀ vs H Q E,sp vs H Q E → vs.length = ps.length)
  (hbody : ∀ (cdv : Value) (A : Around) (outer : List Env) (s : Shared) (H : Hp) (vs : List V) (Q : VK) (E : XK),Room k (A.deeper (envOfC qual (zh st) s.heap.objs.size f cdv)) → sp vs H Q E →
   ∃ t,PSs (zeD CX0 P w K mg base N qual (zh st) f cdv A outer s H E).nox (zam st) t ∧ t { nx:=fun _ H' => Q .non H',rt:=Q } (start N vs) H) : FnOk P w K mg base CX0 (k + 1) f fd ps sp:=by
 obtain ⟨oc,od,kV,doc,pm,an,cdv,ct,osl,rfl,lk,hcd⟩:=F.ex
 refine zhE lk hcd S len fun A outer s H vs Q E hr hsp => ?_
 obtain ⟨t,h,q⟩:=hbody cdv A outer s H vs Q E hr hsp
 exact ⟨t,h.nox,q⟩
theorem Fun.binds {x qual : Str} {st : Stmt} {f : Addr} {fd : FuncData} {ps : List Str} (F : Fun K x qual st f fd)
  (h : ∀ (kV doc pm : Value) (an : Option Addr) (cdv ct : Value) (us : List Value),us.length = ps.length → bindArgs (PySem.W.fnOf x qual (zay st) (zam st) (zh st) .none kV doc pm an cdv ct) ⟨us,[]⟩ = pure (ps.zip us)) : Binds K fd ps []:=by
 obtain ⟨oc,od,kV,doc,pm,an,cdv,ct,osl,rfl,lk,hcd⟩:=F.ex
 exact .all (h kV doc pm an cdv ct)
theorem zff {x qual : Str} {st : Stmt} {f : Addr} {oc : Value} {od an : Option Addr} {osl : Array (Option Value)} {kV doc pm cdv ct : Value} (l : K.lookup f = some ⟨oc,od,.func (PySem.W.fnOf x qual (zay st) (zam st) (zh st) .none kV doc pm an cdv ct),osl⟩)
  (c : PySem.W.codeIn K cdv qual = true) (k : PySem.W.keepIn K (.ref f) = true) : Fun K x qual st f (PySem.W.fnOf x qual (zay st) (zam st) (zh st) .none kV doc pm an cdv ct):=⟨⟨oc,od,kV,doc,pm,an,cdv,ct,osl,rfl,l,c⟩,k⟩
end
section
variable {X : Cx}
end
theorem zfg {A B : Prop} (h : B) : if false = true then A else B:=by
 rw [if_neg Bool.false_ne_true]
 exact h
theorem zia {A B : Prop} (h : A) : if true = true then A else B:=by
 rw [if_pos rfl]
 exact h
theorem zbE {c A B : Prop} [Decidable c] (h1 : c → A) (h2 : ¬ c → B) : if c then A else B:=by
 by_cases h : c
 ·rw [if_pos h]
  exact h1 h
 ·rw [if_neg h]
  exact h2 h
def zx (H H' : Hp) : Prop:=∀ b o,H b = some o → H' b = some o
theorem zx.trans {H H1 H2 : Hp} (a : zx H H1) (b : zx H1 H2) : zx H H2:=fun c o h => b c o (a c o h)
theorem zx.free {H H' : Hp} (e : zx H H') {l : Addr} (h : H' l = Option.none) : H l = Option.none:=by
 cases q : H l with
 | none => rfl
 | some o =>
  rw [e l o q] at h
  cases h
theorem zx.seq {K : PySem.W.Frag} {H H' : Hp} {a : Addr} {xs : List V} (e : zx H H') (h : SqL K H a xs) : SqL K H' a xs:=by
 rcases h with (h | ⟨o,h⟩) | h
 ·exact .inl (.inl (e _ _ h))
 ·exact .inl (.inr ⟨o,e _ _ h⟩)
 ·exact .inr h
end L2
section
set_option maxHeartbeats 3999000
namespace L2
open PySem PySem.Spec PyProof.Rows
def zK (cs : List (Str × Addr)) : List (Str × NameKind) → List (Str × Addr) → List (Str × Addr)
 | [],acc => acc
 | (n,k) :: r,acc => if k == .free then zK cs r ((n,(cs.lookup n).getD 0) :: acc) else zK cs r acc
theorem zcc {scope : Scope} {env : Env} (h : ∀ y ∈ scope.names,y.2 = .free → ∃ c,env.cells.lookup y.1 = some c) :
  closureFor scope env = pure (zK env.cells scope.names []):=by
 have go : ∀ (names : List (Str × NameKind)) (acc : List (Str × Addr)),(∀ y ∈ names,y.2 = .free → ∃ c,env.cells.lookup y.1 = some c) →
   (forIn names acc (fun (x : Str × NameKind) (cs : List (Str × Addr)) => (if (x.2 == NameKind.free) = true then do
    let a ← cellOf env x.1
    pure (ForInStep.yield ((x.1,a) :: cs)) else pure (ForInStep.yield cs) : Sem (ForInStep (List (Str × Addr)))))) = (pure (zK env.cells names acc) : Sem _):=by
  intro names
  induction names with
  | nil => intro acc _; rfl
  | cons y r ih =>
   intro acc hy
   obtain ⟨n,k⟩:=y
   rw [List.forIn_cons]
   cases hk : (k == NameKind.free) with
   | true =>
    obtain ⟨c,hc⟩:=hy (n,k) List.mem_cons_self (by simpa using hk)
    have hcell : cellOf env n = pure c:=by
     unfold cellOf
     have hc' : env.cells.lookup n = some c:=hc
     rw [hc']
    simp only [hk,if_true,hcell]
    have e:=ih ((n,c) :: acc) fun y hy' => hy y (List.mem_cons_of_mem _ hy')
    have hc' : env.cells.lookup n = some c:=hc
    simp only [zK,hk,if_true,hc',Option.getD_some]
    exact e
   | false =>
    simp only [hk,Bool.false_eq_true,if_false]
    have e:=ih acc fun y hy' => hy y (List.mem_cons_of_mem _ hy')
    simp only [zK,hk,Bool.false_eq_true,if_false]
    exact e
 have e:=go scope.names [] h
 unfold closureFor
 show (forIn scope.names [] _ >>= fun cs => pure cs) = _
 first
  | (rw [e]; rfl)
  | (simp only []; rw [e]; rfl)
  | (have e':=e; simp at e' ⊢; exact e')
theorem zaB {cs : List (Str × Addr)} : ∀ (names : List (Str × NameKind)) (acc : List (Str × Addr)),
  (∀ y ∈ names,y.2 = .free → ∃ c,cs.lookup y.1 = some c) → (∀ x c,acc.lookup x = some c → cs.lookup x = some c) →
  ∀ x c,(zK cs names acc).lookup x = some c → cs.lookup x = some c
 | [],acc,_,h,x,c,e => h x c e
 | (n,k) :: r,acc,hy,h,x,c,e => by
  have hr : ∀ y ∈ r,y.2 = .free → ∃ c,cs.lookup y.1 = some c:=fun y hy' => hy y (List.mem_cons_of_mem _ hy')
  unfold zK at e
  cases hk : (k == NameKind.free) with
  | false =>
   rw [hk] at e
   exact zaB r acc hr h x c e
  | true =>
   rw [hk] at e
   obtain ⟨d,hd⟩:=hy (n,k) List.mem_cons_self (by simpa using hk)
   have hd' : cs.lookup n = some d:=hd
   refine zaB r _ hr (fun x c e' => ?_) x c e
   rw [hd',Option.getD_some,List.lookup_cons] at e'
   cases hx : (x == n) with
   | true =>
    rw [hx] at e'
    have : x = n:=by simpa using hx
    subst this
    rw [hd']
    exact e'
   | false =>
    rw [hx] at e'
    exact h x c e'
theorem zaQ {cs : List (Str × Addr)} : ∀ (names : List (Str × NameKind)) (acc : List (Str × Addr)) (x : Str),
  ((∃ c,acc.lookup x = some c) ∨ (x,NameKind.free) ∈ names) → ∃ c,(zK cs names acc).lookup x = some c
 | [],acc,x,h => by
  rcases h with h | h
  ·exact h
  ·cases h
 | (n,k) :: r,acc,x,h => by
  unfold zK
  cases hk : (k == NameKind.free) with
  | false =>
   refine zaQ r acc x ?_
   rcases h with h | h
   ·exact .inl h
   ·rcases List.mem_cons.mp h with h | h
    ·cases h
     exact absurd hk (by decide)
    ·exact .inr h
  | true =>
   refine zaQ r _ x ?_
   cases hx : (x == n) with
   | true => exact .inl ⟨_,by rw [List.lookup_cons,hx]⟩
   | false =>
    rcases h with ⟨c,h⟩ | h
    ·exact .inl ⟨c,by rw [List.lookup_cons,hx]; exact h⟩
    ·rcases List.mem_cons.mp h with h | h
     ·cases h
      simp at hx
     ·exact .inr h
theorem lookup_mem {α : Type} : ∀ {l : List (Str × α)} {x : Str} {k : α},l.lookup x = some k → (x,k) ∈ l
 | [],x,k,h => by simp at h
 | (n,j) :: r,x,k,h => by
  rw [List.lookup_cons] at h
  cases hx : (x == n) with
  | true =>
   rw [hx] at h
   have : x = n:=by simpa using hx
   subst this
   cases h
   exact List.mem_cons_self
  | false =>
   rw [hx] at h
   exact List.mem_cons_of_mem _ (lookup_mem h)
theorem zak {env : Env} : ∀ {names : List (Str × NameKind)} {x : Str},names.lookup x = some .free →
  (names.map fun (n,k) => if (k == NameKind.free && env.scope.kind == .function && env.kindOf n == some .cell) then (n,NameKind.cell) else (n,k)).lookup x = some .cell ∨
  (names.map fun (n,k) => if (k == NameKind.free && env.scope.kind == .function && env.kindOf n == some .cell) then (n,NameKind.cell) else (n,k)).lookup x = some .free
 | [],_,h => by simp at h
 | (n,k) :: r,x,h => by
  have ih:=@zak env r x
  simp only [List.map_cons]
  cases hx : x == n with
  | true =>
   simp only [List.lookup_cons,hx] at h; cases h
   by_cases hc : (NameKind.free == NameKind.free && env.scope.kind == .function && env.kindOf n == some .cell) = true
   ·rw [if_pos hc]; left; simp only [List.lookup_cons,hx]
   ·rw [if_neg hc]; right; simp only [List.lookup_cons,hx]
  | false =>
   simp only [List.lookup_cons,hx] at h; rcases Classical.em ((k == NameKind.free && env.scope.kind == .function && env.kindOf n == some .cell) = true) with hc | hc
   ·exact (by rw [if_pos hc]; simp only [List.lookup_cons,hx]; exact ih h)
   ·exact (by rw [if_neg hc]; simp only [List.lookup_cons,hx]; exact ih h)
theorem zbt {env : Env} : ∀ {names : List (Str × NameKind)} {x : Str},
  ((names.map fun (n,k) => if (k == NameKind.free && env.scope.kind == .function && env.kindOf n == some .cell) then (n,NameKind.cell) else (n,k)).lookup x = some .cell ∨
  (names.map fun (n,k) => if (k == NameKind.free && env.scope.kind == .function && env.kindOf n == some .cell) then (n,NameKind.cell) else (n,k)).lookup x = some .free) →
  names.lookup x = some .free ∨ names.lookup x = some .cell
 | [],_,h => by simp at h
 | (n,k) :: r,x,h => by
  have ih:=@zbt env r x
  simp only [List.map_cons] at h
  cases hx : x == n with
  | true =>
   rcases Classical.em ((k == NameKind.free && env.scope.kind == .function && env.kindOf n == some .cell) = true) with hc | hc
   ·have hk : k = .free:=by
     simp only [Bool.and_eq_true] at hc; simpa using hc.1.1
    subst hk
    exact .inl (by simp only [List.lookup_cons,hx])
   ·rw [if_neg hc] at h
    simp only [List.lookup_cons,hx] at h ⊢
    rcases h with h | h
    ·exact .inr h
    ·exact .inl h
  | false =>
   rcases Classical.em ((k == NameKind.free && env.scope.kind == .function && env.kindOf n == some .cell) = true) with hc | hc
   ·rw [if_pos hc] at h
    simp only [List.lookup_cons,hx] at h ⊢
    exact ih h
   ·rw [if_neg hc] at h
    simp only [List.lookup_cons,hx] at h ⊢
    exact ih h
end L2
end
section
set_option maxHeartbeats 3999000
namespace L2
open PySem PySem.Spec PyProof.Rows
theorem zcH : ∀ (names : List (Str × NameKind)) (n : Nat) (acc : List (Str × Addr)) (x : Str),(x,NameKind.cell) ∉ names → (cellsFrom n names acc).lookup x = acc.lookup x
 | [],_,_,_,_ => rfl
 | (y,k) :: r,n,acc,x,h => by
  have hr : (x,NameKind.cell) ∉ r:=fun z => h (List.mem_cons_of_mem _ z)
  unfold cellsFrom
  split
  ·rename_i hk
   have hk' : k = .cell:=by simpa using hk
   rw [zcH r _ _ x hr,List.lookup_cons]
   cases hx : (x == y) with
   | true =>
    have : x = y:=by simpa using hx
    subst this
    subst hk'
    exact absurd List.mem_cons_self h
   | false => rfl
  ·exact zcH r _ _ x hr
theorem zcI : ∀ (names : List (Str × NameKind)) (n : Nat) (acc : List (Str × Addr)) (x : Str),(x,NameKind.cell) ∈ names → ∃ c,(cellsFrom n names acc).lookup x = some c ∧ n ≤ c
 | (y,k) :: r,n,acc,x,h => by
  by_cases hr : (x,NameKind.cell) ∈ r
  ·unfold cellsFrom
   split
   ·obtain ⟨c,e,l⟩:=zcI r (n + 1) ((y,n) :: acc) x hr
    exact ⟨c,e,by omega⟩
   ·exact zcI r n acc x hr
  ·rcases List.mem_cons.mp h with e | e
   ·cases e
    unfold cellsFrom
    rw [if_pos (by decide),zcH r _ _ _ hr,List.lookup_cons,beq_self_eq_true]
    exact ⟨n,rfl,Nat.le_refl _⟩
   ·exact absurd e hr
structure CO (h : Heap) (lo : Nat) (old cs : List (Str × Addr)) : Prop where
 each : ∀ x c,cs.lookup x = some c → (h.IsCell c none ∧ lo ≤ c) ∨ (old.lookup x = some c ∧ c < lo)
 inj : ∀ x y c,cs.lookup x = some c → cs.lookup y = some c → x = y
theorem zfh {lo : Nat} {old : List (Str × Addr)} : ∀ (names : List (Str × NameKind)) (h : Heap) (acc : List (Str × Addr)),CO h lo old acc → lo ≤ h.objs.size → CO (pushCells h names) lo old (cellsFrom h.objs.size names acc)
 | [],_,_,a,_ => a
 | (y,k) :: r,h,acc,a,hl => by
  unfold pushCells cellsFrom
  split
  ·have lt : ∀ x c,acc.lookup x = some c → c < h.objs.size:=fun x c e => (a.each x c e).elim (fun z => z.1.lt) fun z => Nat.lt_of_lt_of_le z.2 hl
   have key : ∀ x c,List.lookup x ((y,h.objs.size) :: acc) = some c → (x = y ∧ c = h.objs.size) ∨ acc.lookup x = some c:=fun x c e => by
    rw [List.lookup_cons] at e
    cases hx : (x == y) with
    | true =>
     rw [hx] at e
     exact .inl ⟨by simpa using hx,(Option.some.inj e).symm⟩
    | false =>
     rw [hx] at e
     exact .inr e
   have:=zfh (lo:=lo) (old:=old) r (h.push { cls:=.type "cell",data:=.cell none }) ((y,h.objs.size) :: acc) ⟨fun x c e => ?_,fun x z c e1 e2 => ?_⟩ (by rw [Heap.size_push]; omega)
   ·rw [Heap.size_push] at this
    exact this
   ·rcases key x c e with ⟨_,rfl⟩ | e
    ·exact .inl ⟨⟨_,Heap.get?_push_size _ rfl,rfl⟩,hl⟩
    ·rcases a.each x c e with z | z
     ·exact .inl ⟨z.1.keeps fun b o e => Heap.get?_push_of_some _ e,z.2⟩
     ·exact .inr z
   ·rcases key x c e1 with ⟨p1,q1⟩ | f1 <;> rcases key z c e2 with ⟨p2,q2⟩ | f2
    ·exact p1.trans p2.symm
    ·exact absurd (lt _ _ f2) (by rw [q1]; exact Nat.lt_irrefl _)
    ·exact absurd (lt _ _ f1) (by rw [q2]; exact Nat.lt_irrefl _)
    ·exact a.inj x z c f1 f2
  ·exact zfh r h acc a hl
theorem zeI {M : Model} {A : Around} {E : Value → Shared → Prop} {s : Shared} {scope : Scope} {globals : Addr} {closure : List (Str × Addr)} {qual : Str} {env : Env} {Q : Env → Shared → Prop}
  (h : Q (newEnv scope s.heap.objs.size globals (cellsFrom (s.heap.objs.size + 1) scope.names closure) qual none .none (some env) builtinsNs) { s with heap:=pushCells (s.heap.push { cls:=.type "dict",data:=.dict #[] }) scope.names }) :
  wpAny M A (newFunctionEnv scope globals closure [] qual none .none (some env)) Q E s:=by
 (simp only [newFunctionEnv,Option.isSome_some,if_true])
 (refine wpAny_bind (wpAny_alloc ?_))
 (refine wpAny_bind (wpAny_layCells _ (fun name kind cells => by cases hkc : kind == NameKind.cell <;> simp [hkc]) _ _ _ _ ?_))
 rw [show ({ s with heap:=s.heap.push { cls:=.type "dict",data:=.dict #[] } } : Shared).heap.objs.size = s.heap.objs.size + 1 from Heap.size_push ..]
 (exact wpAny_bind (wpAny_pure (wpAny_pure h)))
abbrev zE (X : Cx) (N' : List Str) (scope : Scope) (s₃ : Shared) (H₃ : Hp) (ex : List Addr) (pins : List (Addr × Obj)) : Cx :=
 { X with N:=N',s₀:=s₃,H₀:=H₃,env:=compEnvC scope (cellsFrom (s₃.heap.objs.size + 1) scope.names (zK X.env.cells scope.names [])) s₃.heap.objs.size X.env,outer:=X.stack,stack:=X.stack,ex:=ex,fn:=fun x => scope.names.lookup x == some .cell,pn:=X.pn ++ pins,xe:=fun _ _ => False }
def zdL (ifs : List Expr) (env : Env) : Sem Bool :=
 forIn ifs true fun c r => if r = true then do let ok ← isTrue c env (eval c env); pure (ForInStep.yield ok) else pure (ForInStep.yield r)
def zcd (X : Cx) (ifs : List Expr) (t : TT) : Prop :=
 ∀ (pins : List (Addr × Obj)) (s : Shared) (σ : St) (H : Hp) (Q : Bool → Hp → Prop),Inv X pins σ H s → t σ H Q → wpAny (model X.prog X.w) X.A (zdL ifs X.env) (TP X pins σ Q) X.xe s
def zg6 : TT:=fun _ H Q => Q true H
theorem zI {X : Cx} : zcd X [] zg6:=fun _ _ _ H _ I h => wpAny_pure ⟨H,I,h⟩
theorem zb0 {X : Cx} {c : Expr} {t : TT} (h : PT X c t) : zcd X [c] t:=by
 intro pins s σ H Q I hw
 unfold zdL
 rw [List.forIn_cons]
 simp only [if_true]
 exact wpAny_bind (wpAny_bind (thn (h pins s σ H _ I hw) fun b s1 q => wpAny_pure (wpAny_pure q)))
structure CompSc (X : Cx) (N' : List Str) (ix : List (Option Nat)) (scope : Scope) : Prop where
 kind : scope.kind = .function
 cells : ∀ y ∈ scope.names,y.2 = .cell → scope.names.lookup y.1 = some .cell
 names : ∀ y ∈ scope.names,y.2 = .local → scope.names.lookup y.1 = some .local
 free : ∀ y ∈ scope.names,y.2 = .free → X.env.kindOf y.1 = some .cell ∨ X.env.kindOf y.1 = some .free
 len : N'.length = ix.length
 cap : ∀ j i : Nat,ix[j]? = some (some i) → ∃ x,N'[j]? = some x ∧ X.N[i]? = some x ∧ scope.names.lookup x = some .free
def zek (osc : Scope) (oN N' : List Str) (ix : List (Option Nat)) (scope : Scope) : Bool :=
 (scope.kind == .function) && (scope.names.all fun y => y.2 != .cell || scope.names.lookup y.1 == some .cell) && (scope.names.all fun y => y.2 != .local || scope.names.lookup y.1 == some .local) &&
 (scope.names.all fun y => y.2 != .free || (osc.names.lookup y.1 == some .cell || osc.names.lookup y.1 == some .free)) && (N'.length == ix.length) &&
 ((List.range ix.length).all fun j => match ix[j]? with
  | some (some i) => (match N'[j]? with
   | some x => oN[i]? == some x && scope.names.lookup x == some .free
   | none => false)
  | _ => true)
theorem CompSc.of {X : Cx} {N' : List Str} {ix : List (Option Nat)} {scope : Scope} (osc : Scope) (oN : List Str) (h1 : X.env.scope = osc) (h2 : X.N = oN) (hb : zek osc oN N' ix scope = true) : CompSc X N' ix scope:=by
 unfold zek at hb
 simp only [Bool.and_eq_true,List.all_eq_true] at hb
 obtain ⟨⟨⟨⟨⟨a,b⟩,c⟩,d⟩,e⟩,f⟩:=hb
 refine ⟨?_,fun y hy hl => ?_,fun y hy hl => ?_,fun y hy hf => ?_,by simpa using e,fun j i hj => ?_⟩
 ·revert a
  cases scope.kind <;> first | (intro _; rfl) | (intro h; exact absurd h (by decide))
 ·have:=b y hy
  rw [hl] at this
  simpa using this
 ·have:=c y hy
  rw [hl] at this
  simpa using this
 ·have:=d y hy
  rw [hf] at this
  have e1 : X.env.kindOf y.1 = osc.names.lookup y.1:=by rw [← h1]; rfl
  rw [e1]
  simpa using this
 ·have hlt : j < ix.length:=(List.getElem?_eq_some_iff.mp hj).1
  have:=f j (List.mem_range.mpr hlt)
  rw [hj] at this
  cases hN : N'[j]? with
  | none =>
   rw [hN] at this
   simp at this
  | some x =>
   rw [hN] at this
   refine ⟨x,rfl,?_⟩
   rw [h2]
   simpa using this
def zbu (ix : List (Option Nat)) (σ : St) : St:=ix.map fun o => match o with
 | none => none
 | some i => (σ[i]?).join
theorem Inv.track {X : Cx} {pins : List (Addr × Obj)} {σ : St} {H : Hp} {s : Shared} {D : Addr} {o : HO} (I : Inv X pins σ H s) (hn : H D = none) (hs : X.s₀.heap.objs.size ≤ D) (hL : X.env.locals ≠ D)
  (hC : ∀ x c,X.env.cells.lookup x = some c → c ≠ D) (hp : ∀ p ∈ X.pn ++ pins,p.1 ≠ D) (ok : zV X.prog X.w (upd H D o) s.heap D o) : Inv X pins σ (upd H D o) s:=by
 have ne : ∀ b u,H b = some u → b ≠ D:=fun b u e => zo e hn
 refine ⟨I.ok,I.os,I.bare,⟨I.base.keep,I.base.slot,fun b u e n hx => ?_,I.base.there,fun b xs e => ?_,fun b u xs e => ?_,fun b ps e => ?_⟩,I.loc,I.cell,?_,fun x c e => ?_,fun p hp' => ?_,fun b u e => ?_,I.len⟩
 ·have : b ≠ D:=Nat.ne_of_lt (Nat.lt_of_lt_of_le (Heap.lt_size e) hs)
  rw [zk this]
  exact I.base.free b u e n hx
 ·have:=I.base.tups b xs e
  rw [zk (ne b _ this)]
  exact this
 ·have:=I.base.frzs b u xs e
  rw [zk (ne b _ this)]
  exact this
 ·obtain ⟨more,q⟩:=I.base.tbls b ps e
  exact ⟨more,by rw [zk (ne b _ q)]; exact q⟩
 ·rw [zk hL]
  exact I.free
 ·rw [zk (hC x c e)]
  exact I.freeC x c e
 ·obtain ⟨a1,a2,a3⟩:=I.pin p hp'
  exact ⟨a1,by rw [zk (hp p hp')]; exact a2,a3⟩
 ·by_cases hb : b = D
  ·subst hb
   rw [zc] at e
   cases e
   exact ok
  ·rw [zk hb] at e
   exact (I.hok b u e).stay (fun c v _ q => q) (fun c q => by rw [zk (ne c _ q)]; exact q) fun c xs q => by rw [zk (ne c _ q)]; exact q
def cGo (g : TG) (ts : TT) (te : TE) (σ0 : St) (J : It) (Q : VK) (H1 : Hp) : Prop :=
 ∃ W : Nat → Nat → List V → Hp → Prop,(∃ m,W 0 m [] H1) ∧ ∀ i m ys H,W i m ys H →
  (J.stop i H ∧ ∀ D,H D = none → Q (.ref D) (upd H D (.lst ys))) ∨
  (J.go i H ∧ ∃ N : List V → Hp → Prop,(∀ ys' H',N ys' H' → ∃ m',m' < m ∧ W (i + 1) m' ys' H') ∧ ∀ x H',J.yld i H x H' → g x σ0 H' fun σ2 H2 => ts σ2 H2 fun b H3 =>
   if b = true then te σ2 H3 fun y H4 => ys.length < sizeLine ∧ N (ys ++ [y]) H4 else N ys H3)
def zhJ (ix : List (Option Nat)) (wi : TI) (g : TG) (ts : TT) (te : TE) : TE:=fun σ H Q => wi σ H fun J H1 => cGo g ts te (zbu ix σ) J Q H1
theorem z5 {J : It} {n : Nat} {g : TG} {ts : TT} {te : TE} {σ0 : St} {Q : VK} {H : Hp} (Pv : Nat → List V → Hp → Prop) (h0 : Pv 0 [] H) (hgo : ∀ i ys H,i < n → Pv i ys H → J.go i H) (hst : ∀ ys H,Pv n ys H → J.stop n H)
  (hs : ∀ i x ys H H',i < n → Pv i ys H → J.yld i H x H' → g x σ0 H' fun σ2 H2 => ts σ2 H2 fun b H3 => if b = true then te σ2 H3 fun y H4 => ys.length < sizeLine ∧ Pv (i + 1) (ys ++ [y]) H4 else Pv (i + 1) ys H3)
  (hd : ∀ ys H D,Pv n ys H → H D = none → Q (.ref D) (upd H D (.lst ys))) : cGo g ts te σ0 J Q H:=by
 refine ⟨fun i m ys H => m = n - i ∧ i ≤ n ∧ Pv i ys H,⟨n,by simp,Nat.zero_le _,h0⟩,?_⟩
 rintro i m ys H ⟨rfl,hi,p⟩
 by_cases hlt : i < n
 ·exact .inr ⟨hgo i ys H hlt p,Pv (i + 1),fun ys' H' p' => ⟨n - (i + 1),by omega,rfl,hlt,p'⟩,fun x H' y => hs i x ys H H' hlt p y⟩
 ·have e : i = n:=by omega
  subst e
  exact .inl ⟨hst ys H p,fun D hD => hd ys H D p hD⟩
theorem zfi {J : It} {n : Nat} {g : TG} {tb : TS} {D : Ends} {σ : St} {H : Hp} (Pv : Nat → St → Hp → Prop) (h0 : Pv 0 σ H) (hgo : ∀ i σ H,i < n → Pv i σ H → J.go i H) (hst : ∀ σ H,Pv n σ H → J.stop n H)
  (hs : ∀ i x σ H H',i < n → Pv i σ H → J.yld i H x H' → g x σ H' fun σ2 H2 => tb { D with nx:=Pv (i + 1),ct:=Pv (i + 1),bk:=D.nx } σ2 H2) (hd : ∀ σ H,Pv n σ H → D.nx σ H) :
  ∃ W : Nat → Nat → St → Hp → Prop,(∃ m,W 0 m σ H) ∧ ∀ i m σ H,W i m σ H →
   (J.stop i H ∧ D.nx σ H) ∨ (J.go i H ∧ ∃ N : St → Hp → Prop,(∀ σ' H',N σ' H' → ∃ m',m' < m ∧ W (i + 1) m' σ' H') ∧ ∀ x H',J.yld i H x H' → g x σ H' fun σ2 H2 => tb { D with nx:=N,ct:=N,bk:=D.nx } σ2 H2):=by
 refine ⟨fun i m σ H => m = n - i ∧ i ≤ n ∧ Pv i σ H,⟨n,by simp,Nat.zero_le _,h0⟩,?_⟩
 rintro i m σ H ⟨rfl,hi,p⟩
 by_cases hlt : i < n
 ·exact .inr ⟨hgo i σ H hlt p,Pv (i + 1),fun σ' H' p' => ⟨n - (i + 1),by omega,rfl,hlt,p'⟩,fun x H' y => hs i x σ H H' hlt p y⟩
 ·have e : i = n:=by omega
  subst e
  exact .inl ⟨hst σ H p,hd σ H p⟩
end L2
end
section
set_option maxHeartbeats 3999000
namespace L2
open PySem PySem.Spec PyProof.Rows
abbrev TM:=List V → St → Hp → (List V → Hp → Prop) → Prop
abbrev zbQ (its : List Value) (nn : Nat) : Obj:={ cls:=.type "list",data:=.seq its.toArray nn }
structure AccAt (Y : Cx) (pins : List (Addr × Obj)) (H : Hp) (s : Shared) (D : Addr) (ys : List V) (its : List Value) (nn : Nat) : Prop where
 fp : za0 Y pins H D
 here : s.heap.get? D = some (zbQ its nn)
 vals : zt ys its
 len : ys.length ≤ sizeLine
def zcJ (js : List Nat) (σ : St) : Prop:=∀ j ∈ js,∀ v,σ[j]? ≠ some (some v)
def Kp (js : List Nat) (σ σ2 : St) : Prop:=σ2.length = σ.length ∧ ∀ j,j ∉ js → σ2[j]? = σ[j]?
theorem Kp.refl {js : List Nat} {σ : St} : Kp js σ σ:=⟨rfl,fun _ _ => rfl⟩
theorem Kp.set {js : List Nat} {σ σ2 : St} {i : Nat} {v : Option V} (hi : i ∈ js) (h : Kp js σ σ2) : Kp js σ (σ2.set i v):=by
 refine ⟨by rw [List.length_set]; exact h.1,fun j hj => ?_⟩
 rw [List.getElem?_set_ne (fun z => hj (by rw [← z]; exact hi))]
 exact h.2 j hj
def GS (js : List Nat) (g : TG) : Prop:=∀ (σ σ1 : St) (x : V) (H : Hp) (Q : St → Hp → Prop),Kp js σ σ1 → g x σ1 H Q → g x σ1 H fun σ2 H2 => Kp js σ σ2 ∧ Q σ2 H2
def GSs (js : List Nat) (g : TGs) : Prop:=∀ (σ σ1 : St) (xs : List V) (H : Hp) (Q : St → Hp → Prop),Kp js σ σ1 → g xs σ1 H Q → g xs σ1 H fun σ2 H2 => Kp js σ σ2 ∧ Q σ2 H2
theorem zge {js : List Nat} {i : Nat} (hi : i ∈ js) : GS js (zaW i):=fun σ σ1 x H Q hw h => ⟨hw.set hi,h⟩
theorem zcK {js : List Nat} : GSs js zf0:=fun σ σ1 xs H Q hw h => ⟨h.1,hw,h.2⟩
theorem za2 {js : List Nat} {i : Nat} {u : TGs} (hi : i ∈ js) (h2 : GSs js u) : GSs js (zc2 (zaW i) u):=fun σ σ1 xs H Q hw h => by
 obtain ⟨v,r,e,h⟩:=h
 exact ⟨v,r,e,h2 σ _ r H Q (hw.set hi) h⟩
theorem zdM {js : List Nat} {K : PySem.W.Frag} {n : Nat} {t : TGs} (h : GSs js t) : GS js (ze8 K n t):=fun σ σ1 x H Q hw hg => by
 obtain ⟨a,xs,e,hq,hl,hg⟩:=hg
 exact ⟨a,xs,e,hq,hl,h σ σ1 xs H Q hw hg⟩
theorem Inv.fewer {X : Cx} {pins pins' : List (Addr × Obj)} {σ : St} {H : Hp} {s : Shared} (I : Inv X pins σ H s) (h : ∀ p ∈ pins',p ∈ pins) : Inv X pins' σ H s :=
 I.pins_of fun p hp => I.pin p (List.mem_append_right _ (h p hp))
section
variable {Y : Cx} {pins : List (Addr × Obj)} {σ : St} {H : Hp} {s : Shared} {D : Addr} {ys : List V} {its : List Value} {nn : Nat}
theorem AccAt.pin (a : AccAt Y pins H s D ys its nn) (I : Inv Y pins σ H s) : Inv Y (pins ++ [(D,zbQ its nn)]) σ H s :=
 I.pins_of fun p hp => by
  rcases (List.mem_append.mp hp) with hp | hp
  ·exact I.pin p (List.mem_append_right _ hp)
  ·obtain rfl : p = (D,zbQ its nn):=by simpa using hp
   obtain ⟨a0,a1,a2,_⟩:=a.fp
   exact ⟨a.here,a0,a1,a2,fun v z => by cases z⟩
theorem AccAt.back {pins' : List (Addr × Obj)} {σ' : St} {H' : Hp} {s' : Shared} (a : AccAt Y pins H s D ys its nn) (I : Inv Y pins' σ' H' s') (hm : (D,zbQ its nn) ∈ pins') : AccAt Y pins H' s' D ys its nn:=by
 have p:=I.pin (D,zbQ its nn) (List.mem_append_right _ hm)
 exact ⟨⟨p.2.1,a.fp.2⟩,p.1,a.vals,a.len⟩
end
def PM (Y : Cx) (D : Addr) (js : List Nat) (mk : Sem Fin → Sem Fin) (tm : TM) : Prop :=
 ∀ (last : Sem Fin) (pins : List (Addr × Obj)) (s : Shared) (σ : St) (H : Hp) (ys : List V) (its : List Value) (nn : Nat) (Q : List V → Hp → Prop) (Φ : Fin → Shared → Prop),Inv Y pins σ H s → AccAt Y pins H s D ys its nn → zcJ js σ → tm ys σ H Q →
  (∀ (s' : Shared) (ys' : List V) (its' : List Value) (nn' : Nat) (H' : Hp),Inv Y pins σ H' s' → AccAt Y pins H' s' D ys' its' nn' → Q ys' H' → wpAny (model Y.prog Y.w) Y.A last Φ (fun _ _ => False) s') →
  wpAny (model Y.prog Y.w) Y.A (mk last) Φ (fun _ _ => False) s
def zc7 (elt : Expr) (acc : Value) (env : Env) (last : Sem Fin) : Sem Fin:=(eval elt env >>= fun x => call (.builtin "list.append") [acc,x] >>= fun _ => pure ()) >>= fun _ => last
def zel (e iter : Expr) (d : Nat) (acc : Value) (env : Env) (last : Sem Fin) : Sem Fin :=
 eval iter env >>= fun x => standAt iter.pos >>= fun _ => foldedSetIterable iter env x >>= fun x => holding [x] (pyIter x) >>= fun itv => runOwn (.compStart e d itv acc env) env >>= fun _ => last
def zfj (te : TE) : TM:=fun ys σ H Q => te σ H fun y H4 => ys.length < sizeLine ∧ Q (ys ++ [y]) H4
def cIn (g : TG) (ts : TT) (tm : TM) (σ : St) (J : It) (Q : List V → Hp → Prop) (ys : List V) (H1 : Hp) : Prop :=
 ∃ W : Nat → Nat → List V → Hp → Prop,(∃ m,W 0 m ys H1) ∧ ∀ i m ys H,W i m ys H →
  (J.stop i H ∧ Q ys H) ∨
  (J.go i H ∧ ∃ N : List V → Hp → Prop,(∀ ys' H',N ys' H' → ∃ m',m' < m ∧ W (i + 1) m' ys' H') ∧ ∀ x H',J.yld i H x H' → g x σ H' fun σ2 H2 => ts σ2 H2 fun b H3 =>
   if b = true then tm ys σ2 H3 N else N ys H3)
def zfk (wi : TI) (g : TG) (ts : TT) (tm : TM) : TM:=fun ys σ H Q => wi σ H fun J H1 => cIn g ts tm σ J Q ys H1
def zfl (ix : List (Option Nat)) (wi : TI) (g : TG) (ts : TT) (tm : TM) : TE:=fun σ H Q => wi σ H fun J H1 => cIn g ts tm (zbu ix σ) J (fun ys H' => ∀ D,H' D = none → Q (.ref D) (upd H' D (.lst ys))) [] H1
theorem thx {α : Type} {X : Cx} {m : Sem α} {P Q : α → Shared → Prop} {E : Value → Shared → Prop} {s : Shared} (hx : X.xe = fun _ _ => False) (h : wpAny (model X.prog X.w) X.A m P X.xe s) (k : ∀ a s',P a s' → Q a s') : wpAny (model X.prog X.w) X.A m Q E s :=
 wpAny_mono h k fun _ _ z => by rw [hx] at z; exact z.elim
theorem zfm {Y : Cx} {D : Addr} {elt : Expr} {te : TE} (hx : Y.xe = fun _ _ => False) (he : PE Y elt te) : PM Y D [] (zc7 elt (.ref D) Y.env) (zfj te):=by
 intro last pins s σ H ys its nn Q Φ I a no h k
 unfold zc7
 refine wpAny_bind (wpAny_bind (thx hx (he (pins ++ [(D,zbQ its nn)]) s σ H _ (a.pin I) h) fun yv s1 ⟨y,H1,I1,r1,hz,q1⟩ => wpAny_bind ?_))
 have a1:=a.back I1 (List.mem_append_right _ List.mem_cons_self)
 have J1 : Inv Y pins σ H1 s1:=I1.fewer fun p hp => List.mem_append_left _ hp
 have hvl:=a1.vals.length
 refine call_meets F.slot_list_append ⟨_,a1.here,rfl⟩ F.entry_list_append (F.args_list_append_2 _ _) (PySem.list_append D its.toArray nn yv (by rw [List.size_toArray]; omega)) ⟨a1.here,?_⟩
 refine wpAny_pure ?_
 have q:=PySem.IsL.update a1.here (·.push yv)
 have k10 : ∀ b o,b ≠ D → s1.heap.get? b = some o → (s1.heap.update D (Obj.mapSeq (·.push yv))).get? b = some o:=fun b o hb e => (Heap.get?_update_other s1.heap (Obj.mapSeq (·.push yv)) (Ne.symm hb)).trans e
 obtain ⟨b0,b1,b2,b3,b4,b5⟩:=a1.fp
 have I11 : Inv Y pins σ H1 { s1 with heap:=s1.heap.update D (Obj.mapSeq (·.push yv)) }:=J1.turned (t':=s1.toks) k10 b0 b1 b3 b4 b5
 have e1 : its.toArray.push yv = (its ++ [yv]).toArray:=by simp
 rw [e1] at q
 refine k _ (ys ++ [y]) (its ++ [yv]) _ H1 I11 ⟨a1.fp,q,a1.vals.append (.cons r1 .nil),?_⟩ q1
 rw [List.length_append,List.length_singleton]
 omega
section
variable {Y : Cx} {D : Addr} {js js' : List Nat} {elt : Expr} {gens : List Comprehension} {scope : Scope} {pos : Pos} {d : Nat} {tg : Expr} {ifs : List Expr} {p : Pos} {mk : Sem Fin → Sem Fin} {g : TG} {ts : TT} {tm : TM}
def za3 (tg : Expr) (ifs : List Expr) (p : Pos) (mk : Sem Fin → Sem Fin) (c : Code) (it : Value) (env : Env) : Sem Fin :=
 standAt p >>= fun _ => pyNext it >>= fun r => match r with
  | none => pure (.done .next)
  | some v => letOwnedTupleGo tg it v >>= fun _ => assign tg env v >>= fun _ => zdL ifs env >>= fun ok => if ok = true then mk (again c) else again c
theorem zem (hc : Y.calm = true) (hx : Y.xe = fun _ _ => False) (hgs : GS js g) (hdis : ∀ j ∈ js,j ∉ js') (hg : PG Y tg g) (ht : zcd Y ifs ts) (hm : PM Y D js' mk tm)
  (hturn : ∀ it,compTurn (.ListComp elt gens scope pos) d it (.ref D) Y.env = za3 tg ifs p mk (.compLoop (.ListComp elt gens scope pos) d it (.ref D) Y.env) it Y.env)
  {pins : List (Addr × Obj)} {σ : St} {H2 : Hp} {s2 : Shared} {it : Addr} {fp : List Addr} {tn : Nat → Heap → Prop} {J : It} {Q : List V → Hp → Prop} {R : Result → Shared → Prop} {ys : List V} {its : List Value} {nn : Nat}
  (I2 : Inv Y pins σ H2 s2) (a2 : AccAt Y pins H2 s2 D ys its nn) (no : zcJ (js ++ js') σ) (T : Turn Y.prog Y.w Y.K tg J fp it tn) (st2 : tn 0 s2.heap) (f2 : ∀ b ∈ fp,za0 Y pins H2 b) (fD : ∀ b ∈ fp,b ≠ D) (q : cIn g ts tm σ J Q ys H2)
  (hR : ∀ (s' : Shared) (ys' : List V) (its' : List Value) (nn' : Nat) (H' : Hp),Inv Y pins σ H' s' → AccAt Y pins H' s' D ys' its' nn' → Q ys' H' → R (.ok .next) s') :
  codeAny (model Y.prog Y.w) Y.A (.compLoop (.ListComp elt gens scope pos) d (.ref it) (.ref D) Y.env) R s2:=by
 obtain ⟨W,⟨m0,w0⟩,turn⟩:=q
 have fpY : ∀ {H' : Hp} {its : List Value} {nn : Nat},(∀ b ∈ fp,H' b = none) → ∀ b ∈ fp,za0 Y (pins ++ [(D,zbQ its nn)]) H' b:=fun {H' its nn} hn b hb => by
  obtain ⟨_,a1,a2,a3,a4,a5⟩:=f2 b hb
  refine ⟨hn b hb,a1,a2,a3,a4,fun p hp => ?_⟩
  rcases (List.mem_append.mp hp) with hp | hp
  ·exact a5 p (List.mem_append_left _ hp)
  ·rcases (List.mem_append.mp hp) with hp | hp
   ·exact a5 p (List.mem_append_right _ hp)
   ·obtain rfl : p = (D,zbQ its nn):=by simpa using hp
    exact (fD b hb).symm
 refine codeAny_loop rfl (fun n s' => ∃ i ys H' its nn,Inv Y pins σ H' s' ∧ tn i s'.heap ∧ (∀ b ∈ fp,H' b = none) ∧ AccAt Y pins H' s' D ys its nn ∧ W i n ys H') ?_ m0
  ⟨0,ys,H2,its,nn,I2,st2,fun b hb => (f2 b hb).1,a2,w0⟩
 rintro n s5 ⟨i,ys,H5,its,nn,I5,st5,fr5,a5,w5⟩
 show wpAny _ Y.A ((compTurn (.ListComp elt gens scope pos) d (.ref it) (.ref D) Y.env).onRaise (fun x => do noteFrame x Y.env; theTreesLotGoes x)) _ _ s5
 refine wpAny_noted ?_
 rw [hturn]
 unfold za3
 have I5p:=a5.pin I5
 (refine wpAny_bind (wpAny_standAt (wpAny_bind ?_)))
 rcases turn i n ys H5 w5 with ⟨stop,qn⟩ | ⟨go,N,hN,step⟩
 ·refine wpAny_mono (T.done Y rfl rfl rfl hc i _ s5 _ H5 (fun _ _ => False) I5p (fpY fr5) st5 stop) (fun r s6 ⟨hr,I6⟩ => ?_) fun _ _ z => z.elim
  subst hr
  exact wpAny_pure (hR s6 ys its nn H5 (I6.fewer fun p hp => List.mem_append_left _ hp) (a5.back I6 (List.mem_append_right _ List.mem_cons_self)) qn)
 ·refine wpAny_mono (T.item Y rfl rfl rfl hc i _ s5 _ H5 (fun _ _ => False) I5p (fpY fr5) st5 go) (fun r s6 ⟨u,hr,h6⟩ => ?_) fun _ _ z => z.elim
  subst hr
  refine wpAny_bind (wpAny_mono h6 (fun _ s7 ⟨x,H7,I7,r7,y7,st7,fr7⟩ => ?_) fun _ _ z => z.elim)
  have I7':=I7.pinned (fpY fr7) (T.obj _ _ st7)
  refine wpAny_bind (thx hx (hg _ s7 _ H7 x u _ I7' r7 (hgs σ σ x H7 _ Kp.refl (step x H7 y7))) fun _ s8 ⟨σ8,H8,I8,kp,q8⟩ => ?_)
  refine wpAny_bind (thx hx (ht _ s8 σ8 H8 _ I8 q8) fun ok s9 ⟨H9,I9,q9⟩ => ?_)
  have mD : (D,zbQ its nn) ∈ (pins ++ [(D,zbQ its nn)]) ++ za1 fp s7.heap:=List.mem_append_left _ (List.mem_append_right _ List.mem_cons_self)
  have a9:=a5.back I9 mD
  have K9 : Inv Y (pins ++ za1 fp s7.heap) σ8 H9 s9:=I9.fewer fun p hp => (List.mem_append.mp hp).elim (fun z => List.mem_append_left _ (List.mem_append_left _ z)) fun z => List.mem_append_right _ z
  have wk : ∀ (j : Nat) v,σ[j]? = some (some v) → σ8[j]? = some (some v):=fun j v e => by
   have hj : j ∉ js:=fun z => no j (List.mem_append_left _ z) v e
   rw [kp.2 j hj]
   exact e
  have back : ∀ {H' : Hp} {s' : Shared},Inv Y (pins ++ za1 fp s7.heap) σ8 H' s' → Inv Y pins σ H' s' ∧ tn (i + 1) s'.heap ∧ ∀ b ∈ fp,H' b = none:=fun {H' s'} I' => by
   refine ⟨(I'.fewer fun p hp => List.mem_append_left _ hp).weak kp.1.symm wk,T.keep _ _ _ st7 fun b hb o e => (I'.pin (b,o) (List.mem_append_right _ (List.mem_append_right _ (zaP hb e)))).1,fun b hb => ?_⟩
   obtain ⟨o,e,d⟩:=T.obj _ _ st7 b hb
   exact (I'.pin (b,o) (List.mem_append_right _ (List.mem_append_right _ (zaP hb e)))).2.1
  cases ok with
  | false =>
   rw [if_neg Bool.false_ne_true] at q9 ⊢
   obtain ⟨m',hm',w9⟩:=hN _ _ q9
   obtain ⟨b1,b2,b3⟩:=back K9
   exact wpAny_pure ⟨rfl,m',hm',i + 1,ys,H9,its,nn,b1,b2,b3,a9,w9⟩
  | true =>
   rw [if_pos rfl] at q9 ⊢
   have a9' : AccAt Y (pins ++ za1 fp s7.heap) H9 s9 D ys its nn:=by
    obtain ⟨b0,b1,b2,b3,b4,b5⟩:=a9.fp
    refine ⟨⟨b0,b1,b2,b3,b4,fun p hp => ?_⟩,a9.here,a9.vals,a9.len⟩
    rcases (List.mem_append.mp hp) with hp | hp
    ·exact b5 p (List.mem_append_left _ hp)
    ·rcases (List.mem_append.mp hp) with hp | hp
     ·exact b5 p (List.mem_append_right _ hp)
     ·exact fD _ (zcj hp).1
   have no' : zcJ js' σ8:=fun j hj v e => by
    have hj' : j ∉ js:=fun z => hdis j z hj
    rw [kp.2 j hj'] at e
    exact no j (List.mem_append_right _ hj) v e
   refine wpAny_mono (hm (again _) _ s9 σ8 H9 ys its nn N (fun fin s' => match fin with | .done f => R (.ok f) s' | .again c' => c' = _ ∧ ∃ m,m < n ∧ _) K9 a9' no' q9 fun s' ys' its' nn' H' I' a' n' => ?_) (fun _ _ z => z) fun _ _ z => z.elim
   obtain ⟨m',hm',w'⟩:=hN _ _ n'
   obtain ⟨b1,b2,b3⟩:=back I'
   obtain ⟨c0,c1,c2,c3,c4,c5⟩:=a'.fp
   refine wpAny_pure ⟨rfl,m',hm',i + 1,ys',H',its',nn',b1,b2,b3,⟨⟨c0,c1,c2,c3,c4,fun p hp => ?_⟩,a'.here,a'.vals,a'.len⟩,w'⟩
   rcases (List.mem_append.mp hp) with hp | hp
   ·exact c5 p (List.mem_append_left _ hp)
   ·exact c5 p (List.mem_append_right _ (List.mem_append_left _ hp))
theorem zc8 {prog : Program} {w : World} {A : Around} {R : Result → Shared → Prop} {s : Shared} {iter : Expr} {it acc : Value} {env : Env} (hd : gens[d]? = some ⟨tg,iter,ifs,0⟩)
  (h0 : codeAny (model prog w) A (.compLoop (.ListComp elt gens scope pos) d it acc env) R s)
  (h : wpAny (model prog w) A (pyIter it) (fun it' s' => codeAny (model prog w) A (.compLoop (.ListComp elt gens scope pos) d it' acc env) R s') (fun _ _ => False) s) :
  codeAny (model prog w) A (.compStart (.ListComp elt gens scope pos) d it acc env) R s:=by
 refine codeAny_of_tree ?_
 show wpAny _ _ ((compStart (.ListComp elt gens scope pos) d it acc env).onRaise (fun x => do noteFrame x env; standAt theWindowsPlace)) _ _ s
 refine wpAny_notedAt ?_
 unfold compStart
 have e1 : (clausesOf (.ListComp elt gens scope pos))[d]? = some ⟨tg,iter,ifs,0⟩:=hd
 rw [e1]
 (show wpAny _ _ (ask >>= _) _ _ s)
 (refine wpAny_bind (wpAny_askSetting (wpAny_ite ?_)))
 split
 ·first
   | (exact wpAny_bind (wpAny_pure (wpAny_pure ⟨rfl,h0⟩)))
   | (exact wpAny_pure ⟨rfl,h0⟩)
 ·first
   | exact wpAny_bind (wpAny_rule (wpAny_bind (wpAny_standAt (wpAny_bind (wpAny_mono h (fun it' s' h' => wpAny_pure (And.intro rfl h')) fun _ _ x => x.elim)))))
   | (refine wpAny_bind (wpAny_rule ?_); show wpAny _ _ (standAt iter.pos >>= _) _ _ s; exact wpAny_bind (wpAny_standAt (wpAny_bind (wpAny_mono h (fun it' s' h' => wpAny_pure (And.intro rfl h')) fun _ _ x => x.elim))))
theorem zg7 {iter : Expr} {wi : TI} (hc : Y.calm = true) (hx : Y.xe = fun _ _ => False) (hgs : GS js g) (hdis : ∀ j ∈ js,j ∉ js') (hi : PI Y tg iter wi) (hg : PG Y tg g) (ht : zcd Y ifs ts) (hm : PM Y D js' mk tm) (hd : gens[d]? = some ⟨tg,iter,ifs,0⟩)
  (hturn : ∀ it,compTurn (.ListComp elt gens scope pos) d it (.ref D) Y.env = za3 tg ifs p mk (.compLoop (.ListComp elt gens scope pos) d it (.ref D) Y.env) it Y.env)
  (hs : ∀ x,foldedSetIterable iter Y.env x = pure x:=by intro _; rfl) :
  PM Y D (js ++ js') (zel (.ListComp elt gens scope pos) iter d (.ref D) Y.env) (zfk wi g ts tm):=by
 intro last pins s σ H ys its nn Q Φ I a no h k
 unfold zel
 refine wpAny_bind (thx hx (hi (pins ++ [(D,zbQ its nn)]) s σ H _ (a.pin I) h) fun v s1 h1 => wpAny_bind (wpAny_standAt (wpAny_bind ?_)))
 rw [hs v]
 refine wpAny_pure (wpAny_bind (wpAny_holding (thx hx h1 fun itv s2 h2 => ?_)))
 obtain ⟨it,fp,tn,J,H2,e,I2,T,st2,f2,q⟩:=h2
 subst e
 have a2:=a.back I2 (List.mem_append_right _ List.mem_cons_self)
 have J2 : Inv Y pins σ H2 s2:=I2.fewer fun p hp => List.mem_append_left _ hp
 have f2' : ∀ b ∈ fp,za0 Y pins H2 b:=fun b hb => by
  obtain ⟨c0,c1,c2,c3,c4,c5⟩:=f2 b hb
  refine ⟨c0,c1,c2,c3,c4,fun p hp => ?_⟩
  rcases (List.mem_append.mp hp) with hp | hp
  ·exact c5 p (List.mem_append_left _ hp)
  ·exact c5 p (List.mem_append_right _ (List.mem_append_left _ hp))
 have fD : ∀ b ∈ fp,b ≠ D:=fun b hb => ((f2 b hb).2.2.2.2.2 (D,zbQ its nn) (List.mem_append_right _ (List.mem_append_right _ List.mem_cons_self))).symm
 have loop : codeAny (model Y.prog Y.w) Y.A (.compLoop (.ListComp elt gens scope pos) d (.ref it) (.ref D) Y.env) (fun r s' => match r with | .ok f => wpAny (model Y.prog Y.w) Y.A last Φ (fun _ _ => False) s' | .error e => cameBackBy (model Y.prog Y.w) Y.A Y.env (fun _ _ => False) e s') s2 :=
  zem hc hx hgs hdis hg ht hm hturn J2 a2 no T st2 f2' fD q fun s' ys' its' nn' H' I' a' q' => k s' ys' its' nn' H' I' a' q'
 exact wpAny_bind (wpAny_runOwn (zc8 hd loop (T.self _ 0 _ _ _ st2 loop)))
end
section
variable {X : Cx} {elt tg iter : Expr} {ifs : List Expr} {gs : List Comprehension} {scope : Scope} {pos : Pos} {N' : List Str} {ix : List (Option Nat)} {js js' : List Nat} {g : TG} {ts : TT} {tm : TM} {mk : Addr → Env → Sem Fin → Sem Fin}
theorem zc9 {pins : List (Addr × Obj)} {σ : St} {H2 : Hp} {s2 : Shared} {it : Addr} {fp : List Addr} {tn : Nat → Heap → Prop} {J : It} {Q : VK} {E : Value → Shared → Prop} {RR : Value → Addr → Result → Shared → Prop}
  (SC : CompSc X N' ix scope) (hc : X.calm = true) (hgs : GS js g) (hdis : ∀ j ∈ js,j ∉ js') (hjs : ∀ j ∈ js ++ js',ix[j]? = some none)
  (hg : ∀ s₃ H₃ ex pins,PG (zE X N' scope s₃ H₃ ex pins) tg g) (ht : ∀ s₃ H₃ ex pins,zcd (zE X N' scope s₃ H₃ ex pins) ifs ts) (hm : ∀ s₃ H₃ ex pins D,PM (zE X N' scope s₃ H₃ ex pins) D js' (mk D (zE X N' scope s₃ H₃ ex pins).env) tm)
  (hturn : ∀ it D env,compTurn (.ListComp elt (⟨tg,iter,ifs,0⟩ :: gs) scope pos) 0 it (.ref D) env = za3 tg ifs iter.pos (mk D env) (.compLoop (.ListComp elt (⟨tg,iter,ifs,0⟩ :: gs) scope pos) 0 it (.ref D) env) it env)
  (I2 : Inv X pins σ H2 s2) (T : Turn X.prog X.w X.K tg J fp it tn) (st2 : tn 0 s2.heap) (f2 : ∀ b ∈ fp,za0 X pins H2 b) (q : cIn g ts tm (zbu ix σ) J (fun ys H' => ∀ D,H' D = none → Q (.ref D) (upd H' D (.lst ys))) [] H2)
  (hRR : ∀ (D C : Addr) (s' : Shared) (ys : List V) (H' : Hp) (m : Str → Option Value),Inv X pins σ (upd H' D (.lst ys)) s' → za0 X pins (upd H' D (.lst ys)) C → s'.heap.Ns C m → Q (.ref D) (upd H' D (.lst ys)) → RR (.ref D) C (.ok .next) s') :
  wpAny (model X.prog X.w) X.A (newList []) (fun acc s₃ => wpAny (model X.prog X.w) X.A (newFunctionEnv scope X.env.globals (zK X.env.cells scope.names []) [] X.env.qual none .none (some X.env)) (fun cenv s₄ =>
   codeAny (model X.prog X.w) X.A (.compStart (.ListComp elt (⟨tg,iter,ifs,0⟩ :: gs) scope pos) 0 (.ref it) acc { cenv with scope:=relabel scope X.env }) (RR acc cenv.locals) s₄) E s₃) E s2:=by
 have hfr : ∀ y ∈ scope.names,y.2 = .free → ∃ c,X.env.cells.lookup y.1 = some c:=fun y hy hf => I2.ok.has y.1 (SC.free y hy hf)
 have hcl : ∀ x c,(zK X.env.cells scope.names []).lookup x = some c → X.env.cells.lookup x = some c:=zaB scope.names [] hfr (fun x c e => by simp at e)
 refine wpAny_newObj_type (zeI ?_)
 have I3 : Inv X pins σ H2 { s2 with heap:=s2.heap.push { cls:=.type "list",dict:=none,data:=.seq ([] : List Value).toArray } }:=I2.kept (t':=s2.toks) fun b o e => Heap.get?_push_of_some _ e
 have hD3 : (s2.heap.push { cls:=.type "list",dict:=none,data:=.seq ([] : List Value).toArray }).get? s2.heap.objs.size = some { cls:=.type "list",dict:=none,data:=.seq ([] : List Value).toArray }:=Heap.get?_push_size _ rfl
 have hst3 : tn 0 (s2.heap.push { cls:=.type "list",dict:=none,data:=.seq ([] : List Value).toArray }):=T.keep _ _ _ st2 fun b hb o e => Heap.get?_push_of_some _ e
 have hsz3 : (s2.heap.push { cls:=.type "list",dict:=none,data:=.seq ([] : List Value).toArray }).objs.size = s2.heap.objs.size + 1:=Heap.size_push _ _
 generalize hh3 : s2.heap.push { cls:=.type "list",dict:=none,data:=.seq ([] : List Value).toArray } = h3 at *
 have hfpO:=T.obj _ _ st2
 have hfpLt : ∀ b ∈ fp,b < s2.heap.objs.size:=fun b hb => by obtain ⟨o,e,_⟩:=hfpO b hb; exact Heap.lt_size e
 have stk : ∀ b ∈ frs X.stack,b = X.env.locals ∨ b ∈ X.fs:=fun b hb => List.mem_cons.mp (I2.stkSub b hb)
 have hDok : za0 X pins H2 s2.heap.objs.size:=I2.fpOk (Nat.le_refl _) I2.fresh
 have exOk : ∀ b ∈ s2.heap.objs.size :: fp,za0 X pins H2 b:=fun b hb => by
  rcases (List.mem_cons.mp hb) with e | hb
  ·rw [e]; exact hDok
  ·exact f2 b hb
 have exLt : ∀ b ∈ s2.heap.objs.size :: fp,b < h3.objs.size:=fun b hb => by
  rw [hsz3]
  rcases (List.mem_cons.mp hb) with e | hb; · rw [e]; exact Nat.lt_succ_self _
  ·exact Nat.lt_succ_of_lt (hfpLt b hb)
 have exStk : ∀ b ∈ s2.heap.objs.size :: fp,b ∉ frs X.stack:=fun b hb z => by
  obtain ⟨_,a1,a2,_⟩:=exOk b hb
  rcases stk b z with e | e
  ·exact a1 e
  ·exact a2 e
 have hns₁ : (pushCells (h3.push { cls:=.type "dict",data:=.dict #[] }) scope.names).Ns h3.objs.size (fun _ => none):=(Heap.Ns.new h3 (.type "dict")).keeps (pushCells_keeps _ _)
 have old : ∀ b o,h3.get? b = some o → (pushCells (h3.push { cls:=.type "dict",data:=.dict #[] }) scope.names).get? b = some o:=fun b o e => pushCells_keeps _ _ b o (Heap.get?_push_of_some _ e)
 have cOld : ∀ x c,X.env.cells.lookup x = some c → c < h3.objs.size:=fun x c e => by
  obtain ⟨v,q⟩:=I3.cell x c e
  exact q.lt
 have co : CO (pushCells (h3.push { cls:=.type "dict",data:=.dict #[] }) scope.names) (h3.objs.size + 1) (zK X.env.cells scope.names []) (cellsFrom (h3.objs.size + 1) scope.names (zK X.env.cells scope.names [])):=by
  have:=zfh (lo:=h3.objs.size + 1) (old:=zK X.env.cells scope.names []) scope.names (h3.push { cls:=.type "dict",data:=.dict #[] }) (zK X.env.cells scope.names [])
   ⟨fun x c e => .inr ⟨e,Nat.lt_succ_of_lt (cOld x c (hcl x c e))⟩,fun x y c e1 e2 => I2.ok.inj x y c (hcl x c e1) (hcl y c e2)⟩ (by rw [Heap.size_push]; exact Nat.le_refl _)
  rw [Heap.size_push] at this
  exact this
 generalize pushCells (h3.push { cls:=.type "dict",data:=.dict #[] }) scope.names = h₁ at hns₁ old co ⊢
 have clo : ∀ {x c},(cellsFrom (h3.objs.size + 1) scope.names (zK X.env.cells scope.names [])).lookup x = some c → (h₁.IsCell c none ∧ h3.objs.size + 1 ≤ c) ∨ X.env.cells.lookup x = some c:=fun {x c} e => (co.each x c e).elim .inl fun z => .inr (hcl x c z.1)
 have cfr : ∀ x,scope.names.lookup x = some .free → (cellsFrom (h3.objs.size + 1) scope.names (zK X.env.cells scope.names [])).lookup x = (zK X.env.cells scope.names []).lookup x:=fun x hx => zcH _ _ _ _ fun z => by
  have:=SC.cells _ z rfl
  rw [hx] at this
  cases this
 let s3 : Shared:={ s2 with heap:=h3 }
 let Y : Cx:=zE X N' scope s3 H2 (s2.heap.objs.size :: fp) pins
 have I3' : Inv X pins σ H2 s3:=I3
 have okY : Y.Ok:=by
  refine ⟨I2.ok.mod,SC.kind,I2.ok.glob,I2.ok.blt,Nat.le_refl _,co.inj,fun x hx => ?_,fun x c z e => ?_,I2.ok.hd,I2.ok.frames,.inl rfl,fun b hb => ?_,fun b o e => I3'.bs b o e,?_,fun b o e hb => ?_,exStk,I3'.stack,I3'.stkFree⟩
  ·have hx':=zbt (env:=X.env) (names:=scope.names) (x:=x) hx
   rcases hx' with hx' | hx'
   ·obtain ⟨c,e⟩:=zaQ (cs:=X.env.cells) scope.names [] x (.inr (lookup_mem hx'))
    exact ⟨c,(cfr x hx').trans e⟩
   ·obtain ⟨c,e,_⟩:=zcI scope.names (h3.objs.size + 1) (zK X.env.cells scope.names []) x (lookup_mem hx')
    exact ⟨c,e⟩
  ·obtain ⟨c',e',l'⟩:=zcI scope.names (h3.objs.size + 1) (zK X.env.cells scope.names []) x (lookup_mem (by have z' : (scope.names.lookup x == some NameKind.cell) = true:=z; simpa using z'))
   have e2 : (cellsFrom (h3.objs.size + 1) scope.names (zK X.env.cells scope.names [])).lookup x = some c:=e
   rw [e'] at e2
   cases e2
   exact Nat.le_of_succ_le l'
  ·refine ⟨Nat.ne_of_lt (exLt b hb),fun x c e => (clo e).elim (fun z y => ?_) fun z => (exOk b hb).2.2.2.2.1 x c z⟩
   subst y
   exact Nat.lt_irrefl _ (Nat.lt_of_lt_of_le (exLt _ hb) (Nat.le_of_succ_le z.2))
  ·exact Nat.le_trans I2.ok.bsz I3'.sz
  ·obtain ⟨_,_,_,a3,_⟩:=exOk b hb
   rcases a3 with z | z
   ·exact I2.ok.noex b o e z
   ·have:=(I2.ok.bs b o e).1
    exact absurd (Nat.lt_of_lt_of_le (Heap.lt_size this) z) (Nat.lt_irrefl _)
 have inv4 : Inv Y [] (zbu ix σ) H2 { s3 with heap:=h₁ }:=by
  refine ⟨okY,rfl,I2.bare,Un.kept old,⟨_,hns₁,fun j x v e1 e2 e3 => ?_⟩,fun x c e => ?_,I3'.fresh,fun x c e => (clo e).elim (fun z => I3'.hok.fresh (Nat.le_of_succ_le z.2)) fun z => I2.freeC x c z,fun p hp => ?_,I3'.hok.kept old,?_⟩
  ·unfold zbu at e2
   rw [List.getElem?_map] at e2
   cases hj : ix[j]? with
   | none => rw [hj] at e2; simp at e2
   | some oi =>
    rw [hj] at e2
    cases oi with
    | none => simp at e2
    | some i =>
     obtain ⟨y,h1,h2,h3'⟩:=SC.cap j i hj
     have hxy : y = x:=by
      have e1' : N'[j]? = some x:=e1
      rw [h1] at e1'
      exact Option.some.inj e1'
     subst hxy
     have e2' : (σ[i]?).join = some v:=by simpa using e2
     have e2'' : σ[i]? = some (some v):=by
      cases hs : σ[i]? with
      | none => rw [hs] at e2'; simp at e2'
      | some w => rw [hs] at e2'; simp at e2'; rw [e2']
     obtain ⟨m,hn,hl⟩:=I3'.loc
     have hk:=SC.free (y,.free) (lookup_mem h3') rfl
     have hvis : Vis X.env.scope y:=hk.elim (fun z => .inr (.inl z)) fun z => .inr (.inr z)
     obtain ⟨u,r,l⟩:=hl i y v h2 e2'' hvis
     refine ⟨u,r,.inr ⟨zak h3',?_⟩⟩
     obtain ⟨c,hcc⟩:=zaQ (cs:=X.env.cells) scope.names [] y (.inr (lookup_mem h3'))
     refine ⟨c,(cfr y h3').trans hcc,?_⟩
     rcases l with ⟨hk',_⟩ | ⟨_,c',hc',hcell⟩
     ·rcases hk with hk | hk
      ·have hk2 : X.env.kindOf y = some .cell:=hk
       rw [hk2] at hk'; cases hk'
      ·have hk2 : X.env.kindOf y = some .free:=hk
       rw [hk2] at hk'; cases hk'
     ·have:=hcl y c hcc
      rw [hc'] at this
      cases this
      obtain ⟨o,ho,hd⟩:=hcell
      exact ⟨o,old _ _ ho,hd⟩
  ·rcases clo e with z | z
   ·exact ⟨_,z.1⟩
   ·obtain ⟨v,o,ho,hd⟩:=I3'.cell x c z
    exact ⟨v,o,old _ _ ho,hd⟩
  ·have hp' : p ∈ X.pn ++ pins:=by
    have : p ∈ (X.pn ++ pins) ++ ([] : List (Addr × Obj)):=hp
    simpa using this
   obtain ⟨a1,a2,a3,a4,a5⟩:=I3'.pin p hp'
   exact ⟨old _ _ a1,a2,Nat.ne_of_lt (Heap.lt_size a1),fun z => (stk _ z).elim a3 a4,a5⟩
  ·unfold zbu
   rw [List.length_map]
   exact SC.len.symm
 have fpY : ∀ {H' : Hp},(∀ b ∈ s2.heap.objs.size :: fp,H' b = none) → ∀ b ∈ s2.heap.objs.size :: fp,za0 Y [] H' b:=fun {H'} hn b hb => by
  obtain ⟨_,a1,a2,a3,a4,a5⟩:=exOk b hb
  refine ⟨hn b hb,Nat.ne_of_lt (exLt b hb),exStk b hb,.inl hb,(okY.exf b hb).2,fun p hp => ?_⟩
  have : p ∈ (X.pn ++ pins) ++ ([] : List (Addr × Obj)):=hp
  exact a5 p (by simpa using this)
 have nn2 : ∀ b ∈ s2.heap.objs.size :: fp,H2 b = none:=fun b hb => (exOk b hb).1
 have noA : zcJ (js ++ js') (zbu ix σ):=fun j hj v e => by
  unfold zbu at e
  rw [List.getElem?_map,hjs j hj] at e
  simp at e
 have loop : ∀ s₅ : Shared,s₅ = { s2 with heap:=h₁ } →
   codeAny (model X.prog X.w) X.A (.compLoop (.ListComp elt (⟨tg,iter,ifs,0⟩ :: gs) scope pos) 0 (.ref it) (.ref s2.heap.objs.size) (compEnvC scope (cellsFrom (h3.objs.size + 1) scope.names (zK X.env.cells scope.names [])) h3.objs.size X.env)) (RR (.ref s2.heap.objs.size) h3.objs.size) s₅:=by
  rintro s₅ rfl
  refine zem (Y:=Y) (pins:=[]) (σ:=zbu ix σ) (its:=[]) (nn:=0) hc rfl hgs hdis (hg s3 H2 _ pins) (ht s3 H2 _ pins) (hm s3 H2 _ pins s2.heap.objs.size) (fun it => hturn it _ _) inv4 ⟨fpY nn2 _ List.mem_cons_self,old _ _ hD3,.nil,Nat.zero_le _⟩ noA T (T.keep _ _ _ hst3 fun b hb o e => old b o e)
   (fun b hb => fpY nn2 b (List.mem_cons_of_mem _ hb)) (fun b hb => Nat.ne_of_lt (hfpLt b hb)) q fun s6 ys its nn H5 I6 a6 qn => ?_
  have dn5 : H5 s2.heap.objs.size = none:=a6.fp.1
  have I7 : Inv X pins σ H5 s6:=by
   refine I3'.call' (s':=s6) (ch:=s2.heap.objs.size :: fp) I6.os I6.base I6.hok I6.bare fun b hb => ?_
   obtain ⟨_,a1,a2,a3,a4,a5⟩:=exOk b hb
   exact ⟨a3,a1,a4,a5⟩
  have I8 : Inv X pins σ (upd H5 s2.heap.objs.size (.lst ys)) s6:=by
   obtain ⟨_,a1,a2,a3,a4,a5⟩:=hDok
   exact I7.track dn5 I2.sz (Ne.symm a1) a4 a5 ⟨a6.len,its,nn,a6.vals,a6.here⟩
  obtain ⟨mm,hmm,_⟩:=I6.loc
  have dne : h3.objs.size ≠ s2.heap.objs.size:=by rw [hsz3]; exact Nat.succ_ne_self _
  refine hRR _ _ s6 ys H5 mm I8 (I3'.fpOk (H':=upd H5 s2.heap.objs.size (.lst ys)) (Nat.le_refl _) ?_) hmm (qn _ dn5)
  show upd H5 s2.heap.objs.size (.lst ys) h3.objs.size = none
  rw [zk dne]
  exact I6.free
 exact zc8 rfl (loop _ rfl) (T.self _ 0 _ _ _ (T.keep _ _ _ hst3 fun b hb o e => old b o e) (loop _ rfl))
theorem zda {wi : TI} (SC : CompSc X N' ix scope) (hc : X.calm = true) (hgs : GS js g) (hdis : ∀ j ∈ js,j ∉ js') (hjs : ∀ j ∈ js ++ js',ix[j]? = some none) (hi : PI X tg iter wi)
  (hg : ∀ s₃ H₃ ex pins,PG (zE X N' scope s₃ H₃ ex pins) tg g) (ht : ∀ s₃ H₃ ex pins,zcd (zE X N' scope s₃ H₃ ex pins) ifs ts) (hm : ∀ s₃ H₃ ex pins D,PM (zE X N' scope s₃ H₃ ex pins) D js' (mk D (zE X N' scope s₃ H₃ ex pins).env) tm)
  (hturn : ∀ it D env,compTurn (.ListComp elt (⟨tg,iter,ifs,0⟩ :: gs) scope pos) 0 it (.ref D) env = za3 tg ifs iter.pos (mk D env) (.compLoop (.ListComp elt (⟨tg,iter,ifs,0⟩ :: gs) scope pos) 0 it (.ref D) env) it env)
  (hs : ∀ x,foldedSetIterable iter X.env x = pure x:=by intro _; rfl) : PE X (.ListComp elt (⟨tg,iter,ifs,0⟩ :: gs) scope pos) (zfl ix wi g ts tm):=by
 intro pins s σ H Q I h
 rw [eval_ListComp]
 have hfr : ∀ y ∈ scope.names,y.2 = .free → ∃ c,X.env.cells.lookup y.1 = some c:=fun y hy hf => I.ok.has y.1 (SC.free y hy hf)
 refine wpAny_comprehension_free (use:=none) rfl hs (zcc hfr) SC.kind SC.names (thn (hi pins s σ H _ I h) fun v s1 h1 => thn h1 fun itv s2 h2 => ?_)
 obtain ⟨it,fp,tn,J,H2,e,I2,T,st2,f2,q⟩:=h2
 subst e
 refine zc9 (RR:=fun acc C => compPost (model X.prog X.w) X.A X.xe none (EP X pins σ Q) acc C) SC hc hgs hdis hjs hg ht hm hturn I2 T st2 f2 q ?_
 intro D C s' ys H' m I' fpC hm q'
 refine ⟨m,hm,fun h'' hs'' => ⟨.ref D,_,?_,rfl,q'⟩⟩
 obtain ⟨f0,f1,f2',f3,f4,f5⟩:=fpC
 exact I'.turned (t':=s'.toks) (fun b o hb e => hs''.extBut b o hb e) f0 f1 f3 f4 f5
end
theorem zg8 {elt t1 i1 t2 i2 : Expr} {f1 f2 : List Expr} {scope : Scope} {pos : Pos} (it : Value) (D : Addr) (env : Env) : compTurn (.ListComp elt [⟨t1,i1,f1,0⟩,⟨t2,i2,f2,0⟩] scope pos) 0 it (.ref D) env =
  za3 t1 f1 i1.pos (zel (.ListComp elt [⟨t1,i1,f1,0⟩,⟨t2,i2,f2,0⟩] scope pos) i2 1 (.ref D) env) (.compLoop (.ListComp elt [⟨t1,i1,f1,0⟩,⟨t2,i2,f2,0⟩] scope pos) 0 it (.ref D) env) it env:=by rfl
theorem zg9 {elt t1 i1 t2 i2 : Expr} {f1 f2 : List Expr} {scope : Scope} {pos : Pos} (it : Value) (D : Addr) (env : Env) : compTurn (.ListComp elt [⟨t1,i1,f1,0⟩,⟨t2,i2,f2,0⟩] scope pos) 1 it (.ref D) env =
  za3 t2 f2 i2.pos (zc7 elt (.ref D) env) (.compLoop (.ListComp elt [⟨t1,i1,f1,0⟩,⟨t2,i2,f2,0⟩] scope pos) 1 it (.ref D) env) it env:=by rfl
def zb1 (ix : List (Option Nat)) : List Nat:=(List.range ix.length).filter fun j => ix[j]? == some none
theorem zbr {ix : List (Option Nat)} {i : Nat} : i ∈ zb1 ix ↔ ix[i]? = some none:=by
 unfold zb1
 rw [List.mem_filter,List.mem_range,beq_iff_eq]
 exact ⟨fun h => h.2,fun h => ⟨(List.getElem?_eq_some_iff.mp h).1,h⟩⟩
def GK (ix : List (Option Nat)) (g : TG) : Prop:=GS (zb1 ix) g
def GKs (ix : List (Option Nat)) (g : TGs) : Prop:=GSs (zb1 ix) g
theorem zY {ix : List (Option Nat)} {i : Nat} (hi : ix[i]? = some none) : GK ix (zaW i):=zge (zbr.2 hi)
theorem zbv {ix : List (Option Nat)} : GKs ix zf0:=zcK
theorem z3 {ix : List (Option Nat)} {i : Nat} {u : TGs} (hi : ix[i]? = some none) (h2 : GKs ix u) : GKs ix (zc2 (zaW i) u):=za2 (zbr.2 hi) h2
theorem zb2 {ix : List (Option Nat)} {K : PySem.W.Frag} {n : Nat} {t : TGs} (h : GKs ix t) : GK ix (ze8 K n t):=zdM h
theorem zhK {elt t1 i1 : Expr} {f1 : List Expr} {scope : Scope} {pos : Pos} (it : Value) (D : Addr) (env : Env) : compTurn (.ListComp elt [⟨t1,i1,f1,0⟩] scope pos) 0 it (.ref D) env =
  za3 t1 f1 i1.pos (zc7 elt (.ref D) env) (.compLoop (.ListComp elt [⟨t1,i1,f1,0⟩] scope pos) 0 it (.ref D) env) it env:=by rfl
section
variable {X : Cx} {elt tg iter : Expr} {ifs : List Expr} {scope : Scope} {pos : Pos} {N' : List Str} {ix : List (Option Nat)} {g : TG} {ts : TT} {te : TE}
theorem zL {wi : TI} (SC : CompSc X N' ix scope) (hc : X.calm = true) (hk : GK ix g) (hi : PI X tg iter wi)
  (hg : ∀ s₃ H₃ ex pins,PG (zE X N' scope s₃ H₃ ex pins) tg g) (ht : ∀ s₃ H₃ ex pins,zcd (zE X N' scope s₃ H₃ ex pins) ifs ts) (he : ∀ s₃ H₃ ex pins,PE (zE X N' scope s₃ H₃ ex pins) elt te)
  (hs : ∀ x,foldedSetIterable iter X.env x = pure x:=by intro _; rfl) : PE X (.ListComp elt [⟨tg,iter,ifs,0⟩] scope pos) (zhJ ix wi g ts te) :=
 zda (mk:=fun D env => zc7 elt (.ref D) env) (js:=zb1 ix) (js':=[]) SC hc hk (fun _ _ h => nomatch h) (fun j h => zbr.1 (by simpa using h)) hi hg ht (fun s₃ H₃ ex pins D => zfm rfl (he s₃ H₃ ex pins)) (fun _ _ _ => zhK _ _ _) hs
end
end L2
end
section
set_option maxHeartbeats 3999000
namespace L2
open PySem PySem.Spec PyProof.Rows
section
variable {X : Cx} {pins : List (Addr × Obj)} {σ : St} {H : Hp} {s : Shared} {h' : Heap}
theorem Inv.turnedL {t' : Nat} {ch : List Addr} (I : Inv X pins σ H s) (k : ∀ b o,b ∉ ch → s.heap.get? b = some o → h'.get? b = some o) (hf : ∀ b ∈ ch,za0 X pins H b)
  (th : ∀ b ∈ ch,∃ o,h'.get? b = some o) : Inv X pins σ H { s with heap:=h',toks:=t' }:=by
 have nit : ∀ b u,H b = some u → b ∉ ch:=fun b u e z => by rw [(hf b z).1] at e; cases e
 refine I.step (g':=s.gens) (d':=s.drawn) (ch:=ch) (fun b hb => ?_) (fun b o _ _ hc e _ => k b o hc e) (fun b o _ _ hc e _ => ⟨o.slots,k b o hc e⟩) (fun _ _ _ _ n => n)
  (fun b o hc e => ⟨o,k b o hc e⟩) (fun _ _ e => e) (fun _ _ _ e => e) (fun b ps e => ⟨#[],by rw [e]; simp⟩) (fun m hm => ?_) (fun b u e => ?_) I.bare
 ·obtain ⟨_,a1,_,a3,a4,a5⟩:=hf b hb
  exact ⟨a3,a1,a4,a5⟩
 ·obtain ⟨o,es,ep,ho,r⟩:=hm
  exact ⟨o,es,ep,k _ o (fun z => (hf _ z).2.1 rfl) ho,r⟩
 ·refine (I.hok b u e).stay (fun c v hc q => k c v ?_ q) (fun _ q => q) fun _ _ q => q
  rcases hc with z | z
  ·rw [z]; exact nit b u e
  ·exact nit c _ z
theorem Inv.turnedNew {t' : Nat} {ch : List Addr} {T : Addr} {o : HO} (I : Inv X pins σ H s) (k : ∀ b o,b ∉ ch → s.heap.get? b = some o → h'.get? b = some o) (hf : ∀ b ∈ ch,za0 X pins H b)
  (th : ∀ b ∈ ch,∃ o,h'.get? b = some o) (hT : s.heap.objs.size ≤ T) (ok : zV X.prog X.w (upd H T o) h' T o) : Inv X pins σ (upd H T o) { s with heap:=h',toks:=t' }:=by
 have I1 : Inv X pins σ H { s with heap:=h',toks:=t' }:=I.turnedL k hf th
 have hn : H T = none:=I.hok.fresh hT
 obtain ⟨_,a1,a2,a3,a4,a5⟩:=I.fpOk (H':=H) hT hn
 exact I1.track hn (Nat.le_trans I.sz hT) (Ne.symm a1) a4 a5 ok
end
def zha (Sq : Hp → Addr → List V → Prop) (a : Addr) : It :=
 ⟨fun i H => ∃ xs x,Sq H a xs ∧ xs[i]? = some x,fun i H x H' => ∃ T v,H T = none ∧ x = .ref T ∧ H' = upd H T (.tup [.int i,v]) ∧ ∀ xs,Sq H a xs → xs[i]? = some v,fun i H => ∃ xs,Sq H a xs ∧ xs.length ≤ i⟩
theorem zb3 {h : Heap} {T : Addr} {a b : Value} (e : h.get? T = some { cls:=.type "tuple",data:=.seq #[a,b] }) : IsTup h T ([a,b] : List Value).toArray:=⟨_,e,rfl,_,rfl⟩
theorem za4 : 2 ≤ sizeLine:=by rw [sizeLine_eq]; decide
def iEn (Sq : Hp → Addr → List V → Prop) (ta : TA) : TI:=fun σ H R => ta σ H fun vs H1 => ∃ a xs,vs = [.ref a] ∧ Sq H1 a xs ∧ R (zha Sq a) H1
def zgf (Sq1 Sq2 : Hp → Addr → List V → Prop) (a b : Addr) : It :=
 ⟨fun i H => ∃ xs ys x y,Sq1 H a xs ∧ Sq2 H b ys ∧ xs[i]? = some x ∧ ys[i]? = some y,
  fun i H x H' => ∃ T u v,H T = none ∧ x = .ref T ∧ H' = upd H T (.tup [u,v]) ∧ (∀ xs,Sq1 H a xs → xs[i]? = some u) ∧ ∀ ys,Sq2 H b ys → ys[i]? = some v,
  fun i H => ∃ xs ys,Sq1 H a xs ∧ Sq2 H b ys ∧ (xs.length ≤ i ∨ ys.length ≤ i)⟩
theorem zeJ {P : Program} {w : World} {K : PySem.W.Frag} {es : List Expr} {k : Nat} {pos : Pos} (a b : Addr) (n : Nat) (ha : a < n) (hb : b < n) : Turn P w K (.Tuple es k pos) (zgf (SqL K) (SqL K) a b) [n + 4,n + 2,n + 3,n,n + 1] (n + 4)
  (fun i h => IsZip h (n + 4) (n + 2) (n + 3) .none ∧ IsPair h (n + 2) (.ref n) (.ref (n + 1)) ∧ (∃ u v,IsPair h (n + 3) u v) ∧ h.IsListIter n a i ∧ h.IsListIter (n + 1) b i) where
 mem:=by simp
 obj:=fun i h st c hc => by
  obtain ⟨h1,h2,⟨u,v,h3⟩,⟨o4,e4,_,d4⟩,⟨o5,e5,_,d5⟩⟩:=st
  simp only [List.mem_cons,List.not_mem_nil,or_false] at hc
  rcases hc with z | z | z | z | z <;> subst z
  ·exact ⟨_,h1,fun v z => by cases z⟩
  ·exact ⟨_,h2,fun v z => by cases z⟩
  ·exact ⟨_,h3,fun v z => by cases z⟩
  ·exact ⟨_,e4,fun v z => by rw [d4] at z; cases z⟩
  ·exact ⟨_,e5,fun v z => by rw [d5] at z; cases z⟩
 keep:=fun i h h' st kk => by
  obtain ⟨h1,h2,⟨u,v,h3⟩,h4,h5⟩:=st
  exact ⟨kk _ (by simp) _ h1,kk _ (by simp) _ h2,⟨u,v,kk _ (by simp) _ h3⟩,h4.at fun o eo => kk _ (by simp) o eo,h5.at fun o eo => kk _ (by simp) o eo⟩
 item:=by
  intro X hP hw hK hc i pins s σ H E I hf st hg
  subst hP hw hK
  obtain ⟨xs,ys,x,y,hq1,hq2,hx,hy⟩:=hg
  obtain ⟨h1,h2,⟨u0,v0,h3⟩,h4,h5⟩:=st
  obtain ⟨its1,rv1,p1,hz1⟩:=I.list hq1
  obtain ⟨its2,rv2,p2,hz2⟩:=I.list hq2
  obtain ⟨u,hu,ru⟩:=rv1.get hx
  obtain ⟨v,hv,rv⟩:=rv2.get hy
  have hzs : n + 4 < s.heap.objs.size:=Heap.lt_size h1
  refine wpAny_pyNext_zip_item (zipApart_new ha hb) h1 h2 h3 h4 h5 p1.isList p2.isList (x:=u) (y:=v) (by simpa using hu) (by simpa using hv) fun h' a1 a2 a3 a4 a5 a6 kk => ?_
  have k1 : ∀ c o,c ∉ [n + 4,n + 3,n,n + 1] → s.heap.get? c = some o → h'.get? c = some o:=fun c o hc' eo =>
   kk c o (fun z => hc' (by simp [z])) (fun z => hc' (by simp [z])) (fun z => hc' (by simp [z])) (fun z => hc' (by simp [z])) eo
  have sub : ∀ c ∈ [n + 4,n + 3,n,n + 1],c ∈ [n + 4,n + 2,n + 3,n,n + 1]:=fun c hc' => by
   simp only [List.mem_cons,List.not_mem_nil,or_false] at hc' ⊢
   rcases hc' with z | z | z | z <;> subst z <;> simp
  have th1 : ∀ c ∈ [n + 4,n + 3,n,n + 1],∃ o,h'.get? c = some o:=fun c hc' => by
   simp only [List.mem_cons,List.not_mem_nil,or_false] at hc'
   rcases hc' with z | z | z | z <;> subst z
   ·exact ⟨_,a1⟩
   ·exact ⟨_,a2⟩
   ·obtain ⟨o,e,_⟩:=a3; exact ⟨o,e⟩
   ·obtain ⟨o,e,_⟩:=a4; exact ⟨o,e⟩
  have I1 : Inv X pins σ (upd H s.heap.objs.size (.tup [x,y])) { s with heap:=h' } :=
   I.turnedNew (t':=s.toks) k1 (fun c hc' => hf c (sub c hc')) th1 (Nat.le_refl _) ⟨za4,_,.cons ru (.cons rv .nil),zb3 a5⟩
  refine ⟨_,rfl,wpAny_letOwnedTupleGo_zip a1 fun h'' hz'' hs'' => ?_⟩
  have fr : ∀ c ∈ [n + 4,n + 2,n + 3,n,n + 1],upd H s.heap.objs.size (.tup [x,y]) c = none:=fun c hc' => by
   have hlt : c < s.heap.objs.size:=by
    simp only [List.mem_cons,List.not_mem_nil,or_false] at hc'
    rcases hc' with z | z | z | z | z <;> subst z <;> omega
   rw [zk (Nat.ne_of_lt hlt)]
   exact (hf c hc').1
  have I2 : Inv X pins σ (upd H s.heap.objs.size (.tup [x,y])) { s with heap:=h'' } :=
   Inv.turnedL (s:={ s with heap:=h' }) (ch:=[n + 4]) (t':=s.toks) I1 (fun c o hc' eo => hs''.extBut c o (by simpa using hc') eo) (fun c hc' => by
    have z : c = n + 4:=by simpa using hc'
    subst z
    exact ⟨fr _ (by simp),(hf _ (by simp)).2⟩) (fun c hc' => by
    have z : c = n + 4:=by simpa using hc'
    subst z
    exact ⟨_,hz''⟩)
  refine ⟨.ref s.heap.objs.size,_,I2,rfl,⟨_,x,y,I.fresh,rfl,rfl,fun zs hz => by rw [I.list_inj hz hq1]; exact hx,fun zs hz => by rw [I.list_inj hz hq2]; exact hy⟩,
   ⟨hz'',hs''.extBut _ _ (zipApart_new ha hb).TIz (kk _ _ (zipApart_new ha hb).TIz (zipApart_new ha hb).TITO (zipApart_new ha hb).TIi1 (zipApart_new ha hb).TIi2 h2),⟨_,_,hs''.extBut _ _ (zipApart_new ha hb).TOz a2⟩,a3.extBut hs''.extBut (zipApart_new ha hb).i1z,a4.extBut hs''.extBut (zipApart_new ha hb).i2z⟩,fr⟩
 done:=by
  intro X hP hw hK hc i pins s σ H E I hf st hg
  subst hP hw hK
  obtain ⟨xs,ys,hq1,hq2,hx⟩:=hg
  obtain ⟨h1,h2,⟨u0,v0,h3⟩,h4,h5⟩:=st
  obtain ⟨its1,rv1,p1,hz1⟩:=I.list hq1
  obtain ⟨its2,rv2,p2,hz2⟩:=I.list hq2
  have hl1:=rv1.length
  have hl2:=rv2.length
  refine wpAny_pyNext_zip_end (I.ok.hd hc) (zipApart_new ha hb) h1 h2 h3 h4 h5 p1.isList p2.isList ?_ fun h' kk => ⟨rfl,?_⟩
  ·rcases hx with z | z
   ·exact .inl (by simp; omega)
   ·exact .inr (by simp; omega)
  ·have hth : ∀ c ∈ [n + 4,n + 3,n,n + 1],c ∈ [n + 4,n + 2,n + 3,n,n + 1]:=fun c hc' => by
    simp only [List.mem_cons,List.not_mem_nil,or_false] at hc' ⊢
    rcases hc' with z | z | z | z <;> subst z <;> simp
   refine I.step (g':=s.gens) (d':=s.drawn) (t':=s.toks) (ch:=[n + 4,n + 3,n,n + 1]) (fun c hc' => ?_) (fun c o _ _ hcc e _ => kk c o (fun z => hcc (by simp [z])) (fun z => hcc (by simp [z])) (fun z => hcc (by simp [z])) (fun z => hcc (by simp [z])) e)
    (fun c o _ _ hcc e _ => ⟨o.slots,kk c o (fun z => hcc (by simp [z])) (fun z => hcc (by simp [z])) (fun z => hcc (by simp [z])) (fun z => hcc (by simp [z])) e⟩) (fun _ _ _ _ n => n)
    (fun c o hcc e => ⟨o,kk c o (fun z => hcc (by simp [z])) (fun z => hcc (by simp [z])) (fun z => hcc (by simp [z])) (fun z => hcc (by simp [z])) e⟩) (fun _ _ e => e) (fun _ _ _ e => e) (fun c ps e => ⟨#[],by rw [e]; simp⟩) (fun m hm => ?_) (fun c u e => ?_) I.bare
   ·obtain ⟨_,a1,_,a3,a4,a5⟩:=hf c (hth c hc')
    exact ⟨a3,a1,a4,a5⟩
   ·obtain ⟨o,es',ep,ho,r⟩:=hm
    have ne : ∀ c ∈ [n + 4,n + 2,n + 3,n,n + 1],X.env.locals ≠ c:=fun c hc' => Ne.symm (hf c hc').2.1
    exact ⟨o,es',ep,kk _ o (ne _ (by simp)) (ne _ (by simp)) (ne _ (by simp)) (ne _ (by simp)) ho,r⟩
   ·have nit : ∀ d u',H d = some u' → ∀ c ∈ [n + 4,n + 2,n + 3,n,n + 1],d ≠ c:=fun d u' e' c hc' z => by rw [z,(hf c hc').1] at e'; cases e'
    refine (I.hok c u e).stay (fun d v' hd q => kk d v' ?_ ?_ ?_ ?_ q) (fun _ q => q) fun _ _ q => q
    all_goals
     rcases hd with z | z
     ·rw [z]; exact nit c u e _ (by simp)
     ·exact nit d _ z _ (by simp)
 self:=fun _ _ _ _ _ st h => wpAny_pyIter_zip st.1 h
def iZp (Sq1 Sq2 : Hp → Addr → List V → Prop) (ta : TA) : TI:=fun σ H R => ta σ H fun vs H1 => ∃ a b xs ys,vs = [.ref a,.ref b] ∧ Sq1 H1 a xs ∧ Sq2 H1 b ys ∧ R (zgf Sq1 Sq2 a b) H1
theorem zgg {X : Cx} {es : List Expr} {k : Nat} {tpos p pos : Pos} {a b : Expr} {ta : TA} (hg : Gl X "zip") (hm : X.mg "zip" = none) (ha : PA X [a,b] ta) (hs : starEach [a,b] X.env = [(false,eval a X.env),(false,eval b X.env)]:=by rfl) (hs2 : starEach [b] X.env = [(false,eval b X.env)]:=by rfl) :
  PI X (.Tuple es k tpos) (.Call (.Name "zip" p) [a,b] [] pos) (iZp (SqL X.K) (SqL X.K) ta):=by
 intro pins s σ H R I h
 refine Call_ (zaN I hg hm boot_zip (PyProof.Rows.callWith_type1 (thn (ha pos pins s σ H _ I h) fun us s1 ⟨vs,H1,I1,r1,q1⟩ => ?_) (by rw [hs,hs2]) (by rw [hs2]; rfl)))
 obtain ⟨l1,l2,xs,ys,e,hq1,hq2,q⟩:=q1
 subst e
 cases r1 with
 | cons r rr =>
  cases rr with
  | cons r' rr =>
   cases rr
   cases r
   cases r'
   obtain ⟨its1,rv1,pl1,hz1⟩:=I1.list hq1
   obtain ⟨its2,rv2,pl2,hz2⟩:=I1.list hq2
   have hlt1 : l1 < s1.heap.objs.size:=by obtain ⟨_,_,e,_⟩:=pl1; exact Heap.lt_size e
   have hlt2 : l2 < s1.heap.objs.size:=by obtain ⟨_,_,e,_⟩:=pl2; exact Heap.lt_size e
   refine call_zip_2 pl1.isList pl2.isList fun h' b1 b2 b3 b4 b5 b6 kk => ?_
   have I2 : Inv X pins σ H1 { s1 with heap:=h' }:=I1.kept (t':=s1.toks) kk
   refine wpAny_pyIter_zip b1 ?_
   refine ⟨_,_,_,zgf (SqL X.K) (SqL X.K) l1 l2,H1,rfl,I2,zeJ l1 l2 s1.heap.objs.size hlt1 hlt2,⟨b1,b2,⟨_,_,b3⟩,b4,b5⟩,fun c hc => ?_,q⟩
   have hle : s1.heap.objs.size ≤ c:=by
    simp only [List.mem_cons,List.not_mem_nil,or_false] at hc
    rcases hc with z | z | z | z | z <;> subst z <;> omega
   exact I1.fpOk hle (I1.hok.fresh hle)
end L2
end
section
set_option maxHeartbeats 3999000
namespace PySem
namespace F
end F
section
variable {prog : Program} {w : World} {A : Around} {E : Value → Shared → Prop} {s : Shared}
open PyProof.Rows
end
end PySem
namespace PySem
section
variable {prog : Program} {w : World} {A : Around} {E : Value → Shared → Prop} {s : Shared}
theorem zdb {it t : Addr} {i : Nat} {items : Array Value} {x : Value} {Q : Value → Shared → Prop} (hit : s.heap.IsTupleIter it t i) (ht : s.heap.IsTuple t items) (hx : items[i]? = some x)
  (hQ : ∀ h',h'.IsTupleIter it t (i + 1) → Heap.SameBut it s.heap h' → Q x { s with heap:=h' }) : wpAny (model prog w) A (Builtin.SmallTypes.nextOf (.ref it)) Q E s:=by
 obtain ⟨o,ho,hc,hd⟩:=id hit; obtain ⟨ot,hot,_,nt,hdt⟩:=ht
 unfold Builtin.SmallTypes.nextOf; refine wpAny_bind (wpAny_callSpecial?_slot (name:=Str.ofString "__next__") hit.typeIs F.slot_tuple_iterator_next (wpAny_call_entry F.slot_tuple_iterator_next hit.typeIs F.entry_tuple_iterator_next ?_ (F.args_tuple_iterator_next_1 _)))
 show wpAny _ _ (field (.ref it) 0 >>= _) _ _ s; refine wpAny_bind (wpAny_field ho hd (x:=.ref t) rfl ?_); show wpAny _ _ (if (Value.ref t == Value.none) = true then _ else _) _ _ _; rw [if_neg (by exact Bool.false_ne_true)]
 refine wpAny_bind (wpAny_field ho hd (x:=.int _ 0) rfl ?_); refine wpAny_bind (m:=seqItems? _) (wpAny_seqItems hot hdt ?_); simp only [Int.toNat_natCast,hx]
 have hn:=Heap.get?_update_self (Obj.mapFields (·.setIfInBounds 1 (rawInt ((i + 1 : Nat) : Int)))) ho (Obj.isFreed_of_fields (Obj.data_mapFields hd _))
 refine wpAny_bind (wpAny_setField ho hd (by simp) (wpAny_pure ⟨x,rfl,wpAny_pure (hQ _ ⟨_,hn,(Obj.cls_mapFields ..).trans hc,?_⟩ (Heap.SameBut.update ..))⟩)); rw [Obj.data_mapFields hd]; simp [rawInt]
theorem zbJ {it t : Addr} {i : Nat} {items : Array Value} {Q : Value → Shared → Prop} (hh : A.handled = none) (hit : s.heap.IsTupleIter it t i) (ht : s.heap.IsTuple t items) (hx : items[i]? = none)
  (hE : ∀ h' e,Heap.ExtBut it s.heap h' → (∃ o,h'.get? e = some o ∧ o.cls = .type "StopIteration") → E (.ref e) { s with heap:=h' }) : wpAny (model prog w) A (Builtin.SmallTypes.nextOf (.ref it)) Q E s:=by
 obtain ⟨o,ho,hc,hd⟩:=id hit; obtain ⟨ot,hot,_,nt,hdt⟩:=ht
 unfold Builtin.SmallTypes.nextOf; refine wpAny_bind (wpAny_callSpecial?_slot (name:=Str.ofString "__next__") hit.typeIs F.slot_tuple_iterator_next (wpAny_call_entry F.slot_tuple_iterator_next hit.typeIs F.entry_tuple_iterator_next ?_ (F.args_tuple_iterator_next_1 _)))
 show wpAny _ _ (field (.ref it) 0 >>= _) _ _ s; refine wpAny_bind (wpAny_field ho hd (x:=.ref t) rfl ?_); show wpAny _ _ (if (Value.ref t == Value.none) = true then _ else _) _ _ _; rw [if_neg (by exact Bool.false_ne_true)]
 refine wpAny_bind (wpAny_field ho hd (x:=.int _ 0) rfl ?_); refine wpAny_bind (m:=seqItems? _) (wpAny_seqItems hot hdt ?_); simp only [Int.toNat_natCast,hx]
 refine wpAny_bind (wpAny_rule (wpAny_bind (wpAny_setField ho hd (by simp) ?_))); show wpAny _ _ (newExc (.type "StopIteration") [] >>= _) _ _ _; refine wpAny_bind ?_
 simp only [newExc,newTuple]; refine wpAny_bind (wpAny_newObj_type ?_ (by size_fits)); refine wpAny_bind (m:=firstArgMember _ _) (wpAny_of_eq (a:=Value.none) (by first | rfl | (simp only [firstArgMember]; rfl)) ?_)
 refine wpAny_newObj_type ?_ (by size_fits); simp only [raiseNew]; refine wpAny_bind (wpAny_handled ?_); first | rw [show A.in1.handled = none from hh] | rw [hh]
 refine wpAny_bind (wpAny_pure (wpAny_throw ?_)); exact hE _ _ (((Heap.SameBut.update ..).extBut.push _).push _) ⟨_,Heap.get?_push_size _ rfl,rfl⟩
end
theorem Draws.tuple {prog : Program} {w : World} {A : Around} (hh : A.handled = none) (it t : Addr) (hne : t ≠ it) (items : Array Value) : Draws prog w A it [it,t] items.size (fun i v => items[i]? = some v) (fun i h => h.IsTupleIter it t i ∧ h.IsTuple t items) where
 live:=fun i h st => st.1.imp fun o r => r.1
 frame:=fun i h h' st kk => ⟨st.1.at fun o => kk it (by simp) o,st.2.at fun o => kk t (by simp) o⟩
 item:=fun i s Q E hi st hQ => zdb st.1 st.2 (x:=items[i]) (by simp [hi]) fun h' a b => hQ _ h' s.toks (by simp [hi]) ⟨a,st.2.extBut b.extBut hne⟩ b
 done:=fun s Q E st hE => zbJ hh st.1 st.2 (by simp) hE
def zen (t : Addr) : Obj:={ cls:=.type "tuple_iterator",data:=.fields #[.ref t,.int 0 0] }
def zfn (it : Addr) : Obj:={ cls:=.type "enumerate",data:=.fields #[.none,.bool false,.ref it,rawInt 0,.none,.none] }
open AutoSeq1 (wpAny_loadPart') in
theorem zdc (l : Addr) (items : Array Value) (n : Nat) (dct : Option Addr) (sl : Array (Option Value)) :
  Meets (Builtin.«enumerate.__new__» ⟨[.type "enumerate",.ref l],[]⟩) (fun _ R s => s.heap.get? l = some { cls:=.type "tuple",dict:=dct,data:=.seq items n,slots:=sl } ∧
   R (.ok (.ret (.ref (s.heap.push (zen l)).objs.size))) { s with heap:=(s.heap.push (zen l)).push (zfn s.heap.objs.size) }) :=
 .of_wp fun prog w A R s h => by
  obtain ⟨hp,g,d,tk,os⟩:=s; obtain ⟨hl,h⟩:=h; have hT : Heap.IsTuple (Shared.heap ⟨hp,g,d,tk,os⟩) l items:=⟨_,hl,rfl,n,rfl⟩
  have hsub:=sub_enumerate; wp_walk using wpAny_loadPart' hl
  refine wpAny_stack_any fun st => wpAny_pure ?_; split
  ·rename_i c _ _ _ _ _; cases (c == Value.type "enumerate") <;> (wp_walk using wpAny_loadPart' hl,wpAny_pyIter_tuple hT; exact ⟨_,rfl,h⟩)
  ·wp_walk using wpAny_loadPart' hl,wpAny_pyIter_tuple hT; exact ⟨_,rfl,h⟩
theorem za5 {prog : Program} {w : World} {A : Around} {E : Value → Shared → Prop} {s : Shared} {l : Addr} {items : Array Value} {Q : Value → Shared → Prop} (hL : s.heap.IsTuple l items)
  (h : ∀ h',IsEnum h' (s.heap.objs.size + 1) s.heap.objs.size 0 .none → h'.IsTupleIter s.heap.objs.size l 0 → h'.objs.size = s.heap.objs.size + 2 →
   (∀ b o,s.heap.get? b = some o → h'.get? b = some o) → Q (.ref (s.heap.objs.size + 1)) { s with heap:=h' }) : wpAny (model prog w) A (call (.type "enumerate") [.ref l]) Q E s:=by
 obtain ⟨⟨c,dct,dt,sl⟩,hl,hc,n,hd⟩:=hL; replace hc : c = .type "tuple":=hc; replace hd : dt = .seq items n:=hd; subst hc hd
 refine callType_new F.called_enumerate (by decide) (F.typeCall_enumerate_1 _) (F.newCall_enumerate_1 _) (fun obj => F.args_object_init_2 obj _) F.entry_enumerate_new (zdc l items n dct sl) ⟨hl,?_⟩
 have hz : (s.heap.push (zen l)).objs.size = s.heap.objs.size + 1:=Heap.size_push ..
 have he:=Heap.get?_push_size (s.heap.push (zen l)) (o:=zfn s.heap.objs.size) rfl
 show _ ∧ _
 rw [hz] at he ⊢
 exact ⟨⟨_,he,rfl⟩,h _ he ⟨_,Heap.get?_push_of_some _ (Heap.get?_push_size _ rfl),rfl,rfl⟩ (by rw [Heap.size_push,hz]) fun b o x => Heap.get?_push_of_some _ (Heap.get?_push_of_some _ x)⟩
end PySem
namespace L2
open PySem PySem.Spec PyProof.Rows
theorem zdN {P : Program} {w : World} {K : PySem.W.Frag} {es : List Expr} {k : Nat} {pos : Pos} (a it e : Addr) (hei : e ≠ it) (hai : a ≠ it) (hae : a ≠ e) : Turn P w K (.Tuple es k pos) (zha (SqT K) a) [e,it] e (fun i h => (∃ old,IsEnum h e it i old) ∧ h.IsTupleIter it a i) where
 mem:=by simp
 obj:=fun i h st b hb => by
  obtain ⟨⟨old,he⟩,o,ho,hc,hd⟩:=st
  rcases List.mem_cons.mp hb with z | z
  ·subst z
   exact ⟨_,he,fun v z => by cases z⟩
  ·have z : b = it:=by simpa using z
   subst z
   exact ⟨o,ho,fun v z => by rw [hd] at z; cases z⟩
 keep:=fun i h h' st kk => ⟨st.1.imp fun old he => kk e (by simp) _ he,st.2.at fun o eo => kk it (by simp) o eo⟩
 item:=by
  intro X hP hw hK hc i pins s σ H E I hf st hg
  subst hP hw hK
  obtain ⟨xs,x,hq,hx⟩:=hg
  obtain ⟨⟨old,he⟩,hit⟩:=st
  obtain ⟨its,rv,p,hz⟩:=I.tuple hq
  obtain ⟨u,hu,ru⟩:=rv.get hx
  have hes : e < s.heap.objs.size:=Heap.lt_size he
  have hits : it < s.heap.objs.size:=by obtain ⟨o,ho,_⟩:=hit; exact Heap.lt_size ho
  have hlt : i < its.toArray.size:=by
   have:=(List.getElem?_eq_some_iff.mp hu).1
   simpa using this
  have hh : X.A.in1.handled = none:=by simp [I.ok.hd hc]
  refine wpAny_pyNext_enum_itemD (Draws.tuple hh it a hai its.toArray) he ⟨hit,(show s.heap.IsTuple a its.toArray from p)⟩ hlt hei (by simp [hei,Ne.symm hae]) fun u' h' tk hPu ho' hst' hT hsz kk => ?_
  obtain ⟨hit',htup'⟩:=hst'
  have eu : u' = u:=by
   have e1 : its[i]? = some u':=by simpa using hPu
   rw [hu] at e1
   exact (Option.some.inj e1).symm
  subst eu
  have k1 : ∀ b o,b ∉ [e,it] → s.heap.get? b = some o → h'.get? b = some o:=fun b o hb eo => kk b o (fun z => hb (by simp [z])) (fun z => hb (by simp [z])) eo
  have th1 : ∀ b ∈ [e,it],∃ o,h'.get? b = some o:=fun b hb => by
   rcases List.mem_cons.mp hb with z | z
   ·subst z; exact ⟨_,ho'⟩
   ·have z : b = it:=by simpa using z
    subst z
    obtain ⟨o,eo,_⟩:=hit'
    exact ⟨o,eo⟩
  have I1 : Inv X pins σ (upd H s.heap.objs.size (.tup [.int i,x])) { s with heap:=h',toks:=tk + 1 } :=
   I.turnedNew k1 hf th1 (Nat.le_refl _) ⟨za4,_,.cons ⟨tk,rfl⟩ (.cons ru .nil),zb3 hT⟩
  refine ⟨_,rfl,wpAny_letOwnedTupleGo_enum ho' fun h'' he'' hs'' => ?_⟩
  have fr : ∀ b ∈ [e,it],upd H s.heap.objs.size (.tup [.int i,x]) b = none:=fun b hb => by
   have hlt : b < s.heap.objs.size:=by
    rcases List.mem_cons.mp hb with z | z
    ·subst z; exact hes
    ·have z : b = it:=by simpa using z
     subst z; exact hits
   rw [zk (Nat.ne_of_lt hlt)]
   exact (hf b hb).1
  have I2 : Inv X pins σ (upd H s.heap.objs.size (.tup [.int i,x])) { s with heap:=h'',toks:=tk + 1 } :=
   Inv.turnedL (s:={ s with heap:=h',toks:=tk + 1 }) (ch:=[e]) (t':=tk + 1) I1 (fun b o hb eo => hs''.extBut b o (by simpa using hb) eo) (fun b hb => by
    have z : b = e:=by simpa using hb
    subst z
    exact ⟨fr b (by simp),(hf b (by simp)).2⟩) (fun b hb => by
    have z : b = e:=by simpa using hb
    subst z
    exact ⟨_,he''⟩)
  refine ⟨.ref s.heap.objs.size,_,I2,rfl,⟨_,x,I.fresh,rfl,rfl,fun ys hy => by rw [I.tuple_inj hy hq]; exact hx⟩,⟨⟨_,by simpa using he''⟩,hit'.extBut hs''.extBut (Ne.symm hei)⟩,fr⟩
 done:=by
  intro X hP hw hK hc i pins s σ H E I hf st hg
  subst hP hw hK
  obtain ⟨xs,hq,hx⟩:=hg
  obtain ⟨⟨old,he⟩,hit⟩:=st
  obtain ⟨its,rv,p,hz⟩:=I.tuple hq
  have hl:=rv.length
  obtain ⟨f0,f1,f2,f3,f4,f5⟩:=hf it (by simp)
  have hT : s.TypeIs (.ref e) "enumerate":=⟨_,he,rfl⟩; have hh : X.A.in1.handled = none:=by simp [I.ok.hd hc]
  unfold pyNext; refine wpAny_bind (wpAny_attempt (wpAny_callSpecial?_slot (name:=Str.ofString "__next__") hT F.slot_enumerate_next (wpAny_call_entry F.slot_enumerate_next hT F.entry_enumerate_next ?_ (F.args_enumerate_next_1 _))))
  show wpAny _ _ (field (.ref e) 2 >>= _) _ _ _; refine wpAny_bind (wpAny_field he rfl (x:=.ref it) rfl ?_)
  refine wpAny_bind (zbJ hh hit (show s.heap.IsTuple a its.toArray from p) (by simp; omega) fun h' x he' hx' => ?_)
  obtain ⟨o,ho,hc⟩:=hx'
  refine wpAny_bind (wpAny_isInstance (T:="StopIteration") (b:=true) ⟨o,ho,hc⟩ isSubtype_stop ?_); exact wpAny_pure ⟨rfl,I.turned (t':=s.toks) (fun b o hb e => he' b o hb e) f0 f1 f3 f4 f5⟩
 self:=fun _ _ _ _ _ st h => by
  obtain ⟨⟨old,he⟩,_⟩:=st
  exact wpAny_pyIter_enum he h
theorem zaF {X : Cx} {es : List Expr} {k : Nat} {tpos p pos : Pos} {a : Expr} {ta : TA} (hg : Gl X "enumerate") (hm : X.mg "enumerate" = none) (ha : PA X [a] ta) (hs : starEach [a] X.env = [(false,eval a X.env)]:=by rfl) :
  PI X (.Tuple es k tpos) (.Call (.Name "enumerate" p) [a] [] pos) (iEn (SqT X.K) ta):=by
 intro pins s σ H R I h
 refine Call_ (zaN I hg hm boot_enumerate (PyProof.Rows.callWith_type1 (thn (ha pos pins s σ H _ I h) fun us s1 ⟨vs,H1,I1,r1,q1⟩ => ?_) hs rfl))
 obtain ⟨l,xs,e,hq,q⟩:=q1
 subst e
 cases r1 with
 | cons r rr =>
  cases rr
  cases r
  obtain ⟨its,rv,pl,hz⟩:=I1.tuple hq
  have hlt : l < s1.heap.objs.size:=by obtain ⟨_,e,_⟩:=pl; exact Heap.lt_size e
  refine za5 (show s1.heap.IsTuple l its.toArray from pl) fun h' he hi hsz kk => ?_
  have I2 : Inv X pins σ H1 { s1 with heap:=h' }:=I1.kept (t':=s1.toks) kk
  refine wpAny_pyIter_enum he ?_; refine ⟨_,[s1.heap.objs.size + 1,s1.heap.objs.size],_,zha (SqT X.K) l,H1,rfl,I2,zdN l s1.heap.objs.size (s1.heap.objs.size + 1) (Nat.succ_ne_self _) (Nat.ne_of_lt hlt) (Nat.ne_of_lt (Nat.lt_succ_of_lt hlt)),⟨⟨_,he⟩,hi⟩,fun b hb => ?_,q⟩
  have hle : s1.heap.objs.size ≤ b:=by
   rcases List.mem_cons.mp hb with z | z
   ·rw [z]; exact Nat.le_succ _
   ·have z : b = s1.heap.objs.size:=by simpa using z
    rw [z]; exact Nat.le_refl _
  exact I1.fpOk hle (I1.hok.fresh hle)
end L2
end
section
set_option maxHeartbeats 3999000
namespace L2
open PySem PySem.Spec PyProof.Rows
inductive EqD (K : PySem.W.Frag) (H : Hp) : Nat → V → V → Bool → Prop where
 | flat {d : Nat} {x y : V} (hx : zcq x = true) (hy : zcq y = true) : EqD K H d x y (eqV x y)
 | same {d : Nat} {a : Addr} : EqD K H d (.ref a) (.ref a) true
 | lists {d : Nat} {a b : Addr} {xs ys : List V} {e : Nat → Bool} (hne : a ≠ b) (ha : SqL K H a xs) (hb : SqL K H b ys) (hl : xs.length = ys.length)
   (he : ∀ (j : Nat) x y,xs[j]? = some x → ys[j]? = some y → EqD K H d x y (e j)) : EqD K H (d + 1) (.ref a) (.ref b) ((List.range xs.length).all e)
 | lens {d : Nat} {a b : Addr} {xs ys : List V} (hne : a ≠ b) (ha : SqL K H a xs) (hb : SqL K H b ys) (hl : xs.length ≠ ys.length) : EqD K H (d + 1) (.ref a) (.ref b) false
 | tups {d : Nat} {a b : Addr} {xs ys : List V} {e : Nat → Bool} (hne : a ≠ b) (ha : SqT K H a xs) (hb : SqT K H b ys)
   (he : ∀ (j : Nat) x y,xs[j]? = some x → ys[j]? = some y → EqD K H d x y (e j)) : EqD K H (d + 1) (.ref a) (.ref b) ((List.range (min xs.length ys.length)).all e && xs.length == ys.length)
theorem zt.getE {xs : List V} {us : List Value} (r : zt xs us) {j : Nat} (h : j < us.toArray.size) : ∃ x,xs[j]? = some x ∧ RelV x us.toArray[j]:=by
 have hl:=r.length
 have hj : j < xs.length:=by rw [hl]; simpa using h
 obtain ⟨u,hu,ru⟩:=r.get (i:=j) (x:=xs[j]) (by simp)
 refine ⟨xs[j],by simp,?_⟩
 have : us.toArray[j] = u:=by
  have h2 : j < us.length:=by simpa using h
  rw [List.getElem?_eq_getElem h2] at hu
  simpa using Option.some.inj hu
 rw [this]
 exact ru
theorem EqD.at {X : Cx} {pins : List (Addr × Obj)} {σ : St} {H : Hp} {s : Shared} (I : Inv X pins σ H s) {d : Nat} {x y : V} {b : Bool} (h : EqD X.K H d x y b) :
  ∀ (A : Around) (u v : Value),RelV x u → RelV y v → A.units + d < cLine → SeqAt.EqAt A s u v b:=by
 induction h with
 | flat hx hy => exact fun A u v rx ry _ => zg1 rx ry hx hy
 | same => intro A u v rx ry _; cases rx; cases ry; exact SeqAt.EqAt.same _
 | lists hne ha hb hl he ih =>
  intro A u v rx ry hu
  cases rx; cases ry
  obtain ⟨is1,r1,p1,_⟩:=I.list ha
  obtain ⟨is2,r2,p2,_⟩:=I.list hb
  have l1:=r1.length
  have l2:=r2.length
  refine SeqAt.EqAt.of_refs hne ?_
  have q:=SeqAt.RcAt.lists (A:=A) p1.isList p2.isList (by simp only [List.size_toArray]; omega) (by omega) fun j h1 h2 => by
   obtain ⟨x,hx,rx⟩:=r1.getE h1
   obtain ⟨y,hy,ry⟩:=r2.getE h2
   exact ih j x y hx hy A.in1 _ _ rx ry (by simp only [Around.in1_units]; omega)
  rw [List.size_toArray,← l1] at q
  exact q
 | lens hne ha hb hl =>
  intro A u v rx ry hu
  cases rx; cases ry
  obtain ⟨is1,r1,p1,_⟩:=I.list ha
  obtain ⟨is2,r2,p2,_⟩:=I.list hb
  have l1:=r1.length
  have l2:=r2.length
  exact SeqAt.EqAt.of_refs hne (SeqAt.RcAt.lists_lengths p1.isList p2.isList (by simp only [List.size_toArray,bne_iff_ne]; omega) (by omega))
 | tups hne ha hb he ih =>
  intro A u v rx ry hu
  cases rx; cases ry
  obtain ⟨is1,r1,p1,_⟩:=I.tuple ha
  obtain ⟨is2,r2,p2,_⟩:=I.tuple hb
  have l1:=r1.length
  have l2:=r2.length
  refine SeqAt.EqAt.of_refs hne ?_
  have q:=SeqAt.RcAt.tuples (A:=A) (s:=s) p1 p2 (by omega) fun j h1 h2 => by
   obtain ⟨x,hx,rx⟩:=r1.getE h1
   obtain ⟨y,hy,ry⟩:=r2.getE h2
   exact ih j x y hx hy A.in1 _ _ rx ry (by simp only [Around.in1_units]; omega)
  rw [List.size_toArray,List.size_toArray,← l1,← l2] at q
  exact q
def zhL (K : PySem.W.Frag) (neg : Bool) : R2:=fun x y H Q => ∃ a b xs ys,x = .ref a ∧ y = .ref b ∧ ((SqL K H a xs ∧ SqL K H b ys) ∨ (SqT K H a xs ∧ SqT K H b ys)) ∧
 ((xs.length ≠ ys.length ∧ (∀ (j : Nat) x y,xs[j]? = some x → ys[j]? = some y → ∃ c,EqD K H 8 x y c) ∧ Q (.bl neg) H) ∨
  (xs.length = ys.length ∧ ∃ e : Nat → Bool,(∀ (j : Nat) x y,xs[j]? = some x → ys[j]? = some y → EqD K H 8 x y (e j)) ∧ Q (.bl (if neg then !(List.range xs.length).all e else (List.range xs.length).all e)) H))
theorem zfo {X : Cx} (hu : X.A.units + 20 < cLine) : OpR X (compareOp .NotEq) (zhL X.K true):=by
 intro pins s σ H x y v u Q I rx ry h
 obtain ⟨a,b,xs,ys,rfl,rfl,hk,h⟩:=h
 cases rx; cases ry
 rcases hk with ⟨ha,hb⟩ | ⟨ha,hb⟩
 ·obtain ⟨is1,r1,p1,_⟩:=I.list ha
  obtain ⟨is2,r2,p2,_⟩:=I.list hb
  have l1:=r1.length
  have l2:=r2.length
  rcases h with ⟨hl,_,q⟩ | ⟨hl,e,he,q⟩
  ·exact SeqAt.RcNeAt.lists_lengths p1.isList p2.isList (by simp only [List.size_toArray,bne_iff_ne]; omega) (by omega) _ _ _ _ ⟨.bl true,H,I,rfl,q⟩
  ·refine SeqAt.RcNeAt.lists p1.isList p2.isList (e:=e) (by simp only [List.size_toArray]; omega) (by omega) (fun j h1 h2 => ?_) _ _ _ _ ⟨.bl _,H,I,rfl,?_⟩
   ·obtain ⟨x,hx,rx⟩:=r1.getE h1
    obtain ⟨y,hy,ry⟩:=r2.getE h2
    exact (he j x y hx hy).at I _ _ _ rx ry (by simp only [Around.in1_units]; omega)
   ·rw [List.size_toArray,← l1]
    exact q
 ·obtain ⟨is1,r1,p1,_⟩:=I.tuple ha
  obtain ⟨is2,r2,p2,_⟩:=I.tuple hb
  have l1:=r1.length
  have l2:=r2.length
  rcases h with ⟨hl,he,q⟩ | ⟨hl,e,he,q⟩
  ·have he' : ∀ j : Nat,∃ c : Bool,∀ x y,xs[j]? = some x → ys[j]? = some y → EqD X.K H 8 x y c:=fun j => by
    cases hx : xs[j]? with
    | none => exact ⟨true,fun x y z => by cases z⟩
    | some x =>
     cases hy : ys[j]? with
     | none => exact ⟨true,fun x y _ z => by cases z⟩
     | some y =>
      obtain ⟨c,hc⟩:=he j x y hx hy
      exact ⟨c,fun x' y' z1 z2 => by cases z1; cases z2; exact hc⟩
   obtain ⟨e,he''⟩:=Classical.axiomOfChoice he'
   refine SeqAt.RcNeAt.tuples (s:=s) p1 p2 (e:=e) (by omega) (fun j h1 h2 => ?_) _ _ _ _ ⟨.bl _,H,I,rfl,?_⟩
   ·obtain ⟨x,hx,rx⟩:=r1.getE h1
    obtain ⟨y,hy,ry⟩:=r2.getE h2
    exact (he'' j x y hx hy).at I _ _ _ rx ry (by simp only [Around.in1_units]; omega)
   ·have hb' : (is1.toArray.size == is2.toArray.size) = false:=by
     rw [List.size_toArray,List.size_toArray]; exact beq_eq_false_iff_ne.mpr (by omega)
    rw [hb',Bool.and_false]
    exact q
  ·refine SeqAt.RcNeAt.tuples (s:=s) p1 p2 (e:=e) (by omega) (fun j h1 h2 => ?_) _ _ _ _ ⟨.bl _,H,I,rfl,?_⟩
   ·obtain ⟨x,hx,rx⟩:=r1.getE h1
    obtain ⟨y,hy,ry⟩:=r2.getE h2
    exact (he j x y hx hy).at I _ _ _ rx ry (by simp only [Around.in1_units]; omega)
   ·have hb' : (is1.toArray.size == is2.toArray.size) = true:=by
     rw [List.size_toArray,List.size_toArray]; exact beq_iff_eq.mpr (by omega)
    have hmin : min is1.toArray.size is2.toArray.size = xs.length:=by rw [List.size_toArray,List.size_toArray]; omega
    rw [hb',Bool.and_true,hmin]
    exact q
theorem za6 {X : Cx} : zar X (.builtin "isinstance") (fun xs H Q => ∃ x t n b,xs = [x,.ty n] ∧ TyOf X.K H x t ∧ PySem.W.kitOne X.K t (.type n) = some b ∧ Q (.bl b) H):=by
 intro pins s σ H xs us Q I r h
 obtain ⟨x,t,n,b,rfl,ty,hk,q⟩:=h
 obtain ⟨u,u',rfl,rx,r2⟩:=vals2 r
 cases r2
 exact zeC I rx ty hk fun tk => ⟨.bl b,H,I.tok tk,rfl,q⟩
theorem zdd {X : Cx} : zar X (.type "range") (fun xs H Q => ∃ j : Int,xs = [.int j] ∧ ∀ l,H l = none → Q (.ref l) (upd H l (.rng 0 j))):=by
 intro pins s σ H xs us Q I r h
 obtain ⟨j,rfl,q⟩:=h
 obtain ⟨u,rfl,t,rfl⟩:=vals1 r
 refine call_range_1 ?_
 exact ⟨.ref s.heap.objs.size,_,I.laid (o:=.rng 0 j) (fun b o e => Heap.get?_push_of_some _ e) (Nat.le_refl _) ⟨_,_,_,Heap.get?_push_size _ rfl⟩,rfl,q _ I.fresh⟩
def zaC (lo : Int) (n : Nat) : List Int:=(List.range n).map fun (i : Nat) => lo + (i : Int)
theorem zbo (lo : Int) (n : Nat) : (zaC lo n).length = n:=by simp [zaC]
theorem zce {acc : Array Value} {lo : Int} {n : Nat} (h : ItemsOf (fun i v => ∃ t,v = .int (lo + (i : Nat) * 1) t) acc n) : zt ((zaC lo n).map V.int) acc.toList:=by
 obtain ⟨hsz,hv⟩:=h
 have go : ∀ (us : List Value) (k : Nat),(∀ (j : Nat) v,us[j]? = some v → ∃ t,v = .int (lo + ((k + j : Nat) : Int)) t) → zt (((List.range us.length).map fun (i : Nat) => V.int (lo + ((k + i : Nat) : Int)))) us:=by
  intro us
  induction us with
  | nil => intro k _; exact .nil
  | cons u us ih =>
   intro k hu
   rw [List.length_cons,List.range_succ_eq_map,List.map_cons,List.map_map]
   refine .cons ?_ ?_
   ·obtain ⟨t,e⟩:=hu 0 u rfl
    exact ⟨t,e⟩
   ·have:=ih (k + 1) fun j v e => by
     obtain ⟨t,z⟩:=hu (j + 1) v (by simpa using e)
     exact ⟨t,by rw [z]; congr 1; omega⟩
    have e2 : (fun (i : Nat) => V.int (lo + ((k + 1 + i : Nat) : Int))) = ((fun (i : Nat) => V.int (lo + ((k + i : Nat) : Int))) ∘ Nat.succ):=by
     funext i
     show V.int _ = V.int _
     congr 2
     show ((k + 1 + i : Nat) : Int) = ((k + (i + 1) : Nat) : Int)
     omega
    rw [← e2]
    exact this
 have h1:=go acc.toList 0 fun j v e => by
  obtain ⟨t,z⟩:=hv j v (by simpa using e)
  exact ⟨t,by rw [z]; simp⟩
 have e1 : acc.toList.length = n:=by simpa using hsz
 rw [e1] at h1
 unfold zaC
 rw [List.map_map]
 have e2 : (V.int ∘ fun (i : Nat) => lo + (i : Int)) = fun (i : Nat) => V.int (lo + ((0 + i : Nat) : Int)):=by
  funext i
  show V.int (lo + (i : Int)) = V.int (lo + ((0 + i : Nat) : Int))
  rw [Nat.zero_add]
 rw [e2]
 exact h1
theorem zcf {X : Cx} (hc : X.calm = true) : zar X (.type "list") (fun xs H Q => ∃ p hi,xs = [.ref p] ∧ H p = some (.rng 0 hi) ∧ 0 ≤ hi ∧ hi ≤ 1000 ∧ ∀ l,H l = none → Q (.ref l) (upd H l (.lst ((zaC 0 hi.toNat).map V.int)))):=by
 intro pins s σ H xs us Q I r h
 obtain ⟨p,hi,rfl,hp,h0,h1,q⟩:=h
 obtain ⟨u,rfl,rx⟩:=vals1 r
 cases rx
 obtain ⟨t,u',v,e⟩:=(show zV X.prog X.w H s.heap p (.rng 0 hi) from I.hok p _ hp)
 have hsl:=sizeLine_eq
 refine call_list_range (n:=hi.toNat) (I.ok.hd hc) (show IsRange s.heap p 0 hi 1 t u' v from e) (small_one (by omega) (by omega) (by omega) (by omega)) (by rw [rangeSize_one]; split <;> omega) (by omega) fun h' tk acc' c' kk ho hacc => ?_
 have hv:=zce (lo:=0) (n:=hi.toNat) hacc
 refine ⟨.ref s.heap.objs.size,_,I.laid kk (Nat.le_refl _) ?_,rfl,q _ I.fresh⟩
 exact ⟨by rw [List.length_map,zbo]; omega,acc'.toList,c',hv,by simpa using ho⟩
end L2
namespace L2
open PySem PySem.Spec PyProof.Rows
def zib (K : PySem.W.Frag) (tl : TE) : TI:=fun σ H R => tl σ H fun x H1 => ∃ a,x = .ref a ∧ (((∃ xs,SqL K H1 a xs) ∧ R (Itl K a) H1) ∨ ((∃ xs,SqT K H1 a xs) ∧ R (Itt K a) H1))
theorem zfp {X : Cx} {tg l : Expr} {tl : TE} (hl : PE X l tl) : PI X tg l (zib X.K tl):=by
 intro pins s σ H R I h
 refine thn (hl pins s σ H _ I h) fun v s1 ⟨x,H1,I1,r1,q1⟩ => ?_
 obtain ⟨a,e,q⟩:=q1
 subst e
 cases r1
 rcases q with ⟨⟨xs,hq⟩,q⟩ | ⟨⟨xs,hq⟩,q⟩
 ·obtain ⟨its,rv,p,hz⟩:=I1.list hq
  refine wpAny_pyIter_list p.isList ?_
  refine ⟨s1.heap.objs.size,[s1.heap.objs.size],_,_,H1,rfl,I1.kept (t':=s1.toks) fun b o e => Heap.get?_push_of_some _ e,zch a _,⟨_,Heap.get?_push_size _ rfl,rfl,rfl⟩,fun b hb => ?_,q⟩
  have e : b = s1.heap.objs.size:=by simpa using hb
  subst e
  exact I1.fpOk (Nat.le_refl _) (I1.hok.fresh (Nat.le_refl _))
 ·obtain ⟨its,rv,p,hz⟩:=I1.tuple hq
  refine wpAny_pyIter_tuple (show s1.heap.IsTuple a its.toArray from p) ?_
  refine ⟨s1.heap.objs.size,[s1.heap.objs.size],_,_,H1,rfl,I1.kept (t':=s1.toks) fun b o e => Heap.get?_push_of_some _ e,zbY a _,⟨_,Heap.get?_push_size _ rfl,rfl,rfl⟩,fun b hb => ?_,q⟩
  have e : b = s1.heap.objs.size:=by simpa using hb
  subst e
  exact I1.fpOk (Nat.le_refl _) (I1.hok.fresh (Nat.le_refl _))
end L2
namespace L2
open PySem PySem.Spec PyProof.Rows
def intsOf : List Expr → Option (List Int)
 | [] => some []
 | .Constant (.int i) _ _ :: r => (intsOf r).map (i :: ·)
 | _ => none
def zcu (ns : List Int) : TA:=fun _ H Q => Q (ns.map V.int) H
theorem zfq {X : Cx} : ∀ (es : List Expr) (ns : List Int),intsOf es = some ns → PA X es (zcu ns):=by
 intro es
 induction es with
 | nil =>
  intro ns h
  have e : ns = []:=(Option.some.inj h).symm
  subst e
  exact zd
 | cons e r ih =>
  intro ns h
  unfold intsOf at h
  split at h
  ·rename_i heq
   cases heq
  ·rename_i i j p r' heq
   injection heq with e1 e2
   subst e1 e2
   cases hr : intsOf r with
   | none => rw [hr] at h; cases h
   | some ms =>
    rw [hr] at h
    have e : i :: ms = ns:=Option.some.inj h
    subst e
    exact za ze (ih ms hr)
  ·cases h
theorem zgh {X : Cx} {es : List Expr} {ns : List Int} (h : intsOf es = some ns) : PA X es (zcu ns):=zfq es ns h
end L2
namespace L2
open PySem PySem.Spec PyProof.Rows
theorem zde {X : Cx} {i : Int} {j : Nat} {p : Pos} {es : List Expr} {t : TA} (hr : PA X es t) : PA X (.Constant (.int i) j p :: es) (zgF (tC (.int i)) t):=za ze hr
end L2
namespace L2
open PySem PySem.Spec PyProof.Rows
theorem zfr {X : Cx} {i : Nat} {x : Str} {pos' pos2 spos : Pos} {rest : List Stmt} {u : TS} {es : List Expr} {ns : List Int} (h : intsOf es = some ns) (hN : X.N.Nodup) (hi : X.N[i]? = some x) (hx : Loc X.env.scope x)
  (hf : X.fn x = true ∨ X.env.scope.names.lookup x = some .local) (hr : PSs X rest u) : PSs X (.Assign [.Name x pos'] (.List es pos2) spos :: rest) (zhs (zf1 (zf4 (zcu ns)) (zaW i)) u):=by
 have h1 : PE X (.List es pos2) (zf4 (zcu ns)):=@zad X es (zcu ns) pos2 (@zgh X es ns h)
 have h2 : PS X (.Assign [.Name x pos'] (.List es pos2) spos) (zf1 (zf4 (zcu ns)) (zaW i)):=zl hN hi hx h1 (by rfl) hf
 exact zf h2 hr
end L2
namespace L2
open PySem PySem.Spec PyProof.Rows
section
variable {X : Cx} {K : PySem.W.Frag}
theorem zdf (hK : X.K = K) : IxR X (zhH K):=by subst hK; exact zr
def zhM (K : PySem.W.Frag) : List V → Hp → VK → Prop:=fun xs H Q => ∃ p ys,xs = [.ref p] ∧ (SqL K H p ys ∨ SqT K H p ys) ∧ Q (.int ys.length) H
theorem zU (hK : X.K = K) : zar X (.builtin "len") (zhM K):=by subst hK; exact zw
theorem zaR {es : List Expr} {k : Nat} {t : TGs} {n : Nat} {pos : Pos} (hK : X.K = K) (hc : X.calm = true) (h : PGs X es t)
  (hn : (assignEach es X.env).length = n:=by rfl) (hst : (assignEach es X.env).findIdx? (·.1) = none:=by rfl) : PG X (.Tuple es k pos) (ze8 K n t):=by subst hK; exact zaZ hc h hn hst
theorem zhb {o e : Expr} {es : List Expr} {to : TE} {t : TA} {name : Str} {apos cpos : Pos} {T id : String} {r : V → List V → Hp → VK → Prop} (hK : X.K = K) (pa : PlainAttrs T) (slot : Slot T name id) (hty : typeOf (.builtin id) = pure (.type "method_descriptor")) (hm : MtR X id r) (ho : PE X o to) (ha : PA X (e :: es) t)
  (hbase : attributeBase o name X.env (eval o X.env) = eval o X.env:=by rfl)
  (hfew : ((backTo cpos (starEach (e :: es) X.env)).all (fun x => !x.1) && (backToKw cpos (keywordEach [] X.env)).all (fun x => x.1.isSome)
   && decide ((e :: es).length + ([] : List Keyword).length + (if ([] : List Keyword).isEmpty then 0 else 1) < 30)) = true:=by rfl)
  (hline : (apos.endLine == cpos.line) = true:=by rfl) (hs : starEach (e :: es) X.env = (false,eval e X.env) :: starEach es X.env:=by rfl) (hplain : (backTo cpos (starEach es X.env)).any (·.1) = false:=by rfl) :
  PE X (.Call (.Attribute o name apos) (e :: es) [] cpos) (tBM K T r to t):=by subst hK; exact zbI pa slot hty hm ho ha hbase hfew hline hs hplain
end
end L2
namespace L2
end L2
end
section
namespace My
def Cg (p a b : Int) : Prop:=∃ k,a = b + p * k
theorem Cg.refl (p a : Int) : Cg p a a:=⟨0,by grind⟩
theorem Cg.symm {p a b : Int} (h : Cg p a b) : Cg p b a:=by obtain ⟨k,e⟩:=h; exact ⟨-k,by grind⟩
theorem Cg.trans {p a b c : Int} (h : Cg p a b) (h' : Cg p b c) : Cg p a c:=by
 obtain ⟨k,e⟩:=h; obtain ⟨l,e'⟩:=h'; exact ⟨k + l,by grind⟩
theorem Cg.add {p a b c d : Int} (h : Cg p a b) (h' : Cg p c d) : Cg p (a + c) (b + d):=by
 obtain ⟨k,e⟩:=h; obtain ⟨l,e'⟩:=h'; exact ⟨k + l,by grind⟩
theorem Cg.mul {p a b c d : Int} (h : Cg p a b) (h' : Cg p c d) : Cg p (a * c) (b * d):=by
 obtain ⟨k,e⟩:=h; obtain ⟨l,e'⟩:=h'
 exact ⟨k * d + b * l + p * k * l,by subst e e'; grind⟩
theorem Cg.of_eq {p a b : Int} (h : a = b) : Cg p a b:=h ▸ Cg.refl p a
theorem Cg.emod (p a : Int) : Cg p (a % p) a:=⟨-(a / p),by have:=Int.emod_add_mul_ediv a p; grind⟩
theorem Cg.mod_eq {p a b : Int} (h : Cg p a b) : a % p = b % p:=by
 obtain ⟨k,e⟩:=h; rw [e,Int.add_mul_emod_self_left]
theorem Cg.eq {p a b : Int} (h : Cg p a b) (ha : 0 ≤ a) (ha' : a < p) (hb : 0 ≤ b) (hb' : b < p) : a = b:=by
 have:=h.mod_eq
 rwa [Int.emod_eq_of_lt ha ha',Int.emod_eq_of_lt hb hb'] at this
def zah (p x : Int) : List Int → Int
 | [] => 0
 | c :: r => (c + x * zah p x r) % p
theorem zcL {p x : Int} (hp : 0 < p) : ∀ l,0 ≤ zah p x l
 | [] => Int.le_refl 0
 | _ :: _ => Int.emod_nonneg _ (by omega)
theorem zcM {p x : Int} (hp : 0 < p) : ∀ l,zah p x l < p
 | [] => hp
 | _ :: _ => Int.emod_lt_of_pos _ hp
theorem zcv (p x c : Int) (r : List Int) : Cg p (zah p x (c :: r)) (c + x * zah p x r):=Cg.emod _ _
def lv (p x : Int) : Int → Int → List Int → Int
 | total,_,[] => total
 | total,power,c :: r => lv p x ((total + c * power) % p) (power * x % p) r
theorem zgG {p x : Int} : ∀ (l : List Int) (total power : Int),Cg p (lv p x total power l) (total + power * zah p x l)
 | [],total,power => Cg.of_eq (by show total = total + power * 0; grind)
 | c :: r,total,power => by
  have h1:=zgG (p:=p) (x:=x) r ((total + c * power) % p) (power * x % p)
  refine h1.trans ?_
  have h2 : Cg p ((total + c * power) % p + power * x % p * zah p x r) (total + c * power + power * x * zah p x r):=(Cg.emod p _).add ((Cg.emod p (power * x)).mul (Cg.refl p _))
  refine h2.trans ?_
  have h3 : Cg p (total + power * (c + x * zah p x r)) (total + power * zah p x (c :: r)):=(Cg.refl p _).add ((Cg.refl p _).mul (zcv p x c r).symm)
  refine (Cg.of_eq ?_).trans h3
  grind
theorem zfs {p x : Int} (hp : 0 < p) : ∀ (l : List Int) (total power : Int),0 ≤ total → total < p → 0 ≤ lv p x total power l ∧ lv p x total power l < p
 | [],total,power,h1,h2 => ⟨h1,h2⟩
 | c :: r,total,power,h1,h2 => zfs hp r _ _ (Int.emod_nonneg _ (by omega)) (Int.emod_lt_of_pos _ hp)
theorem zeo {p x : Int} (hp : 0 < p) (l : List Int) : lv p x 0 1 l = zah p x l:=by
 obtain ⟨a,b⟩:=zfs (x:=x) hp l 0 1 (Int.le_refl _) hp
 exact ((zgG l 0 1).trans (Cg.of_eq (by grind))).eq a b (zcL hp l) (zcM hp l)
def zac : List Int:=[5,7,11,13,17,19,23,29,31,37,41,43,47,53,59,61,67,71,73,79,83,89,97]
theorem zcw {p : Int} (hp : p ∈ zac) : 5 ≤ p ∧ p ≤ 97:=by
 have : zac.all (fun p => decide (5 ≤ p ∧ p ≤ 97)) = true:=by decide +kernel
 have:=List.all_eq_true.mp this p hp
 simpa using this
end My
end
section
set_option maxHeartbeats 3999000
namespace My
open PySem L2 PyProof.Rows
section
variable {K : PySem.W.Frag}
theorem zft {ns : List Int} {k : Int} (h0 : 0 ≤ k) (h1 : k < ns.length) : ∃ c : Int,ns[k.toNat]? = some c ∧ atI (ns.map V.int) k = some (.int c):=by
 have hlt : k.toNat < ns.length:=by omega
 have e : atI (ns.map V.int) ((k.toNat : Nat) : Int) = some (.int ns[k.toNat]):=zal (by simp [List.getElem?_map,List.getElem?_eq_getElem hlt])
 have hk : ((k.toNat : Nat) : Int) = k:=by omega
 rw [hk] at e
 exact ⟨ns[k.toNat],by simp,e⟩
theorem zcN {ns : List Int} {k : Int} (h0 : 0 ≤ k) (h1 : k < ns.length) : ∃ c : Int,atI (ns.map V.int) k = some (.int c):=let ⟨c,_,e⟩:=zft h0 h1; ⟨c,e⟩
theorem zb {H : Hp} {a : Addr} {o : HO} (h : H a = none) : zx H (upd H a o):=fun b u e => by rw [zk (zo e h)]; exact e
theorem zQ {H H' : Hp} {a : Addr} {o : HO} (s : zx H H') (h : H a = none) : zx H (upd H' a o):=fun b u e => by rw [zk (zo e h)]; exact s b u e
theorem zat {n : Nat} (h : n ≤ 10000) : n < sizeLine:=by rw [sizeLine_eq]; omega
def zeK (K : PySem.W.Frag) : Sp:=fun vs H Q _ => ∃ (a : Addr) (ns : List Int) (k : Int),vs = [.ref a,.int k] ∧ SqL K H a (ns.map V.int) ∧ ns.length ≤ 63 ∧ 0 ≤ k ∧ k ≤ 1000 ∧ ∀ c : Int,Q (.int c) H
def zcO (many : Nat) (base : Int) (ds : List Int) : Prop:=ds.length = many ∧ ∀ d ∈ ds,0 ≤ d ∧ d < base
def zdO (K : PySem.W.Frag) : Sp:=fun vs H Q _ => ∃ (a : Addr) (ns : List Int) (k many base : Int),vs = [.ref a,.int k,.int many,.int base] ∧ SqL K H a (ns.map V.int) ∧ ns.length ≤ 63 ∧ 0 ≤ k ∧ k ≤ 1000 ∧ 0 ≤ many ∧ many ≤ 1000 ∧ 0 < base ∧ base < 1073741824 ∧
 ∀ (l : Addr) (ds : List Int) (H' : Hp),H l = none → zx H H' → zcO many.toNat base ds → H' l = some (.lst (ds.map V.int)) → Q (.ref l) H'
abbrev zgi : List V:=[.int 2147483647,.int 2147483629,.int 2147483587,.int 2147483579,.int 2147483563,.int 2147483549,.int 2147483543,.int 2147483497]
theorem zgj {m : Int} (h0 : 0 ≤ m) (h1 : m < 8) : ∃ q : Int,atI zgi m = some (.int q) ∧ 0 < q ∧ q < 2147483648:=by
 have : m = 0 ∨ m = 1 ∨ m = 2 ∨ m = 3 ∨ m = 4 ∨ m = 5 ∨ m = 6 ∨ m = 7:=by omega
 rcases this with e | e | e | e | e | e | e | e <;> subst e <;> exact ⟨_,rfl,by decide,by decide⟩
theorem zb4 (j : Int) : ∃ q : Int,atI zgi (j % 8) = some (.int q) ∧ 0 < q ∧ q < 2147483648:=zgj (Int.emod_nonneg _ (by decide)) (Int.emod_lt_of_pos _ (by decide))
theorem gY {i : Nat} {x : V} {σ : L2.St} {H : Hp} {A B : L2.St → Hp → Prop} (h : A (σ.set i (some x)) H) : zaW i x σ H (fun σ2 H2 => zg6 σ2 H2 fun b H3 => if b = true then A σ2 H3 else B σ2 H3):=by
 show (if true = true then A (σ.set i (some x)) H else B (σ.set i (some x)) H)
 rw [if_pos rfl]
 exact h
structure CodeOk (mk mn p k : Int) (pl : List Int) : Prop where
 pr : p ∈ zac
 k1 : 1 ≤ k
 kk : k ≤ mk
 kl : k ≤ pl.length
 ln : (pl.length : Int) ≤ mn
 nd : pl.Nodup
 rg : ∀ x ∈ pl,0 ≤ x ∧ x < p
def zeL (K : PySem.W.Frag) : Sp:=fun vs H Q _ => ∃ (a : Addr) (ns : List Int) (at' mk mn : Int),vs = [.ref a,.int at',.int mk,.int mn] ∧ SqL K H a (ns.map V.int) ∧ ns.length ≤ 63 ∧ 0 ≤ at' ∧ at' ≤ 1000 ∧ 1 ≤ mk ∧ mk ≤ 5 ∧ mk ≤ mn ∧ mn ≤ 16 ∧
 ∀ (c tt : Addr) (p k : Int) (pl : List Int) (H' : Hp),H c = none → zx H H' → CodeOk mk mn p k pl → H' c = some (.tup [.int p,.int k,.ref tt]) → H' tt = some (.tup (pl.map V.int)) → Q (.ref c) H'
theorem zhc {x y m : Int} (h0 : 0 ≤ m) (h1 : m < 2) : ∃ z : Int,atI [V.int x,V.int y] m = some (.int z) ∧ (z = x ∨ z = y):=by
 have : m = 0 ∨ m = 1:=by omega
 rcases this with e | e <;> subst e
 ·exact ⟨x,rfl,.inl rfl⟩
 ·exact ⟨y,rfl,.inr rfl⟩
theorem zfu {ns : List Int} {k : Int} (h0 : 0 ≤ k) (h1 : k < ns.length) : ∃ c : Int,c ∈ ns ∧ atI (ns.map V.int) k = some (.int c):=by
 obtain ⟨c,e,h⟩:=zft h0 h1
 exact ⟨c,List.mem_of_getElem? e,h⟩
theorem zcx {α β : Type} (f : α → β) : ∀ (l : List α) (k : Nat),(l.map f).eraseIdx k = (l.eraseIdx k).map f
 | [],_ => rfl
 | _ :: _,0 => rfl
 | a :: l,k + 1 => by show f a :: (l.map f).eraseIdx k = f a :: (l.eraseIdx k).map f; rw [zcx f l k]
theorem zb5 {α : Type} : ∀ {l : List α} {k : Nat} {x : α},l[k]? = some x → (x :: l.eraseIdx k).Perm l
 | [],_,_,h => by simp at h
 | a :: l,0,x,h => by
  have e : a = x:=by simpa using h
  subst e
  exact List.Perm.refl _
 | a :: l,k + 1,x,h => by
  have ih:=zb5 (l:=l) (k:=k) (x:=x) (by simpa using h)
  exact (List.Perm.swap a x _).trans (ih.cons a)
theorem zgk {p : Int} {xs ls : List Int} {k : Nat} {x : Int} (h : ls[k]? = some x) (nd : (xs ++ ls).Nodup) (rg : ∀ y ∈ xs ++ ls,0 ≤ y ∧ y < p) : ((xs ++ [x]) ++ ls.eraseIdx k).Nodup ∧ ∀ y ∈ (xs ++ [x]) ++ ls.eraseIdx k,0 ≤ y ∧ y < p:=by
 have hp : ((xs ++ [x]) ++ ls.eraseIdx k).Perm (xs ++ ls):=by
  rw [List.append_assoc]
  exact (zb5 h).append_left xs
 exact ⟨hp.nodup_iff.mpr nd,fun y hy => rg y (hp.mem_iff.mp hy)⟩
theorem zeM (p : Int) : (zaC 0 p.toNat).Nodup ∧ ∀ y ∈ zaC 0 p.toNat,0 ≤ y ∧ y < p:=by
 unfold zaC
 constructor
 ·rw [List.nodup_iff_pairwise_ne,List.pairwise_map]
  exact (List.nodup_iff_pairwise_ne.mp (List.nodup_range (n:=p.toNat))).imp fun {a b} hab => by omega
 ·intro y hy
  obtain ⟨i,hi,e⟩:=List.mem_map.mp hy
  have:=List.mem_range.mp hi
  omega
def zdg (K : PySem.W.Frag) : Sp:=fun vs H Q _ => ∃ (p x : Int) (a : Addr) (cs : List Int),vs = [.int p,.ref a,.int x] ∧ (SqL K H a (cs.map V.int) ∨ SqT K H a (cs.map V.int)) ∧ 0 < p ∧ p ≤ 97 ∧ 0 ≤ x ∧ x < p ∧ Q (.int (zah p x cs)) H
def zdP (K : PySem.W.Frag) : Sp:=zdg K
theorem zan {cs : List Int} {j : Nat} {x : V} (h : (cs.map V.int)[j]? = some x) : ∃ c,x = .int c ∧ cs[j]? = some c:=by
 rw [List.getElem?_map] at h
 cases e : cs[j]? with
 | none => rw [e] at h; cases h
 | some c => rw [e] at h; exact ⟨c,(Option.some.inj h).symm,rfl⟩
def zdQ (K : PySem.W.Frag) : Sp:=fun vs H Q _ => ∃ i : Int,vs = [.int i] ∧ Q (.bl true) H
theorem zep {p x total power c : Int} {cs : List Int} {i : Nat} (h : cs[i]? = some c) : lv p x total power (cs.drop i) = lv p x ((total + c * power) % p) (power * x % p) (cs.drop (i + 1)):=by
 obtain ⟨hlt,e⟩:=List.getElem?_eq_some_iff.mp h
 rw [List.drop_eq_getElem_cons hlt,e]
 rfl
theorem gY2 {K : PySem.W.Frag} {i j : Nat} {T : Addr} {x y : V} {σ : L2.St} {H : Hp} {A B : L2.St → Hp → Prop} (hT : SqT K H T [x,y]) (h : A ((σ.set i (some x)).set j (some y)) H) :
  ze8 K 2 (zc2 (zaW i) (zc2 (zaW j) zf0)) (.ref T) σ H (fun σ2 H2 => zg6 σ2 H2 fun b H3 => if b = true then A σ2 H3 else B σ2 H3):=by
 refine ⟨T,_,rfl,hT,rfl,x,_,rfl,y,_,rfl,rfl,?_⟩
 show (if true = true then A ((σ.set i (some x)).set j (some y)) H else B ((σ.set i (some x)).set j (some y)) H)
 rw [if_pos rfl]
 exact h
theorem zfv {f : Int → Int → Int} {as bs : List Int} {i : Nat} {x y : Int} (hx : as[i]? = some x) (hy : bs[i]? = some y) : (List.zipWith f as bs).take (i + 1) = (List.zipWith f as bs).take i ++ [f x y]:=by
 have e : (List.zipWith f as bs)[i]? = some (f x y):=by rw [List.getElem?_zipWith,hx,hy]
 rw [List.take_add_one,e,Option.toList]
theorem zO {bs : List Addr} {i : Nat} {x : V} (h : (bs.map V.ref)[i]? = some x) : ∃ b,x = .ref b ∧ bs[i]? = some b:=by
 rw [List.getElem?_map] at h
 cases e : bs[i]? with
 | none => rw [e] at h; cases h
 | some b => rw [e] at h; exact ⟨b,(Option.some.inj h).symm,rfl⟩
theorem take_snoc {α : Type} {l : List α} {i : Nat} {x : α} (h : l[i]? = some x) : l.take (i + 1) = l.take i ++ [x]:=by
 rw [List.take_add_one,h,Option.toList]
theorem zfw {f : Int → Int → Int} {as bs : List Int} {n : Nat} (h1 : n ≤ as.length) (h2 : n ≤ bs.length) (h3 : as.length ≤ n ∨ bs.length ≤ n) : (List.zipWith f as bs).length = n:=by
 rw [List.length_zipWith]
 omega
theorem zeN {a b : Addr} {as bs : List Int} {n : Nat} {f : Int → Int → Int} {g : TG} {ts : TT} {te : TE} {σ0 : L2.St} {Q : VK} {H : Hp} (ha : H a = some (.lst (as.map V.int))) (hb : H b = some (.lst (bs.map V.int))) (h1 : n ≤ as.length) (h2 : n ≤ bs.length) (h3 : as.length ≤ n ∨ bs.length ≤ n) (hn : n ≤ 10000)
  (hs : ∀ (i : Nat) (x y : Int) (H1 : Hp) (T : Addr) (R : VK) (B : L2.St → Hp → Prop),as[i]? = some x → bs[i]? = some y → zx H H1 → H1 T = none → R (.int (f x y)) (upd H1 T (.tup [.int x,.int y])) → g (.ref T) σ0 (upd H1 T (.tup [.int x,.int y])) fun σ2 H2 => ts σ2 H2 fun b H3 => if b = true then te σ2 H3 R else B σ2 H3)
  (hd : ∀ D H1,zx H H1 → H1 D = none → Q (.ref D) (upd H1 D (.lst ((List.zipWith f as bs).map V.int)))) : cGo g ts te σ0 (zgf (SqL K) (SqL K) a b) Q H:=by
 have hl:=zfw (f:=f) h1 h2 h3
 refine z5 (n:=n) (fun i ys H' => ys = ((List.zipWith f as bs).take i).map V.int ∧ zx H H') ⟨by simp,fun _ _ e => e⟩ ?_ ?_ ?_ ?_
 ·rintro i ys H3 hi ⟨_,s3⟩
  obtain ⟨x,hx⟩ : ∃ x,as[i]? = some x:=⟨as[i]'(by omega),by simp⟩
  obtain ⟨y,hy⟩ : ∃ y,bs[i]? = some y:=⟨bs[i]'(by omega),by simp⟩
  exact ⟨_,_,.int x,.int y,SqL.of (s3 _ _ ha),SqL.of (s3 _ _ hb),by rw [List.getElem?_map,hx]; rfl,by rw [List.getElem?_map,hy]; rfl⟩
 ·rintro ys H3 ⟨_,s3⟩
  exact ⟨_,_,SqL.of (s3 _ _ ha),SqL.of (s3 _ _ hb),by rw [List.length_map,List.length_map]; exact h3⟩
 ·rintro i x ys H3 H4 hi ⟨rfl,s3⟩ ⟨T,u,v,hT,rfl,rfl,hu,hv⟩
  obtain ⟨x,rfl,hx⟩:=zan (hu _ (SqL.of (s3 _ _ ha)))
  obtain ⟨y,rfl,hy⟩:=zan (hv _ (SqL.of (s3 _ _ hb)))
  refine hs i x y H3 T _ _ hx hy s3 hT ⟨zat ?_,?_,s3.trans (zb hT)⟩
  ·rw [List.length_map]
   exact Nat.le_trans (List.length_take_le _ _) (by omega)
  ·rw [zfv hx hy,List.map_append]
   rfl
 ·rintro ys H3 D ⟨rfl,s3⟩ hD
  rw [List.take_of_length_le (by omega)]
  exact hd D H3 s3 hD
theorem zbf {a : Addr} {xs fs : List V} {g : TG} {ts : TT} {te : TE} {σ0 : L2.St} {Q : VK} {H : Hp} (ha : SqL K H a xs) (hl : fs.length = xs.length) (hn : xs.length ≤ 10000)
  (hs : ∀ (i : Nat) (x y : V) (R : VK) (B : L2.St → Hp → Prop),xs[i]? = some x → fs[i]? = some y → R y H → g x σ0 H fun σ2 H2 => ts σ2 H2 fun b H3 => if b = true then te σ2 H3 R else B σ2 H3)
  (hd : ∀ D,H D = none → Q (.ref D) (upd H D (.lst fs))) : cGo g ts te σ0 (Itl K a) Q H:=by
 refine z5 (n:=xs.length) (fun i ys H' => ys = fs.take i ∧ H' = H) ⟨by simp,rfl⟩ ?_ ?_ ?_ ?_
 ·rintro i ys H3 hi ⟨_,rfl⟩
  exact ⟨_,xs[i],ha,by simp⟩
 ·rintro ys H3 ⟨_,rfl⟩
  exact ⟨_,ha,Nat.le_refl _⟩
 ·rintro i x ys H3 H4 hi ⟨rfl,rfl⟩ ⟨rfl,hx⟩
  have hy : fs[i]? = some fs[i]:=by simp
  refine hs i x fs[i] _ _ (hx _ ha) hy ⟨zat (Nat.le_trans (List.length_take_le _ _) (by omega)),?_,rfl⟩
  rw [take_snoc hy]
 ·rintro ys H3 D ⟨rfl,rfl⟩ hD
  rw [List.take_of_length_le (by omega)]
  exact hd D hD
theorem zaG {a : Addr} {xs fs : List V} {g : TG} {ts : TT} {te : TE} {σ0 : L2.St} {Q : VK} {H : Hp} (ha : SqT K H a xs) (hl : fs.length = xs.length) (hn : xs.length ≤ 10000)
  (hs : ∀ (i : Nat) (x y : V) (R : VK) (B : L2.St → Hp → Prop),xs[i]? = some x → fs[i]? = some y → R y H → g x σ0 H fun σ2 H2 => ts σ2 H2 fun b H3 => if b = true then te σ2 H3 R else B σ2 H3)
  (hd : ∀ D,H D = none → Q (.ref D) (upd H D (.lst fs))) : cGo g ts te σ0 (Itt K a) Q H:=by
 refine z5 (n:=xs.length) (fun i ys H' => ys = fs.take i ∧ H' = H) ⟨by simp,rfl⟩ ?_ ?_ ?_ ?_
 ·rintro i ys H3 hi ⟨_,rfl⟩
  exact ⟨_,xs[i],ha,by simp⟩
 ·rintro ys H3 ⟨_,rfl⟩
  exact ⟨_,ha,Nat.le_refl _⟩
 ·rintro i x ys H3 H4 hi ⟨rfl,rfl⟩ ⟨rfl,hx⟩
  have hy : fs[i]? = some fs[i]:=by simp
  refine hs i x fs[i] _ _ (hx _ ha) hy ⟨zat (Nat.le_trans (List.length_take_le _ _) (by omega)),?_,rfl⟩
  rw [take_snoc hy]
 ·rintro ys H3 D ⟨rfl,rfl⟩ hD
  rw [List.take_of_length_le (by omega)]
  exact hd D hD
def zcP (K : PySem.W.Frag) : Sp:=fun vs H Q _ => ∃ (a : Addr) (ns : List Int),vs = [.ref a] ∧ SqL K H a (ns.map V.int) ∧ ns.length ≤ 63 ∧ ∀ H',Q (.bl true) H'
end
end My
end
section
set_option maxHeartbeats 3999000
namespace PySem
section
variable {prog : Program} {w : World} {A : Around} {E : Value → Shared → Prop} {s : Shared}
end
end PySem
namespace PySem
section
variable {prog : Program} {w : World} {A : Around} {E : Value → Shared → Prop} {s : Shared}
end
end PySem
end
section
set_option maxHeartbeats 3999000
namespace L2
open PySem PySem.Spec PyProof.Rows
end L2
end
section
set_option maxHeartbeats 3999000
namespace L2
open PySem PySem.Spec PyProof.Rows
end L2
end
section
set_option maxHeartbeats 3999000
namespace My
open PySem L2 PyProof.Rows
section
variable {K : PySem.W.Frag}
end
end My
end
section
set_option maxHeartbeats 3999000
namespace My
open PySem L2 PyProof.Rows
section
variable {K : PySem.W.Frag}
end
end My
end
section
set_option maxHeartbeats 3998000
namespace PySem
section
variable {prog : Program} {w : World} {A : Around} {E : Value → Shared → Prop} {s : Shared}
end
end PySem
namespace L2
open PySem PySem.Spec PyProof.Rows
end L2
end
section
set_option maxHeartbeats 3999000
namespace L2
open PySem PySem.Spec PyProof.Rows
end L2
end
section
set_option maxHeartbeats 3999000
namespace L2
open PySem PySem.Spec PyProof.Rows
section
variable {prog : Program} {w : World} {A : Around} {h : Heap} {g : Array GenState} {d : Drawn} {tk : Nat} {os : OsState} {K : PySem.W.Frag} {x C : Addr} {E : Value → Shared → Prop}
end
end L2
end
section
set_option maxHeartbeats 3999000
namespace L2
open PySem PySem.Spec PyProof.Rows
end L2
end
section
set_option maxHeartbeats 3999000
namespace L2
open PySem PySem.Spec PyProof.Rows
end L2
end
section
set_option maxHeartbeats 3999000
namespace L2
open PySem PySem.Spec PyProof.Rows
section
variable {P : Program} {w : World} {outer : List Env} {H H' : Hp} {h h' B : Heap} {e C : Addr}
end
section
variable {X : Cx} {σ : St} {H : Hp} {s : Shared} {pins : List (Addr × Obj)}
end
section
variable {P : Program} {w : World} {K : PySem.W.Frag} {mg : Str → Option Value} {base : Heap} {N : List Str} {qual : Str} {scope : Scope} {f : Addr} {cd : Value} {A : Around} {outer : List Env} {s₀ : Shared} {H₀ : Hp} {E : XK}
end
section
variable {X : Cx} {x : Str} {C : Addr} {e : Expr} {te : TE} {np cpos pos : Pos} {E : XK}
end
end L2
end
section
set_option maxHeartbeats 3999000
namespace L2
open PySem PySem.Spec PyProof.Rows
section
variable {X : Cx} {pins : List (Addr × Obj)} {σ : St} {CX : CXT} {k : Nat} {f C : Addr} {fd : FuncData} {ps : List Str} {sp : Sp} {dvs : List V} {ds : List Value} {E : XK} {x m : Str} {p pos apos : Pos} {e o : Expr} {es : List Expr} {ta te : TE} {t : TA}
end
section
variable {X : Cx} {σ : St} {H : Hp} {s : Shared} {pins : List (Addr × Obj)}
end
section
variable {X : Cx} {pins : List (Addr × Obj)} {σ : St} {H : Hp} {s : Shared} {e : Addr}
end
end L2
end
section
set_option maxHeartbeats 3999000
namespace L2
open PySem PySem.Spec PyProof.Rows
section
variable {X : Cx} {x n : Str} {S : Addr} {i : Nat} {body suite : List Stmt} {b₀ : Stmt} {tb : XK → TS} {th : TS} {np hpos pos : Pos}
end
end L2
end
section
set_option maxHeartbeats 3999000
namespace L2
open PySem PySem.Spec PyProof.Rows
section
variable {P : Program} {w : World} {K : PySem.W.Frag} {mg : Str → Option Value} {base : Heap}
end
section
variable {X : Cx} {k : Nat} {f : Addr} {fd : FuncData} {ps : List Str} {sp : Sp} {x : Str} {p pos : Pos} {e : Expr} {es : List Expr} {t : TA}
end
end L2
end
section
set_option maxHeartbeats 3999000
namespace L2
open PySem PySem.Spec PyProof.Rows
section
variable {X : Cx}
end
def zeO (hi : Int) (n : Nat) : It:=⟨fun i _ => i < n,fun i H x H' => H' = H ∧ x = .int (hi - i),fun i _ => n ≤ i⟩
theorem zdh {P : Program} {w : World} {K : PySem.W.Frag} {tg : Expr} (it : Addr) (lo : Int) (n : Nat) : Turn P w K tg (zeO lo n) [it] it (fun i h => IsRangeIter h it (lo + (i : Nat) * (-1)) ((n : Int) - (i : Nat)) (-1)) where
 mem:=by simp
 obj:=fun i h st b hb => by
  have e : b = it:=by simpa using hb
  subst e
  exact ⟨_,st,fun v z => by
   have z' : Data.fields _ = Data.cell v:=z
   cases z'⟩
 keep:=fun i h h' st k => k it (by simp) _ st
 item:=by
  intro X hP hw hK hc i pins s σ H E I hf st hg
  subst hP hw hK
  obtain ⟨f0,f1,f2,f3,f4,f5⟩:=hf it (by simp)
  have W:=Walks.range (prog:=X.prog) (w:=X.w) (I.ok.hd hc) it lo (-1) n
  refine W.item i s _ _ hg st fun v h' tk hv st' kk => ?_
  obtain ⟨t,rfl⟩:=hv
  have I1 : Inv X pins σ H { s with heap:=h',toks:=tk }:=I.turned (fun b o hb e => kk b o (by simpa using hb) e) f0 f1 f3 f4 f5
  refine ⟨_,rfl,zec (s:={ s with heap:=h',toks:=tk }) (n:="range_iterator") st' rfl rfl (by decide) ⟨.int (lo - i),H,I1,⟨t,?_⟩,⟨rfl,rfl⟩,st',fun b hb => (hf b hb).1⟩⟩
  rw [show lo + (i : Int) * (-1) = lo - i by omega]
 done:=by
  intro X hP hw hK hc i pins s σ H E I hf st hg
  subst hP hw hK
  obtain ⟨f0,f1,f2,f3,f4,f5⟩:=hf it (by simp)
  exact wpAny_pyNext_range_end (I.ok.hd hc) st (by have : n ≤ i:=hg; omega) fun h' eb => ⟨rfl,I.turned (t':=s.toks) (fun b o hb e => eb b o hb e) f0 f1 f3 f4 f5⟩
 self:=fun _ _ _ _ _ st h => wpAny_pyIter_rangeiter st h
section
variable {X : Cx} {tg : Expr}
theorem zdR {hi : Int} {n : Nat} {g : TG} {tb : TS} {D : Ends} {σ : St} {H : Hp} (Pv : Nat → St → Hp → Prop) (h0 : Pv 0 σ H)
  (hs : ∀ i σ H,i < n → Pv i σ H → g (.int (hi - i)) σ H fun σ2 H2 => tb { D with nx:=Pv (i + 1),ct:=Pv (i + 1),bk:=D.nx } σ2 H2) (hd : ∀ σ H,Pv n σ H → D.nx σ H) :
  ∃ W : Nat → Nat → St → Hp → Prop,(∃ m,W 0 m σ H) ∧ ∀ i m σ H,W i m σ H →
   ((zeO hi n).stop i H ∧ D.nx σ H) ∨ ((zeO hi n).go i H ∧ ∃ N : St → Hp → Prop,(∀ σ' H',N σ' H' → ∃ m',m' < m ∧ W (i + 1) m' σ' H') ∧ ∀ x H',(zeO hi n).yld i H x H' → g x σ H' fun σ2 H2 => tb { D with nx:=N,ct:=N,bk:=D.nx } σ2 H2):=by
 refine ⟨fun i m σ H => m = n - i ∧ i ≤ n ∧ Pv i σ H,⟨n,by simp,Nat.zero_le _,h0⟩,?_⟩
 rintro i m σ H ⟨rfl,hi,p⟩
 by_cases hlt : i < n
 ·refine .inr ⟨hlt,Pv (i + 1),fun σ' H' p' => ⟨n - (i + 1),by omega,rfl,hlt,p'⟩,fun x H' y => ?_⟩
  obtain ⟨e,y⟩:=y
  subst e y
  exact hs i σ _ hlt p
 ·have e : i = n:=by omega
  subst e
  exact .inl ⟨Nat.le_refl _,hd σ H p⟩
end
end L2
end
section
set_option maxHeartbeats 3998000
namespace L2
open PySem PySem.Spec PyProof.Rows
section
variable {κ : Type} [DecidableEq κ]
end
section
variable {P : Program} {w : World} {H : Hp} {h : Heap} {a : Addr}
end
section
variable {X : Cx} {pins : List (Addr × Obj)} {σ : St} {H : Hp} {s : Shared} {a : Addr} {y v : V} {u r : Value} {o : Option V} {A : Around} {E : Value → Shared → Prop}
end
section
variable {X : Cx} {pins : List (Addr × Obj)} {σ : St} {H : Hp} {s : Shared} {a : Addr} {kvs : List (Key × V)} {k : Key} {u : Value} {A : Around} {E : Value → Shared → Prop}
end
section
variable {X : Cx} {o i e value : Expr} {pos pos' tpos : Pos} {td ty tv : TE}
end
section
variable {X : Cx} {pos : Pos}
end
section
variable {X : Cx} {pins : List (Addr × Obj)} {σ : St} {H : Hp} {s : Shared} {a : Addr} {y d : V} {u r : Value} {o : Option V} {A : Around} {E : Value → Shared → Prop}
end
section
variable {X : Cx} {o e f : Expr} {apos cpos : Pos} {td ty tx : TE}
end
end L2
end
section
set_option maxHeartbeats 3998000
namespace L2
open PySem PySem.Spec PyProof.Rows
end L2
namespace PySem
open PyProof.Rows
section
variable {prog : Program} {w : World} {A : Around} {E : Value → Shared → Prop} {s : Shared}
end
end PySem
namespace L2
open PySem PySem.Spec PyProof.Rows
end L2
end
section
set_option maxHeartbeats 3997000
namespace L2
open PySem PySem.Spec PyProof.Rows
end L2
namespace My
open PySem L2 PyProof.Rows
section
variable {K : PySem.W.Frag}
end
end My
end
section
set_option maxHeartbeats 3995000
namespace Srt
open PySem PyProof.Rows
section
variable {prog : Program} {w : World} {A : Around} {E : Value → Shared → Prop} {s : Shared} {a₀ : Array Keyed} {κ : SortKind} {val : Keyed → Int}
end
end Srt
end
section
set_option maxHeartbeats 3995000
namespace Srt
open PySem PyProof.Rows
section
variable {prog : Program} {w : World} {A : Around} {E : Value → Shared → Prop} {s : Shared} {a₀ : Array Keyed} {κ : SortKind} {val : Keyed → Int}
end
end Srt
end
section
set_option maxHeartbeats 3995000
namespace Srt
open PySem PyProof.Rows
section
variable {val : Keyed → Int} {T o l l1 l2 r r1 r2 : List Keyed}
end
section
variable {val : Keyed → Int} {T : List Keyed} {a b out : Array Keyed} {ia ib : Nat}
end
end Srt
end
section
set_option maxHeartbeats 3995000
namespace Srt
open PySem PyProof.Rows
section
variable {prog : Program} {w : World} {A : Around} {E : Value → Shared → Prop} {s : Shared} {a₀ : Array Keyed} {κ : SortKind} {val : Keyed → Int}
end
end Srt
end
section
set_option maxHeartbeats 3995000
namespace Srt
open PySem PyProof.Rows
section
variable {val : Keyed → Int} {T o l l1 l2 r r1 r2 : List Keyed}
end
section
variable {val : Keyed → Int} {T : List Keyed} {a b out : Array Keyed} {na nb : Nat}
end
section
variable {prog : Program} {w : World} {A : Around} {E : Value → Shared → Prop} {s : Shared} {a₀ : Array Keyed} {κ : SortKind} {val : Keyed → Int}
end
end Srt
end
section
set_option maxHeartbeats 3995000
namespace Srt
open PySem PyProof.Rows
section
variable {prog : Program} {w : World} {A : Around} {E : Value → Shared → Prop} {s : Shared} {a₀ : Array Keyed} {κ : SortKind} {val : Keyed → Int}
end
end Srt
end
section
set_option maxHeartbeats 3995000
namespace Srt
open PySem PyProof.Rows
section
variable {val : Keyed → Int}
end
section
variable {prog : Program} {w : World} {A : Around} {E : Value → Shared → Prop} {s : Shared} {a₀ : Array Keyed} {κ : SortKind} {val : Keyed → Int}
end
end Srt
end
section
set_option maxHeartbeats 3995000
namespace Srt
open PySem PyProof.Rows
section
variable {prog : Program} {w : World} {A : Around} {E : Value → Shared → Prop} {s : Shared}
end
end Srt
end
section
set_option maxHeartbeats 3994000
namespace PySem
open PyProof.Rows
section
variable {prog : Program} {w : World} {A : Around} {E : Value → Shared → Prop} {s : Shared} {it d : Addr} {i ep : Nat} {es : Array DictEntry}
end
end PySem
end
section
set_option maxHeartbeats 3994000
namespace Srt
open PySem PyProof.Rows
section
variable {prog : Program} {w : World} {A : Around} {E : Value → Shared → Prop} {s : Shared} {κ : SortKind} {val : Keyed → Int}
end
end Srt
end
section
set_option maxHeartbeats 3996000
namespace L2
open PySem PySem.Spec PyProof.Rows PySem.Builtin.Str
end L2
end
section
set_option maxHeartbeats 3996000
namespace L2
open PySem PySem.Spec PyProof.Rows PySem.Builtin.Str
end L2
end
section
set_option maxHeartbeats 3994000
namespace L2
open PySem PySem.Spec PyProof.Rows Srt
section
variable {X : Cx} {pins : List (Addr × Obj)} {σ : St} {H : Hp} {s : Shared} {k : Nat} {B : Int} {ps : List (Addr × List Int)}
end
end L2
end
section
set_option maxHeartbeats 3999000
namespace L2
open PySem PySem.Spec PyProof.Rows
section
variable {X : Cx} {elt t1 i1 t2 i2 : Expr} {f1 f2 : List Expr} {scope : Scope} {pos : Pos} {N' : List Str} {ix : List (Option Nat)} {js1 js2 : List Nat} {g1 g2 : TG} {ts1 ts2 : TT} {te : TE} {wi1 wi2 : TI}
theorem zhd (hc : X.calm = true) (gs2 : GS js2 g2) (hi2 : ∀ s₃ H₃ ex pins,PI (zE X N' scope s₃ H₃ ex pins) t2 i2 wi2)
  (hg2 : ∀ s₃ H₃ ex pins,PG (zE X N' scope s₃ H₃ ex pins) t2 g2) (ht2 : ∀ s₃ H₃ ex pins,zcd (zE X N' scope s₃ H₃ ex pins) f2 ts2) (he : ∀ s₃ H₃ ex pins,PE (zE X N' scope s₃ H₃ ex pins) elt te)
  (hs2 : ∀ s₃ H₃ ex pins x,foldedSetIterable i2 (zE X N' scope s₃ H₃ ex pins).env x = pure x) :
  ∀ s₃ H₃ ex pins D,PM (zE X N' scope s₃ H₃ ex pins) D js2 ((fun D env => zel (.ListComp elt [⟨t1,i1,f1,0⟩,⟨t2,i2,f2,0⟩] scope pos) i2 1 (.ref D) env) D (zE X N' scope s₃ H₃ ex pins).env) (zfk wi2 g2 ts2 (zfj te)):=by
 intro s₃ H₃ ex pins D
 have h:=zg7 (Y:=zE X N' scope s₃ H₃ ex pins) (D:=D) (js:=js2) (js':=[]) (elt:=elt) (gens:=[⟨t1,i1,f1,0⟩,⟨t2,i2,f2,0⟩]) (scope:=scope) (pos:=pos) (d:=1) (p:=i2.pos) hc rfl gs2 (fun _ _ z => by cases z) (hi2 s₃ H₃ ex pins) (hg2 s₃ H₃ ex pins) (ht2 s₃ H₃ ex pins) (zfm rfl (he s₃ H₃ ex pins)) rfl (fun it => zg9 it D _) (hs2 s₃ H₃ ex pins)
 rw [List.append_nil] at h
 exact h
theorem zgl (SC : CompSc X N' ix scope) (hc : X.calm = true) (gs1 : GS js1 g1) (gs2 : GS js2 g2) (hdis : ∀ j ∈ js1,j ∉ js2) (hjs : ∀ j ∈ js1 ++ js2,ix[j]? = some none) (hi1 : PI X t1 i1 wi1)
  (hg1 : ∀ s₃ H₃ ex pins,PG (zE X N' scope s₃ H₃ ex pins) t1 g1) (ht1 : ∀ s₃ H₃ ex pins,zcd (zE X N' scope s₃ H₃ ex pins) f1 ts1) (hi2 : ∀ s₃ H₃ ex pins,PI (zE X N' scope s₃ H₃ ex pins) t2 i2 wi2)
  (hg2 : ∀ s₃ H₃ ex pins,PG (zE X N' scope s₃ H₃ ex pins) t2 g2) (ht2 : ∀ s₃ H₃ ex pins,zcd (zE X N' scope s₃ H₃ ex pins) f2 ts2) (he : ∀ s₃ H₃ ex pins,PE (zE X N' scope s₃ H₃ ex pins) elt te)
  (hs : ∀ x,foldedSetIterable i1 X.env x = pure x:=by intro _; rfl) (hs2 : ∀ s₃ H₃ ex pins x,foldedSetIterable i2 (zE X N' scope s₃ H₃ ex pins).env x = pure x:=by intros; rfl) :
  PE X (.ListComp elt [⟨t1,i1,f1,0⟩,⟨t2,i2,f2,0⟩] scope pos) (zfl ix wi1 g1 ts1 (zfk wi2 g2 ts2 (zfj te))) :=
 zda SC hc gs1 hdis hjs hi1 hg1 ht1 (zhd hc gs2 hi2 hg2 ht2 he hs2) (fun it D env => zg8 it D env) hs
end
theorem zgH {J : It} {n : Nat} {g : TG} {ts : TT} {tm : TM} {σ0 : St} {Q : List V → Hp → Prop} {ys : List V} {H : Hp} (Pv : Nat → List V → Hp → Prop) (h0 : Pv 0 ys H) (hgo : ∀ i ys H,i < n → Pv i ys H → J.go i H) (hst : ∀ ys H,Pv n ys H → J.stop n H)
  (hs : ∀ i x ys H H',i < n → Pv i ys H → J.yld i H x H' → g x σ0 H' fun σ2 H2 => ts σ2 H2 fun b H3 => if b = true then tm ys σ2 H3 (Pv (i + 1)) else Pv (i + 1) ys H3)
  (hd : ∀ ys H,Pv n ys H → Q ys H) : cIn g ts tm σ0 J Q ys H:=by
 refine ⟨fun i m ys H => m = n - i ∧ i ≤ n ∧ Pv i ys H,⟨n,by simp,Nat.zero_le _,h0⟩,?_⟩
 rintro i m ys H ⟨rfl,hi,p⟩
 by_cases hlt : i < n
 ·exact .inr ⟨hgo i ys H hlt p,Pv (i + 1),fun ys' H' p' => ⟨n - (i + 1),by omega,rfl,hlt,p'⟩,fun x H' y => hs i x ys H H' hlt p y⟩
 ·have e : i = n:=by omega
  subst e
  exact .inl ⟨hst ys H p,hd ys H p⟩
end L2
end
section
set_option maxHeartbeats 3999000
namespace L2
open PySem PySem.Spec PyProof.Rows
section
variable {X : Cx} {x : Str} {S : Addr} {body suite : List Stmt} {b₀ : Stmt} {tb : XK → TS} {th : TS} {np hpos pos : Pos}
end
end L2
end
section
namespace L2
open PySem PySem.Spec PyProof.Rows
def zhe (sc : Scope) (x : Str) : Bool:=match sc.names.lookup x with
 | some .local => true
 | some .cell => true
 | some .free => true
 | _ => false
theorem zgm {sc : Scope} {x : Str} (h : zhe sc x = true) : Vis sc x:=by
 unfold zhe at h
 unfold Vis
 cases e : sc.names.lookup x with
 | none => rw [e] at h; cases h
 | some k => cases k <;> simp_all
def pvB (N : List Str) (sc : Scope) (i : Nat) (x : Str) : Bool:=decide (N[i]? = some x) && zhe sc x && !(x == ("__debug__" : Str)) && !(x == ("__classdict__" : Str))
theorem pvx {X : Cx} (i : Nat) {x : Str} {pos : Pos} (h : pvB X.N X.env.scope i x = true) : PE X (.Name x pos) (zho i):=by
 unfold pvB at h
 simp only [Bool.and_eq_true,Bool.not_eq_true',decide_eq_true_eq] at h
 exact zgR h.1.1.1 (zgm h.1.1.2) h.1.2 h.2
end L2
end
section
set_option maxHeartbeats 3999000
namespace My
open PySem L2 PyProof.Rows
theorem Paired.get {α β : Type} {F : α → β → Prop} : ∀ {l₁ : List α} {l₂ : List β},Paired F l₁ l₂ → ∀ {i : Nat} {a : α},l₁[i]? = some a → ∃ b,l₂[i]? = some b ∧ F a b
 | _,_,.nil,i,a,h => by simp at h
 | _,_,.cons r t,0,a,h => by
  (simp only [List.getElem?_cons_zero,Option.some.injEq] at h)
  subst h
  exact ⟨_,rfl,r⟩
 | _,_,.cons r t,i + 1,a,h => by
  rw [List.getElem?_cons_succ] at h
  obtain ⟨b,hb,f⟩:=Paired.get t h
  exact ⟨b,by rw [List.getElem?_cons_succ]; exact hb,f⟩
end My
end
section
set_option maxHeartbeats 3999000
namespace My
open PySem L2 PyProof.Rows
end My
end
section
set_option maxHeartbeats 3999000
namespace My
open PySem L2 PyProof.Rows
def sm : Nat → (Nat → Int) → Int
 | 0,_ => 0
 | n + 1,f => sm n f + f n
theorem z4 {f g : Nat → Int} : ∀ {n : Nat},(∀ i,i < n → f i = g i) → sm n f = sm n g
 | 0,_ => rfl
 | n + 1,h => by
  show sm n f + f n = sm n g + g n
  rw [z4 (n:=n) fun i hi => h i (by omega),h n (by omega)]
theorem zfx {p : Int} {f g : Nat → Int} : ∀ {n : Nat},(∀ i,i < n → Cg p (f i) (g i)) → Cg p (sm n f) (sm n g)
 | 0,_ => Cg.refl _ _
 | n + 1,h => (zfx (n:=n) fun i hi => h i (by omega)).add (h n (by omega))
theorem zdS {f g : Nat → Int} : ∀ n : Nat,sm n (fun i => f i + g i) = sm n f + sm n g
 | 0 => rfl
 | n + 1 => by
  show sm n (fun i => f i + g i) + (f n + g n) = sm n f + f n + (sm n g + g n)
  rw [zdS n]
  omega
theorem zaD {c : Int} {f : Nat → Int} : ∀ n : Nat,sm n (fun i => c * f i) = c * sm n f
 | 0 => by show (0 : Int) = c * 0; omega
 | n + 1 => by
  show sm n (fun i => c * f i) + c * f n = c * (sm n f + f n)
  rw [zaD n,Int.mul_add]
theorem zaS {f : Nat → Int} : ∀ {n : Nat},(∀ i,i < n → f i = 0) → sm n f = 0
 | 0,_ => rfl
 | n + 1,h => by
  show sm n f + f n = 0
  rw [zaS (n:=n) fun i hi => h i (by omega),h n (by omega)]
  rfl
theorem zbw {f : Nat → Int} : ∀ n : Nat,sm (n + 1) f = f 0 + sm n (fun i => f (i + 1))
 | 0 => by show (0 : Int) + f 0 = f 0 + 0; omega
 | n + 1 => by
  show sm (n + 1) f + f (n + 1) = f 0 + (sm n (fun i => f (i + 1)) + f (n + 1))
  rw [zbw n]
  omega
theorem zbS {f : Nat → Nat → Int} (m : Nat) : ∀ n : Nat,sm n (fun i => sm m (fun j => f i j)) = sm m (fun j => sm n fun i => f i j)
 | 0 => (zaS fun _ _ => rfl).symm
 | n + 1 => by
  show sm n (fun i => sm m (fun j => f i j)) + sm m (fun j => f n j) = sm m (fun j => sm n (fun i => f i j) + f n j)
  rw [zbS m n,← zdS]
theorem zcQ {f : Nat → Int} {m : Nat} : ∀ {n : Nat},m ≤ n → (∀ i,m ≤ i → i < n → f i = 0) → sm n f = sm m f
 | 0,h,_ => by rw [show m = 0 by omega]
 | n + 1,h,hz => by
  by_cases e : m = n + 1
  ·rw [e]
  ·show sm n f + f n = _
   rw [zcQ (n:=n) (by omega) fun i h1 h2 => hz i h1 (by omega),hz n (by omega) (by omega)]
   omega
def gl (w : List Int) (y : Nat) : Int:=w.getD y 0
theorem zbp {w : List Int} {y : Nat} {c : Int} (h : w[y]? = some c) : gl w y = c:=by
 unfold gl
 rw [List.getD_eq_getElem?_getD,h]
 rfl
theorem zfy {w : List Int} {y : Nat} (h : w.length ≤ y) : gl w y = 0:=by
 unfold gl
 rw [List.getD_eq_getElem?_getD,List.getElem?_eq_none h]
 rfl
theorem zeq {p x : Int} : ∀ q : List Int,Cg p (zah p x q) (sm q.length fun i => gl q i * x ^ i)
 | [] => Cg.refl _ _
 | c :: q => by
  refine (zcv p x c q).trans ?_
  rw [List.length_cons,zbw]
  have e : sm q.length (fun i => gl (c :: q) (i + 1) * x ^ (i + 1)) = x * sm q.length (fun i => gl q i * x ^ i):=by
   rw [← zaD]
   refine z4 fun i _ => ?_
   show gl q i * x ^ (i + 1) = _
   rw [Int.pow_succ]
   grind
  rw [e]
  refine Cg.add (Cg.of_eq ?_) ((Cg.refl p x).mul (zeq q))
  show c = c * x ^ 0
  rw [Int.pow_zero,Int.mul_one]
theorem zdi {p x : Int} {q : List Int} {n : Nat} (h : q.length ≤ n) : Cg p (zah p x q) (sm n fun i => gl q i * x ^ i):=by
 rw [zcQ h fun i h1 _ => by rw [zfy h1,Int.zero_mul]]
 exact zeq q
end My
end
section
set_option maxHeartbeats 3999000
namespace My
open PySem L2 PyProof.Rows
def PtB (H : Hp) : List Addr → List (Int × Int) → Prop:=Paired fun b q => H b = some (.tup [.int q.1,.int q.2])
theorem PtB.same {H H' : Hp} (s : zx H H') {bs : List Addr} {pts : List (Int × Int)} (h : PtB H bs pts) : PtB H' bs pts:=Paired.mono (fun _ _ z => s _ _ z) h
def zae (H : Hp) : List Addr → List (List Int) → Prop:=Paired fun r q => H r = some (.tup (q.map V.int))
theorem zae.same {H H' : Hp} (s : zx H H') {rs : List Addr} {qs : List (List Int)} (h : zae H rs qs) : zae H' rs qs:=Paired.mono (fun _ _ z => s _ _ z) h
end My
end
section
set_option maxHeartbeats 3999000
namespace My
open PySem L2 PyProof.Rows
end My
end
section
set_option maxHeartbeats 3999000
namespace L2
open PySem PySem.Spec PyProof.Rows
end L2
end
section
set_option maxHeartbeats 3999000
namespace My
open PySem L2 PyProof.Rows
theorem zhf {X : Cx} {st : Stmt} {ts : TS} (h : PS X st ts) : PS X st (fun D σ H => ∃ Pv : L2.St → Hp → Prop,ts { D with nx:=Pv } σ H ∧ ∀ σ' H',Pv σ' H' → D.nx σ' H'):=by
 intro pins s σ H D I hq
 obtain ⟨Pv,h1,h2⟩:=hq
 refine thn (h pins s σ H _ I h1) fun f s1 q => ?_
 cases f with
 | next =>
  obtain ⟨σ',H',I',p⟩:=q
  exact ⟨σ',H',I',h2 _ _ p⟩
 | ret v => exact q
 | brk => exact q
 | cont => exact q
end My
end
section
set_option maxHeartbeats 3999000
namespace L2
open PySem PySem.Spec PyProof.Rows
theorem zbF : fillsNumberSlot (.type "tuple") "mul" = pure false :=
 PySem.fillsNumberSlot_seq (id:="tuple.__mul__") (r:=some (.builtin "tuple.__rmul__")) PySem.F.slot_tuple_mul.lookup (by decide +kernel) PySem.F.slot_tuple_rmul.lookup (by decide +kernel)
theorem zcR : seqRepeat? (.type "tuple") = pure (some (.builtin "tuple.__mul__")):=by
 unfold seqRepeat?
 rw [PySem.seqSlot_of (T:="tuple") (name:="__mul__") (id:="tuple.__mul__") PySem.F.slot_tuple_mul.lookup (by decide +kernel),PySem.seqSlot_of (T:="tuple") (name:="__rmul__") (id:="tuple.__rmul__") PySem.F.slot_tuple_rmul.lookup (by decide +kernel)]
 rfl
theorem zb6 (a : Int) (t : Tok) (l : Addr) (items : Array Value) (n : Nat) (dd : Option Addr) (sl : Array (Option Value)) :
  Meets (Builtin.«int.__rmul__» ⟨[.int a t,.ref l],[]⟩) (fun _ R s => s.heap.get? l = some { cls:=.type "tuple",dict:=dd,data:=.seq items n,slots:=sl } ∧ R (.ok (.ret Value.notImplemented)) s) :=
 .of_wp fun prog w A R s h => by (obtain ⟨hp,g,d,tk,os⟩:=s; obtain ⟨hl,h⟩:=h; wp_walk using wpAny_loadPart' hl; exact ⟨_,rfl,h⟩)
theorem zfz (l : Addr) (items : Array Value) (n : Nat) (dd : Option Addr) (sl : Array (Option Value)) (u : Tok) :
  Meets (Builtin.«tuple.__mul__» ⟨[.ref l,.int 1 u],[]⟩) (fun _ R s => s.heap.get? l = some { cls:=.type "tuple",dict:=dd,data:=.seq items n,slots:=sl } ∧ R (.ok (.ret (.ref l))) s) :=
 .of_wp fun prog w A R s h => by
  (obtain ⟨hp,g,d,tk,os⟩:=s)
  obtain ⟨hl,h⟩:=h
  have f1:=AutoSeq1.idx_int
  have f2:=AutoSeq1.sub_tuple_tuple
  wp_walk using wpAny_loadPart' hl; exact ⟨_,rfl,h⟩
theorem zfA (l : Addr) (items : Array Value) (n : Nat) (dd : Option Addr) (sl : Array (Option Value)) (k : Int) (u : Tok) (hc0 : (decide (k < -(2 ^ 63)) || decide (k ≥ 2 ^ 63)) = false) (hc1 : (items.isEmpty || k == 1) = false) (hc2 : (decide (k ≤ 0) || items.isEmpty) = true) :
  Meets (Builtin.«tuple.__mul__» ⟨[.ref l,.int k u],[]⟩) (fun _ R s => s.heap.get? l = some { cls:=.type "tuple",dict:=dd,data:=.seq items n,slots:=sl } ∧ R (.ok (.ret (Value.ref s.heap.objs.size))) { s with heap:=s.heap.push { cls:=Value.type "tuple",data:=Data.seq #[] },toks:=s.toks }) :=
 .of_wp fun prog w A R s h => by
  (obtain ⟨hp,g,d,tk,os⟩:=s)
  obtain ⟨hl,h⟩:=h
  have f1:=AutoSeq1.idx_int
  have f2:=AutoSeq1.sub_tuple_tuple
  wp_walk using wpAny_loadPart' hl; refine wpAny_ite_false (by rw [hc0]; rfl) ?_
  wp_walk using wpAny_loadPart' hl; exact ⟨_,rfl,h⟩
theorem zfB (l : Addr) (items : Array Value) (n : Nat) (dd : Option Addr) (sl : Array (Option Value)) (k : Int) (u : Tok) (hc0 : (decide (k < -(2 ^ 63)) || decide (k ≥ 2 ^ 63)) = false) (hc1 : (items.isEmpty || k == 1) = false) (hc2 : (decide (k ≤ 0) || items.isEmpty) = false)
  (hc3 : ¬(items.size : Int) * k > (2 ^ 63 - 1) / 8) (hc4 : Builtin.Tuple.tupleTooMany (items.size * k) = false) (hsz : (List.foldl (fun x1 x2 => x1 ++ x2) #[] (List.replicate k.toNat items)).size ≤ sizeLine) :
  Meets (Builtin.«tuple.__mul__» ⟨[.ref l,.int k u],[]⟩) (fun _ R s => s.heap.get? l = some { cls:=.type "tuple",dict:=dd,data:=.seq items n,slots:=sl } ∧ R (.ok (.ret (Value.ref s.heap.objs.size))) { s with heap:=s.heap.push { cls:=Value.type "tuple",data:=Data.seq (List.foldl (fun x1 x2 => x1 ++ x2) #[] (List.replicate k.toNat items)) },toks:=s.toks }) :=
 .of_wp fun prog w A R s h => by
  (obtain ⟨hp,g,d,tk,os⟩:=s)
  obtain ⟨hl,h⟩:=h
  have f1:=AutoSeq1.idx_int
  have f2:=AutoSeq1.sub_tuple_tuple
  wp_walk using wpAny_loadPart' hl; refine wpAny_ite_false (by rw [hc0]; rfl) ?_
  wp_walk using wpAny_loadPart' hl; refine wpAny_ite_false (decide_eq_false hc3) ?_
  wp_walk using wpAny_loadPart' hl; exact ⟨_,rfl,h⟩
def zhN (K : PySem.W.Frag) : R2:=fun x y H Q => ∃ a k xs,x = .ref a ∧ y = .int k ∧ SqT K H a xs ∧ xs ≠ [] ∧ -(2 ^ 63) ≤ k ∧ k < 2 ^ 63 ∧ xs.length * k.toNat ≤ sizeLine ∧
 (k = 1 → Q (.ref a) H) ∧ (k ≠ 1 → ∀ p,H p = none → Q (.ref p) (upd H p (.tup (List.replicate k.toNat xs).flatten)))
theorem zgn {X : Cx} : OpR X (binaryOp .Mult) (zhN X.K):=by
 intro pins s σ H x y v u Q I rx ry h
 obtain ⟨a,k,xs,rfl,rfl,hx,hne,h1,h2,hz,q,q2⟩:=h
 cases rx
 obtain ⟨t,rfl⟩:=ry
 obtain ⟨its,r,p1,_⟩:=I.tuple hx
 obtain ⟨⟨cls,dd,data,sl⟩,ho,hc,n,hd⟩:=id p1
 simp only at hc hd
 subst hc hd
 have hl : xs.length = its.length:=r.length
 have hne' : its ≠ []:=fun e => hne (r.nil_iff.mp e)
 have he : its.toArray.isEmpty = false:=by simpa using hne'
 have hc0 : (decide (k < -(2 ^ 63)) || decide (k ≥ 2 ^ 63)) = false:=by
  rw [decide_eq_false (by omega),decide_eq_false (by omega)]; rfl
 refine wpAny_binaryOp_repeat_ref (T:="tuple") (U:="int") (by decide) ⟨_,ho,rfl⟩ (fun s' => typeIs_int s' k t) zbF F.fills_int_mul F.slot_int_rmul zcR F.slot_int_index.lookup
  (call_meets F.slot_int_rmul (typeIs_int s k t) F.entry_int_rmul (F.args_int_rmul_2 _ _) (zb6 k t a its.toArray n dd sl) ⟨ho,rfl,⟨_,ho,rfl⟩,?_⟩)
 by_cases e1 : k = 1
 ·subst e1
  refine call_meets F.slot_tuple_mul ⟨_,ho,rfl⟩ F.entry_tuple_mul (F.args_tuple_mul_2 _ _) (zfz a its.toArray n dd sl t) ⟨ho,?_⟩
  exact ⟨.ref a,H,I,rfl,q rfl⟩
 have hc1 : (its.toArray.isEmpty || k == 1) = false:=by rw [he]; simpa using e1
 by_cases e0 : k ≤ 0
 ·refine call_meets F.slot_tuple_mul ⟨_,ho,rfl⟩ F.entry_tuple_mul (F.args_tuple_mul_2 _ _) (zfA a its.toArray n dd sl k t hc0 hc1 (by rw [decide_eq_true e0]; rfl)) ⟨ho,?_⟩
  have hf:=I.hok.fresh (Nat.le_refl _)
  have e : (List.replicate k.toNat xs).flatten = []:=by rw [show k.toNat = 0 by omega]; rfl
  refine ⟨.ref s.heap.objs.size,_,I.laid (t':=s.toks) (o:=.tup []) (fun b ob q => Heap.get?_push_of_some _ q) (Nat.le_refl _) ?_,rfl,by rw [← e]; exact q2 e1 _ hf⟩
  exact ⟨Nat.zero_le _,[],.nil,IsTup.new _ _⟩
 ·have hm : (its.toArray.size : Int) * k = ((xs.length * k.toNat : Nat) : Int):=by
   rw [List.size_toArray,← hl,Int.natCast_mul,Int.toNat_of_nonneg (by omega)]
  have hsl : (sizeLine : Nat) ≤ 16777216:=by decide
  have hnew : List.foldl (fun x1 x2 => x1 ++ x2) #[] (List.replicate k.toNat its.toArray) = (List.replicate k.toNat its).flatten.toArray:=by
   have:=foldl_rep its k.toNat []
   rw [List.nil_append] at this
   exact this
  refine call_meets F.slot_tuple_mul ⟨_,ho,rfl⟩ F.entry_tuple_mul (F.args_tuple_mul_2 _ _) (zfB a its.toArray n dd sl k t hc0 hc1 (by rw [decide_eq_false e0,he]; rfl) (by rw [hm]; omega) (by rw [hm]; unfold Builtin.Tuple.tupleTooMany; exact decide_eq_false (by omega)) (by rw [hnew,List.size_toArray,len_rep,Nat.mul_comm,← hl]; exact hz)) ⟨ho,?_⟩
  have hf:=I.hok.fresh (Nat.le_refl _)
  rw [hnew]
  refine ⟨.ref s.heap.objs.size,_,I.laid (t':=s.toks) (o:=.tup (List.replicate k.toNat xs).flatten) (fun b ob q => Heap.get?_push_of_some _ q) (Nat.le_refl _) ?_,rfl,q2 e1 _ hf⟩
  exact ⟨by rw [len_rep,Nat.mul_comm]; exact hz,_,r.rep k.toNat,IsTup.new _ _⟩
theorem zgo {X : Cx} {K : PySem.W.Frag} {tg l : Expr} {tl : TE} (hK : X.K = K) (hl : PE X l tl) : PI X tg l (zhv K tl):=by subst hK; exact zbC hl
end L2
end
section
set_option maxHeartbeats 3999000
namespace HT
open PySem PySem.Spec PyProof.Rows
section
variable {prog : Program} {w : World} {A : Around} {E : Value → Shared → Prop} {s : Shared}
end
end HT
namespace L2
open PySem PySem.Spec PyProof.Rows
theorem zfC {X : Cx} {K : PySem.W.Frag} {tg l : Expr} {tl : TE} (hK : X.K = K) (hl : PE X l tl) : PI X tg l (zgB K tl):=by subst hK; exact zax hl
def zhO : R2:=fun x y H Q => ∃ a k xs,x = .ref a ∧ y = .int k ∧ H a = some (.tup xs) ∧ xs ≠ [] ∧ -(2 ^ 63) ≤ k ∧ k < 2 ^ 63 ∧ xs.length * k.toNat ≤ sizeLine ∧ ∀ p H',zx H H' → H' p = some (.tup (List.replicate k.toNat xs).flatten) → Q (.ref p) H'
theorem zgp {X : Cx} : OpR X (binaryOp .Mult) zhO:=by
 intro pins s σ H x y v u Q I rx ry h
 obtain ⟨a,k,xs,rfl,rfl,hx,hne,h1,h2,hz,q⟩:=h
 refine zgn pins s σ H _ _ v u Q I rx ry ⟨a,k,xs,rfl,rfl,SqT.of hx,hne,h1,h2,hz,fun e => q a H (fun _ _ e => e) (by rw [e]; simpa using hx),fun _ p hp => q p _ (fun b o z => by rw [zk (fun e => by rw [e,hp] at z; cases z)]; exact z) zc⟩
end L2
end
section
set_option maxHeartbeats 3999000
namespace My
open PySem L2 PyProof.Rows
def LsA (H : Hp) : List Addr → List (List Int) → Prop:=Paired fun b v => H b = some (.lst (v.map V.int))
theorem LsA.same {H H' : Hp} (s : zx H H') {bs : List Addr} {vv : List (List Int)} (h : LsA H bs vv) : LsA H' bs vv:=Paired.mono (fun _ _ z => s _ _ z) h
end My
end
section
set_option maxHeartbeats 3996000
namespace L2
open PySem PySem.Spec PyProof.Rows
theorem zaH {X : Cx} (hc : X.calm = true) : zar X (.builtin "max") (fun xs H Q => ∃ (p : Addr) (ns : List Int),xs = [.ref p] ∧ SqL X.K H p (ns.map V.int) ∧ ns ≠ [] ∧ ∀ M : Int,M ∈ ns → (∀ a ∈ ns,a ≤ M) → Q (.int M) H):=by
 intro pins s σ H xs us Q I r h
 obtain ⟨p,ns,rfl,hq,hn,q⟩:=h
 obtain ⟨u,rfl,rx⟩:=vals1 r
 cases rx
 obtain ⟨its,rv,pl,hz⟩:=I.list hq
 have hi : IntsAre its ns:=by simpa using intsAre_of rv
 (obtain ⟨xs,e⟩:=hi.allInts.items)
 have hns : ns = xs.toList.map (·.1):=by rw [← hi.numsOf,← nums_intItems,← e]
 have hsz : 0 < xs.size:=by
  have h3:=List.length_pos_iff.mpr hn
  rw [hns,List.length_map,Array.length_toList] at h3
  exact h3
 have hl:=pl.isList
 rw [e] at hl
 refine max_intList (I.ok.hd hc) hl hsz fun v h' tk hv hk => ?_
 (obtain ⟨t,rfl⟩:=intItems_at hv)
 (obtain ⟨h1,h2⟩:=argBest_gt (numAt xs) (xs.size - 1))
 refine ⟨.int _,H,I.kept hk,⟨_,rfl⟩,q _ ?_ fun a ha => ?_⟩
 ·(rw [hns,numAt_eq]; exact getD_mem (by rw [List.length_map,Array.length_toList]; omega))
 ·rw [hns] at ha
  (obtain ⟨j,hj,rfl⟩:=mem_getD ha)
  (rw [List.length_map,Array.length_toList] at hj)
  (rw [← numAt_eq]; exact h2 j (by omega))
end L2
end
section
set_option maxHeartbeats 3995000
namespace PySem
open PyProof.Rows
section
variable {prog : Program} {w : World} {A : Around} {E : Value → Shared → Prop} {s : Shared}
theorem zb7 {id : String} {b : Builtin} {args : List Value} {kw : List (Str × Value)} {Q : Value → Shared → Prop} (hk : builtinKind id = none) (hp : plainId id = true) (hb : entryFor table id = some b) (ha : argsOk id ⟨args,kw⟩)
  (hc : wpAny (model prog w) A.in1 (b ⟨args,kw⟩) (fun fin s' => match fin with
   | .done fl => (match (Except.ok fl : Result) with | .ok (.ret v) => Q v s' | .ok _ => False | .error e => E e s')
   | .again c' => c'.quiet = true ∧ codeAny (model prog w) A c' (fun r s' => match r with | .ok (.ret v) => Q v s' | .ok _ => False | .error e => E e s') s') E s) : wpAny (model prog w) A (call (.builtin id) args kw) Q E s:=by
 refine (wpAny_call (codeAny_call_builtin hp hb ?_))
 (simp only [checkBuiltinCall,hk])
 cases hs : Manifest.signature? id with
 | none => exact (wpAny_pure hc)
 | some sg =>
  have a2 : Bind.checkArgs id sg ⟨args,kw⟩ = pure ():=by simpa only [argsOk,hs] using ha
  simp only [a2]
  exact (wpAny_pure hc)
def Mm (nm lp : String) (op : CmpOp) : Prop:=(nm = "max" ∧ lp = "max.loop" ∧ op = .Gt) ∨ (nm = "min" ∧ lp = "min.loop" ∧ op = .Lt)
theorem zfD {nm lp : String} {op : CmpOp} (hb : Mm nm lp op) (x d : Value) : argsOk nm ⟨[x],[(Str.ofString "default",d)]⟩:=by rcases hb with ⟨rfl,_,_⟩ | ⟨rfl,_,_⟩ <;> (unfold argsOk; kernel_rfl)
theorem zgq {nm lp : String} {op : CmpOp} {R : Result → Shared → Prop} {I : Addr} {fp wr : List Addr} {n : Nat} {P : Nat → Value → Prop} {St : Nat → Heap → Prop} {kw : List (Str × Value)} (hb : Mm nm lp op) (W : Walks prog w A.in1 I fp wr n P St) (bt : Nat → Nat → Bool) (hcmp : CmpOf prog w A.in1 op P bt) (S : Addr) (hSf : S ∉ fp) :
  ∀ (k j : Nat) (s : Shared) (vb : Value) (c : Nat),n - (j + 1) = k → j + 1 ≤ n → St (j + 1) s.heap → P (argBest bt j) vb → s.heap.get? S = some { cls:=.type "list",dict:=none,data:=.seq #[vb,vb] c,slots:=#[] } → (∀ v h' tk,P (argBest bt (n - 1)) v → (∀ b o,b ∉ wr → b ≠ S → s.heap.get? b = some o → h'.get? b = some o) → R (.ok (.ret v)) { s with heap:=h',toks:=tk }) → codeAny (model prog w) A (.builtin lp ⟨[.ref I,.none,.ref S],kw⟩) R s:=by
 have hw : S ∉ wr:=fun h => hSf (W.sub _ h)
 have e1 : (toString "max" ++ toString ".loop" : String) = "max.loop":=by decide
 have e2 : (toString "min" ++ toString ".loop" : String) = "min.loop":=by decide
 intro k
 induction k with
 | zero =>
  (intro j s vb c hk hj hst hPb hS hR)
  obtain rfl : j + 1 = n:=by omega
  rcases hb with ⟨rfl,rfl,rfl⟩ | ⟨rfl,rfl,rfl⟩
  case' inl => (have en:=F.entry_max_loop; have pl:=F.plain_max_loop; have ee:=e1)
  case' inr => (have en:=F.entry_min_loop; have pl:=F.plain_min_loop; have ee:=e2)
  all_goals
   (refine codeAny_builtin en ?_
    rw [Around.under_plainId pl _]
    show wpAny _ A.in1 (seqItems? (Value.ref S) >>= _) _ _ s; refine (wpAny_bind (wpAny_seqItems hS rfl ?_))
    show wpAny _ A.in1 (tryCatch (pyNext (Value.ref I)) _ >>= _) _ _ s; refine (wpAny_bind (wpAny_tryCatch (W.done s _ _ hst fun h' tk q => ?_)))
    show wpAny _ A.in1 (updateSeq S (fun _ => (#[] : Array Value)) >>= _) _ _ _; refine (wpAny_bind (wpAny_updateSeq (q S _ hw hS) rfl (wpAny_bind (wpAny_letGo (wpAny_pure ?_)))))
    exact (hR vb _ tk hPb fun b o h1 h2 e => (Heap.get?_update_other _ _ (Ne.symm h2)).trans (q b o h1 e)))
 | succ k ih =>
  (intro j s vb c hk hj hst hPb hS hR)
  (have hlt : j + 1 < n:=by omega)
  rcases hb with ⟨rfl,rfl,rfl⟩ | ⟨rfl,rfl,rfl⟩
  case' inl => (have en:=F.entry_max_loop; have pl:=F.plain_max_loop; have ee:=e1)
  case' inr => (have en:=F.entry_min_loop; have pl:=F.plain_min_loop; have ee:=e2)
  all_goals
   (refine codeAny_builtin en ?_
    rw [Around.under_plainId pl _]
    show wpAny _ A.in1 (seqItems? (Value.ref S) >>= _) _ _ s; refine (wpAny_bind (wpAny_seqItems hS rfl ?_))
    show wpAny _ A.in1 (tryCatch (pyNext (Value.ref I)) _ >>= _) _ _ s; refine (wpAny_bind (wpAny_tryCatch (W.item (j + 1) s _ _ hlt hst fun v h' tk hP hst' q => ?_)))
    have hS':=q S _ hw hS
    first
     | show wpAny _ A.in1 (tryCatch (holding [v,v] (richCompare CmpOp.Gt v vb >>= _)) _ >>= _) _ _ _; refine (wpAny_bind (wpAny_tryCatch (wpAny_holding (wpAny_bind (hcmp (j + 1) (argBest bt j) v vb _ _ _ hP hPb ?_)))))
     | show wpAny _ A.in1 (tryCatch (holding [v,v] (richCompare CmpOp.Lt v vb >>= _)) _ >>= _) _ _ _; refine (wpAny_bind (wpAny_tryCatch (wpAny_holding (wpAny_bind (hcmp (j + 1) (argBest bt j) v vb _ _ _ hP hPb ?_)))))
    refine (wpAny_bind (wpAny_holding (wpAny_truthy_bool (wpAny_bind (wpAny_letGo (wpAny_pure ?_))))))
    cases eb : bt (j + 1) (argBest bt j)
    ·(simp only [Bool.false_eq_true,if_false])
     refine (wpAny_bind (wpAny_letGo ?_))
     rw [ee]
     refine (wpAny_pure ⟨plainId_quiet pl _,ih (j + 1) _ vb c (by omega) hlt hst' (by simp only [argBest,eb,Bool.false_eq_true,if_false]; exact hPb) hS' fun v' h2 tk2 p2 q2 => ?_⟩)
     exact (hR v' h2 tk2 p2 fun b o i1 i2 e => q2 b o i1 i2 (q b o i1 e))
    ·simp only [if_true]
     refine (wpAny_bind (wpAny_updateSeq hS' rfl (wpAny_bind (wpAny_letGo ?_))))
     rw [ee]
     refine (wpAny_pure ⟨plainId_quiet pl _,ih (j + 1) _ v _ (by omega) hlt (W.frame _ _ _ hst' fun b hbf o e => ?_) (by simp only [argBest,eb,if_true]; exact hP) (Heap.get?_update_self _ hS' rfl) fun v' h2 tk2 p2 q2 => ?_⟩)
     ·exact (Heap.get?_update_other _ _ (fun h : S = b => hSf (h ▸ hbf))).trans e
     ·exact (hR v' h2 tk2 p2 fun b o i1 i2 e => q2 b o i1 i2 ((Heap.get?_update_other _ _ (Ne.symm i2)).trans (q b o i1 e))))
theorem zfE {nm lp : String} {op : CmpOp} {R : Result → Shared → Prop} {I : Addr} {fp wr : List Addr} {n : Nat} {P : Nat → Value → Prop} {St : Nat → Heap → Prop} {ds : Str} {d : Value} (hb : Mm nm lp op) (W : Walks prog w A.in1 I fp wr n P St) (bt : Nat → Nat → Bool) (hcmp : CmpOf prog w A.in1 op P bt) (S : Addr) (hSf : S ∉ fp) {c : Nat} (hst : St 0 s.heap) (hS : s.heap.get? S = some { cls:=.type "list",dict:=none,data:=.seq #[] c,slots:=#[] })
  (hR : ∀ v h' tk,(0 < n → P (argBest bt (n - 1)) v) → (n = 0 → v = d) → (∀ b o,b ∉ wr → b ≠ S → s.heap.get? b = some o → h'.get? b = some o) → R (.ok (.ret v)) { s with heap:=h',toks:=tk }) :
  codeAny (model prog w) A (.builtin lp ⟨[.ref I,.none,.ref S],[(ds,d)]⟩) R s:=by
 have hw : S ∉ wr:=fun h => hSf (W.sub _ h)
 have e1 : (toString "max" ++ toString ".loop" : String) = "max.loop":=by decide
 have e2 : (toString "min" ++ toString ".loop" : String) = "min.loop":=by decide
 have L:=@zgq prog w A nm lp op R I fp wr n P St [(ds,d)] hb W bt hcmp S hSf
 rcases hb with ⟨rfl,rfl,rfl⟩ | ⟨rfl,rfl,rfl⟩
 case' inl => (have en:=F.entry_max_loop; have pl:=F.plain_max_loop; have ee:=e1)
 case' inr => (have en:=F.entry_min_loop; have pl:=F.plain_min_loop; have ee:=e2)
 all_goals
  (refine codeAny_builtin en ?_
   rw [Around.under_plainId pl _]
   show wpAny _ A.in1 (seqItems? (Value.ref S) >>= _) _ _ s; refine (wpAny_bind (wpAny_seqItems hS rfl ?_))
   rcases Nat.eq_zero_or_pos n with hn | hn
   ·show wpAny _ A.in1 (tryCatch (pyNext (Value.ref I)) _ >>= _) _ _ s; refine (wpAny_bind (wpAny_tryCatch (W.done s _ _ (hn ▸ hst) fun h' tk q => ?_)))
    show wpAny _ A.in1 (rule _ >>= fun _ => pure (Fin.done (Flow.ret d))) _ _ _
    (refine wpAny_bind (wpAny_rule (wpAny_pure ?_)))
    exact hR d h' tk (by omega) (fun _ => rfl) fun b o i1 _ e => q b o i1 e
   ·show wpAny _ A.in1 (tryCatch (pyNext (Value.ref I)) _ >>= _) _ _ s; refine (wpAny_bind (wpAny_tryCatch (W.item 0 s _ _ hn hst fun v h' tk hP hst' q => ?_)))
    show wpAny _ A.in1 (updateSeq S (fun _ => (#[v,v] : Array Value)) >>= _) _ _ _; refine (wpAny_bind (wpAny_updateSeq (q S _ hw hS) rfl ?_))
    rw [ee]
    refine (wpAny_pure ⟨plainId_quiet pl _,L _ 0 _ v _ rfl hn (W.frame _ _ _ hst' fun b hbf o e => ?_) hP (Heap.get?_update_self _ (q S _ hw hS) rfl) fun v' h2 tk2 p2 q2 => ?_⟩)
    ·exact (Heap.get?_update_other _ _ (fun h : S = b => hSf (h ▸ hbf))).trans e
    ·exact (hR v' h2 tk2 (fun _ => p2) (by omega) fun b o i1 i2 e => q2 b o i1 i2 ((Heap.get?_update_other _ _ (Ne.symm i2)).trans (q b o i1 e))))
theorem zfF {nm lp : String} {op : CmpOp} {x d : Value} {Q : Value → Shared → Prop} (hb : Mm nm lp op)
  (h : wpAny (model prog w) A.in1 (pyIter x) (fun it s₂ => ∃ I fp wr n P St bt,it = .ref I ∧ Walks prog w A.in1 I fp wr n P St ∧ St 0 s₂.heap ∧ (∀ b ∈ fp,b < s₂.heap.objs.size) ∧ CmpOf prog w A.in1 op P bt ∧
   ∀ v h' tk,(0 < n → P (argBest bt (n - 1)) v) → (n = 0 → v = d) → (∀ b o,b ∉ wr → s₂.heap.get? b = some o → h'.get? b = some o) → Q v { s₂ with heap:=h',toks:=tk }) E s) :
  wpAny (model prog w) A (call (.builtin nm) [x] [(Str.ofString "default",d)]) Q E s:=by
 have aa:=zfD hb x d
 have hb':=hb
 have e1 : (toString "max" ++ toString ".loop" : String) = "max.loop":=by decide
 have e2 : (toString "min" ++ toString ".loop" : String) = "min.loop":=by decide
 rcases hb with ⟨rfl,rfl,rfl⟩ | ⟨rfl,rfl,rfl⟩
 case' inl => (have en:=F.entry_max_loop; have pl:=F.plain_max_loop; have ee:=e1)
 case' inr => (have en:=F.entry_min_loop; have pl:=F.plain_min_loop; have ee:=e2)
 case' inl =>
  refine zb7 F.kind_max F.plain_max F.entry_max aa ?_
  show wpAny _ A.in1 (Builtin.Builtins.bindParams "max" ["key","default"] 0 ⟨[],[(Str.ofString "default",d)]⟩ >>= _) _ _ s
  refine wpAny_bind (wpAny_of_eq (show Builtin.Builtins.bindParams "max" ["key","default"] 0 ⟨[],[(Str.ofString "default",d)]⟩ = pure [none,some d] by kernel_rfl) ?_)
 case' inr =>
  refine zb7 F.kind_min F.plain_min F.entry_min aa ?_
  show wpAny _ A.in1 (Builtin.Builtins.bindParams "min" ["key","default"] 0 ⟨[],[(Str.ofString "default",d)]⟩ >>= _) _ _ s
  refine wpAny_bind (wpAny_of_eq (show Builtin.Builtins.bindParams "min" ["key","default"] 0 ⟨[],[(Str.ofString "default",d)]⟩ = pure [none,some d] by kernel_rfl) ?_)
 all_goals
  (refine (wpAny_bind (wpAny_pure (wpAny_bind (wpAny_mono h (fun it s₂ h2 => ?_) fun _ _ e => e))))
   obtain ⟨I,fp,wr,n,P,St,bt,rfl,W,hst,hfp,hc,q⟩:=h2
   refine (wpAny_bind (wpAny_newObj_type ?_))
   rw [ee]
   refine (wpAny_pure ⟨plainId_quiet pl _,zfE hb' W bt hc s₂.heap.objs.size (fun hm => Nat.lt_irrefl _ (hfp _ hm)) (W.frame _ _ _ hst fun b _ o e => Heap.get?_push_of_some _ e) (Heap.get?_push_size _ rfl) fun v h' tk p1 p2 hk => ?_⟩)
   exact (q v h' tk p1 p2 fun b o i1 e => hk b o i1 (Nat.ne_of_lt (Heap.lt_size e)) (Heap.get?_push_of_some _ e)))
end
end PySem
namespace L2
open PySem PySem.Spec PyProof.Rows
def zic (K : PySem.W.Frag) (gt : Bool) (d : Int) (td : TE) : TE:=fun σ H Q => td σ H fun x H1 => ∃ (p : Addr) (ns : List Int),x = .ref p ∧ SqL K H1 p (ns.map V.int) ∧
 ∀ M : Int,(ns = [] → M = d) → (ns ≠ [] → M ∈ ns ∧ ∀ a ∈ ns,if gt = true then a ≤ M else M ≤ a) → Q (.int M) H1
def mmN (gt : Bool) : String:=if gt = true then "max" else "min"
theorem zid (gt : Bool) : Mm (mmN gt) (if gt = true then "max.loop" else "min.loop") (if gt = true then .Gt else .Lt):=by cases gt <;> simp [Mm,mmN]
theorem zhP {prog : Program} {w : World} {A : Around} (gt : Bool) (xs : Array (Int × Tok)) : CmpOf prog w A (if gt = true then .Gt else .Lt) (fun i v => (intItems xs)[i]? = some v) (fun i j => if gt = true then decide (numAt xs i > numAt xs j) else decide (numAt xs i < numAt xs j)):=by
 cases gt
 ·exact CmpOf.ints_lt (numAt xs) (fun _ _ => intItems_at)
 ·exact CmpOf.ints_gt (numAt xs) (fun _ _ => intItems_at)
theorem zhg (gt : Bool) (f : Nat → Int) : ∀ n,argBest (fun i j => if gt = true then decide (f i > f j) else decide (f i < f j)) n ≤ n ∧ ∀ j,j ≤ n → if gt = true then f j ≤ f (argBest (fun i j => if gt = true then decide (f i > f j) else decide (f i < f j)) n) else f (argBest (fun i j => if gt = true then decide (f i > f j) else decide (f i < f j)) n) ≤ f j:=by
 cases gt
 ·exact fun n => argBest_lt f n
 ·exact fun n => argBest_gt f n
theorem zdT {X : Cx} (gt : Bool) {x : Str} {elt ev : Expr} {gs : List Comprehension} {sc : Scope} {cp : Pos} {d : Int} {td : TE} {p pos kp : Pos} (hc : X.calm = true) (hx : bootBuiltins x = some (.builtin (mmN gt))) (hg : Gl X x) (hm : X.mg x = none) (hv : PE X ev (tC (.int d))) (ho : PE X (.ListComp elt gs sc cp) td)
  (hn : x ≠ "__name__":=by decide) (hdb : (x == ("__debug__" : Str)) = false:=by decide) :
  PE X (.Call (.Name x p) [.ListComp elt gs sc cp] [⟨some "default",ev,kp⟩] pos) (zic X.K gt d td):=by
 intro pins s σ H Q I h
 refine wpAny_Call_Name_kw (zaN I hg hm hx ?_ hn hdb)
 refine callWith_kw ?_
 show wpAny _ _ (spliced ((false,eval (.ListComp elt gs sc cp) X.env) :: [])) _ _ s
 refine Calls.spliced_cons (thn (ho pins s σ H _ I h) fun v s1 ⟨y,H1,I1,r1,q⟩ => ?_)
 refine Calls.spliced_nil (kws_cons (thn (hv pins s1 σ H1 (fun z H2 => z = .int d ∧ H2 = H1) I1 ⟨rfl,rfl⟩) fun u s2 ⟨z,H2,I2,r2,e1,e2⟩ => kws_nil ?_))
 subst e1 e2
 obtain ⟨a,ns,rfl,hq,q⟩:=q
 cases r1
 obtain ⟨its,rv,pl,hz⟩:=I2.list hq
 have hi : IntsAre its ns:=by simpa using intsAre_of rv
 obtain ⟨xs,ex⟩:=hi.allInts.items
 have hns : ns = xs.toList.map (·.1):=by rw [← hi.numsOf,← nums_intItems,← ex]
 have hl:=pl.isList
 rw [ex] at hl
 show wpAny _ _ (call (.builtin (mmN gt)) [.ref a] [(Str.ofString "default",u)]) _ _ _
 refine zfF (zid gt) (iter_intList hl fun s₂ e st hfp hlI => ?_)
 subst e
 refine ⟨_,_,_,_,_,_,_,rfl,Walks.list (A:=X.A.in1) (I2.ok.hd hc) _ a hlI (intItems xs),st,hfp,zhP gt xs,fun v h' tk p1 p2 hk => ?_⟩
 (have hsz : (intItems xs).size = xs.size:=by simp [intItems])
 have hlen : ns.length = xs.size:=by rw [hns,List.length_map,Array.length_toList]
 have I3 : Inv X pins σ H2 { s2 with heap:=h',toks:=tk }:=I2.kept (old_kept hk)
 obtain ⟨t2,rfl⟩:=r2
 by_cases h0 : xs.size = 0
 ·obtain rfl:=p2 (by rw [hsz]; exact h0)
  refine ⟨.int d,H2,I3,⟨_,rfl⟩,q d (fun _ => rfl) fun hne => absurd (List.eq_nil_of_length_eq_zero (by omega)) hne⟩
 ·have hv':=p1 (by omega)
  rw [hsz] at hv'
  obtain ⟨t,rfl⟩:=intItems_at hv'
  obtain ⟨h1,h2⟩:=zhg gt (numAt xs) (xs.size - 1)
  refine ⟨.int _,H2,I3,⟨_,rfl⟩,q _ (fun h => by rw [h] at hlen; simp at hlen; omega) fun _ => ⟨?_,fun b hb => ?_⟩⟩
  ·(rw [hns,numAt_eq]; exact getD_mem (by rw [List.length_map,Array.length_toList]; omega))
  ·rw [hns] at hb
   obtain ⟨j,hj,rfl⟩:=mem_getD hb
   (rw [List.length_map,Array.length_toList] at hj)
   (rw [← numAt_eq]; exact h2 j (by omega))
theorem zeP {X : Cx} (hc : X.calm = true) : zar X (.builtin "min") (fun xs H Q => ∃ (p : Addr) (ns : List Int),xs = [.ref p] ∧ SqL X.K H p (ns.map V.int) ∧ ns ≠ [] ∧ ∀ M : Int,M ∈ ns → (∀ a ∈ ns,M ≤ a) → Q (.int M) H):=by
 intro pins s σ H xs us Q I r h
 obtain ⟨p,ns,rfl,hq,hn,q⟩:=h
 obtain ⟨u,rfl,rx⟩:=vals1 r
 cases rx
 obtain ⟨its,rv,pl,hz⟩:=I.list hq
 have hi : IntsAre its ns:=by simpa using intsAre_of rv
 (obtain ⟨xs,e⟩:=hi.allInts.items)
 have hns : ns = xs.toList.map (·.1):=by rw [← hi.numsOf,← nums_intItems,← e]
 have hsz : 0 < xs.size:=by
  have h3:=List.length_pos_iff.mpr hn
  rw [hns,List.length_map,Array.length_toList] at h3
  exact h3
 have hl:=pl.isList
 rw [e] at hl
 refine min_intList (I.ok.hd hc) hl hsz fun v h' tk hv hk => ?_
 (obtain ⟨t,rfl⟩:=intItems_at hv)
 (obtain ⟨h1,h2⟩:=argBest_lt (numAt xs) (xs.size - 1))
 refine ⟨.int _,H,I.kept hk,⟨_,rfl⟩,q _ ?_ fun a ha => ?_⟩
 ·(rw [hns,numAt_eq]; exact getD_mem (by rw [List.length_map,Array.length_toList]; omega))
 ·rw [hns] at ha
  (obtain ⟨j,hj,rfl⟩:=mem_getD ha)
  (rw [List.length_map,Array.length_toList] at hj)
  (rw [← numAt_eq]; exact h2 j (by omega))
end L2
end
section
set_option maxHeartbeats 3994000
namespace PySem
open PyProof.Rows
theorem zbR : isSubtype (.type "range_iterator") (.type "reversed") = pure false:=by rw [isSubtype_type]; kernel_rfl
abbrev zdj (a b : Int) : Obj:={ cls:=.type "range_iterator",data:=.fields #[rawInt (a + (Builtin.Range.rangeSize a b 1 - 1) * 1),rawInt (Builtin.Range.rangeSize a b 1),rawInt (-1)] }
theorem zfG (r : Addr) (a b : Int) (t u v : Tok) (hs : (Builtin.Range.rangeFitsLong a && Builtin.Range.rangeFitsLong b && Builtin.Range.rangeFitsLong 1 && Builtin.Range.rangeFitsLong (-1) && Builtin.Range.rangeFitsLong (a - 1) && Builtin.Range.rangeFitsLong (Builtin.Range.rangeSize a b 1)) = true) :
  Meets (Builtin.«range.__reversed__» ⟨[.ref r],[]⟩) (fun _ R s => s.heap.get? r = some { cls:=.type "range",dict:=none,data:=.fields #[.int a t,.int b u,.int 1 v],slots:=#[] } ∧ R (.ok (.ret (Value.ref s.heap.objs.size))) { s with heap:=s.heap.push (zdj a b) }) :=
 .of_wp fun prog w A R s h => by
  (obtain ⟨hp,g,d,tk,os⟩:=s)
  obtain ⟨hl,h⟩:=h
  wp_walk
  rw [hs]
  exact ⟨_,rfl,h⟩
section
variable {prog : Program} {w : World} {A : Around} {E : Value → Shared → Prop} {s : Shared}
theorem zgr {r : Addr} {a b : Int} {t u v : Tok} {Q : Value → Shared → Prop} (hr : IsRange s.heap r a b 1 t u v) (ha : -1000000 ≤ a ∧ a < 1000000 ∧ -1000000 ≤ b ∧ b < 1000000)
  (h : Q (.ref s.heap.objs.size) { s with heap:=s.heap.push (zdj a b) }) : wpAny (model prog w) A (call (.type "reversed") [.ref r]) Q E s:=by
 have hs : (Builtin.Range.rangeFitsLong a && Builtin.Range.rangeFitsLong b && Builtin.Range.rangeFitsLong 1 && Builtin.Range.rangeFitsLong (-1) && Builtin.Range.rangeFitsLong (a - 1) && Builtin.Range.rangeFitsLong (Builtin.Range.rangeSize a b 1)) = true:=by
  have hz : 0 ≤ Builtin.Range.rangeSize a b 1 ∧ Builtin.Range.rangeSize a b 1 ≤ 2000000:=by
   (unfold Builtin.Range.rangeSize)
   rw [if_pos (by decide),Int.ediv_one]
   split <;> omega
  generalize Builtin.Range.rangeSize a b 1 = z at hz ⊢
  unfold Builtin.Range.rangeFitsLong
  (simp only [Bool.and_eq_true,decide_eq_true_eq])
  omega
 (have hT : s.TypeIs (.ref r) "range":=⟨_,hr,rfl⟩)
 refine callType_other (U:="range_iterator") (Q₁:=fun obj s₁ => obj = .ref s.heap.objs.size ∧ s₁ = { s with heap:=s.heap.push (zdj a b) }) (by decide +kernel) F.create_reversed ⟨_,_,F.mro_reversed⟩ F.made_reversed zbR (F.typeCall_reversed_1 _) ?_ ?_
 ·refine codeAny_of_tree ?_
  show wpAny _ A.in1.in1 (do checkBuiltinCall "reversed.__new__" ⟨[.type "reversed",.ref r],[]⟩; again (.builtin "reversed.__new__" ⟨[.type "reversed",.ref r],[]⟩)) _ _ s
  refine (wpAny_bind (wpAny_of_eq (F.newCall_reversed_1 _) (wpAny_pure ⟨plainId_quiet F.plain_reversed_new _,codeAny_builtin F.entry_reversed_new ?_⟩)))
  (rw [Around.under_plainId F.plain_reversed_new _])
  (unfold Builtin.«reversed.__new__»)
  refine (wpAny_bind (wpAny_of_eq (newClass_reversed _) ?_))
  try dsimp only
  refine (wpAny_bind (wpAny_of_eq (a:=()) (by first | rfl | kernel_rfl) (wpAny_bind (wpAny_of_eq (a:=()) (by first | rfl | kernel_rfl) ?_))))
  try dsimp only
  refine (wpAny_bind (wpAny_specialOf hT F.slot_range_reversed.lookup ?_))
  try dsimp only
  refine (wpAny_bind (wpAny_of_eq (F.slot_range_reversed.bind _) ?_))
  try dsimp only
  show wpAny _ _ (if (Value.builtin "range.__reversed__" == Value.none) = true then _ else _) _ _ _
  rw [if_neg (show ¬ ((Value.builtin "range.__reversed__" == Value.none) = true) from Bool.false_ne_true)]
  refine (wpAny_bind (wpAny_rule ?_))
  refine wpAny_bind (m:=runValue (.call (.builtin "range.__reversed__") ⟨[.ref r],[]⟩)) (show wpAny _ _ (call (.builtin "range.__reversed__") [.ref r]) _ _ _ from call_meets F.slot_range_reversed hT F.entry_range_reversed (F.args_range_reversed_1 _) (zfG r a b t u v hs) ⟨hr,?_⟩)
  first
  | exact wpAny_pure ⟨rfl,rfl⟩
  | exact wpAny_bind (wpAny_pure (wpAny_pure ⟨rfl,rfl⟩))
 ·rintro obj s₁ ⟨rfl,rfl⟩
  (exact ⟨⟨_,Heap.get?_push_size _ rfl,rfl⟩,h⟩)
end
end PySem
namespace L2
open PySem PySem.Spec PyProof.Rows
theorem zdk {X : Cx} : zar X (.type "range") (fun xs H Q => ∃ i j : Int,xs = [.int i,.int j] ∧ ∀ l,H l = none → Q (.ref l) (upd H l (.rng i j))):=by
 intro pins s σ H xs us Q I r h
 obtain ⟨i,j,rfl,q⟩:=h
 cases r with
 | cons r1 r =>
  cases r with
  | cons r2 r =>
   cases r
   obtain ⟨t,rfl⟩:=r1
   obtain ⟨t',rfl⟩:=r2
   refine call_range_2 ?_
   exact ⟨.ref s.heap.objs.size,_,I.laid (o:=.rng i j) (fun b o e => Heap.get?_push_of_some _ e) (Nat.le_refl _) ⟨_,_,_,Heap.get?_push_size _ rfl⟩,rfl,q _ I.fresh⟩
def zhQ (ta : TA) : TI:=fun σ H R => ta σ H fun vs H1 => ∃ (a : Addr) (i j : Int),vs = [.ref a] ∧ H1 a = some (.rng i j) ∧ (-1000000 ≤ i ∧ i < 1000000 ∧ -1000000 ≤ j ∧ j < 1000000) ∧ R (zeO (i + ((j - i).toNat : Int) - 1) (j - i).toNat) H1
theorem zgs {X : Cx} {tg : Expr} {p pos : Pos} {a : Expr} {ta : TA} (hg : Gl X "reversed") (hm : X.mg "reversed" = none) (ha : PA X [a] ta) (hs : starEach [a] X.env = [(false,eval a X.env)]:=by rfl) :
  PI X tg (.Call (.Name "reversed" p) [a] [] pos) (zhQ ta):=by
 intro pins s σ H R I h
 refine Call_ (zaN I hg hm boot_reversed (PyProof.Rows.callWith_type1 (thn (ha pos pins s σ H _ I h) fun us s1 ⟨vs,H1,I1,r1,q1⟩ => ?_) hs rfl))
 obtain ⟨l,i,j,e,hq,hb,q⟩:=q1
 subst e
 cases r1 with
 | cons r rr =>
  cases rr
  cases r
  obtain ⟨t,u,v,hr⟩:=(show zV X.prog X.w H1 s1.heap l (.rng i j) from I1.hok l _ hq)
  refine zgr hr hb ?_
  have hsz : Builtin.Range.rangeSize i j 1 = ((j - i).toNat : Int):=by
   (unfold Builtin.Range.rangeSize)
   rw [if_pos (by decide),Int.ediv_one]
   split <;> omega
  have I2 : Inv X pins σ H1 { s1 with heap:=s1.heap.push (zdj i j) }:=I1.kept (t':=s1.toks) fun b o e => Heap.get?_push_of_some _ e
  have hit : IsRangeIter (s1.heap.push (zdj i j)) s1.heap.objs.size ((i + ((j - i).toNat : Int) - 1) + ((0 : Nat) : Int) * (-1)) ((((j - i).toNat : Nat) : Int) - ((0 : Nat) : Int)) (-1):=by
   have e1 : (i + ((j - i).toNat : Int) - 1) + ((0 : Nat) : Int) * (-1) = i + (Builtin.Range.rangeSize i j 1 - 1) * 1:=by rw [hsz]; omega
   have e2 : (((j - i).toNat : Nat) : Int) - ((0 : Nat) : Int) = Builtin.Range.rangeSize i j 1:=by rw [hsz]; omega
   rw [e1,e2]
   exact Heap.get?_push_size _ rfl
  refine wpAny_pyIter_rangeiter hit ?_
  refine ⟨_,[s1.heap.objs.size],_,zeO (i + ((j - i).toNat : Int) - 1) (j - i).toNat,H1,rfl,I2,zdh _ _ _,hit,fun b hb => ?_,q⟩
  have z : b = s1.heap.objs.size:=by simpa using hb
  subst z
  exact I1.fpOk (Nat.le_refl _) (I1.hok.fresh (Nat.le_refl _))
end L2
end
section
set_option maxHeartbeats 3999000
namespace My
open PySem L2 PyProof.Rows
def sh (b : Int) : Nat → (Nat → Int) → Nat → Int
 | 0,_,_ => 0
 | n + 1,l,0 => l 0 + b * sh b n (fun t => l (t + 1)) 0
 | n + 1,l,j + 1 => sh b n (fun t => l (t + 1)) j + b * sh b n (fun t => l (t + 1)) (j + 1)
theorem zbT {b : Int} : ∀ {n : Nat} {l : Nat → Int} {j : Nat},n ≤ j → sh b n l j = 0
 | 0,_,_,_ => by simp [sh]
 | n + 1,l,0,h => by omega
 | n + 1,l,j + 1,h => by
  rw [sh,zbT (by omega),zbT (by omega)]; simp
theorem zcS {b : Int} : ∀ {n : Nat} {u v : Nat → Int} {j : Nat},sh b n (fun t => u t + v t) j = sh b n u j + sh b n v j
 | 0,_,_,_ => by simp [sh]
 | n + 1,u,v,0 => by
  have h:=zcS (b:=b) (n:=n) (u:=fun t => u (t + 1)) (v:=fun t => v (t + 1)) (j:=0)
  simp only [sh,h]; grind
 | n + 1,u,v,j + 1 => by
  have h:=zcS (b:=b) (n:=n) (u:=fun t => u (t + 1)) (v:=fun t => v (t + 1)) (j:=j)
  have h':=zcS (b:=b) (n:=n) (u:=fun t => u (t + 1)) (v:=fun t => v (t + 1)) (j:=j + 1)
  simp only [sh,h,h']; grind
theorem zcT {b c : Int} : ∀ {n : Nat} {u : Nat → Int} {j : Nat},sh b n (fun t => c * u t) j = c * sh b n u j
 | 0,_,_ => by simp [sh]
 | n + 1,u,0 => by
  have h:=zcT (b:=b) (c:=c) (n:=n) (u:=fun t => u (t + 1)) (j:=0)
  simp only [sh,h]; grind
 | n + 1,u,j + 1 => by
  have h:=zcT (b:=b) (c:=c) (n:=n) (u:=fun t => u (t + 1)) (j:=j)
  have h':=zcT (b:=b) (c:=c) (n:=n) (u:=fun t => u (t + 1)) (j:=j + 1)
  simp only [sh,h,h']; grind
theorem zbK {b : Int} : ∀ {n : Nat} {u v : Nat → Int} {j : Nat},(∀ t,t < n → u t = v t) → sh b n u j = sh b n v j
 | 0,_,_,_,_ => by simp [sh]
 | n + 1,u,v,0,h => by
  rw [sh,sh,h 0 (by omega),zbK (n:=n) (v:=fun t => v (t + 1)) fun t ht => h (t + 1) (by omega)]
 | n + 1,u,v,j + 1,h => by
  have e:=fun i => zbK (b:=b) (n:=n) (u:=fun t => u (t + 1)) (v:=fun t => v (t + 1)) (j:=i) fun t ht => h (t + 1) (by omega)
  rw [sh,sh,e j,e (j + 1)]
theorem zb8 {p b b' : Int} (hb : Cg p b b') : ∀ {n : Nat} {u v : Nat → Int} {j : Nat},(∀ t,t < n → Cg p (u t) (v t)) → Cg p (sh b n u j) (sh b' n v j)
 | 0,_,_,_,_ => by simp only [sh]; exact Cg.refl _ _
 | n + 1,u,v,0,h => by
  simp only [sh]
  exact (h 0 (by omega)).add (hb.mul (zb8 hb fun t ht => h (t + 1) (by omega)))
 | n + 1,u,v,j + 1,h => by
  simp only [sh]
  exact (zb8 hb fun t ht => h (t + 1) (by omega)).add (hb.mul (zb8 hb fun t ht => h (t + 1) (by omega)))
theorem zdU {b : Int} : ∀ {n : Nat} {f : Nat → Int} {j : Nat},f n = 0 → sh b (n + 1) f j = sh b n f j
 | 0,f,0,h => by simp [sh,h]
 | 0,f,j + 1,h => by simp [sh]
 | n + 1,f,0,h => by
  rw [sh,zdU (n:=n) (f:=fun t => f (t + 1)) h]; simp only [sh]
 | n + 1,f,j + 1,h => by
  have e:=fun i => zdU (b:=b) (n:=n) (f:=fun t => f (t + 1)) (j:=i) h
  rw [sh,e j,e (j + 1)]; simp only [sh]
theorem zcU : ∀ {n : Nat} {l : Nat → Int} {j : Nat},j < n → sh 0 n l j = l j
 | 0,_,_,h => by omega
 | n + 1,l,0,_ => by simp [sh]
 | n + 1,l,j + 1,h => by
  rw [sh,zcU (n:=n) (l:=fun t => l (t + 1)) (by omega)]; simp
theorem zfH {b b' : Int} : ∀ {n : Nat} {l : Nat → Int} {j : Nat},sh b' n (sh b n l) j = sh (b + b') n l j
 | 0,_,_ => by simp [sh]
 | n + 1,l,j => by
  have hz : sh b n (fun t => l (t + 1)) n = 0:=zbT (Nat.le_refl _)
  have ih:=fun i => zfH (b:=b) (b':=b') (n:=n) (l:=fun t => l (t + 1)) (j:=i)
  have e : sh b' (n + 1) (sh b (n + 1) l) j = sh b' (n + 1) (fun t => (if t = 0 then l 0 else sh b n (fun t => l (t + 1)) (t - 1)) + b * sh b n (fun t => l (t + 1)) t) j:=by
   refine zbK fun t _ => ?_
   cases t <;> simp [sh]
  rw [e,zcS,zcT,zdU hz,ih]
  cases j with
  | zero =>
   simp only [sh,if_true]
   have e2 : sh b' n (fun t => if t + 1 = 0 then l 0 else sh b n (fun t => l (t + 1)) (t + 1 - 1)) 0 = sh (b + b') n (fun t => l (t + 1)) 0:=by
    rw [← ih]; exact zbK fun t _ => by simp
   rw [e2]; grind
  | succ j =>
   simp only [sh]
   have e2 : ∀ i,sh b' n (fun t => if t + 1 = 0 then l 0 else sh b n (fun t => l (t + 1)) (t + 1 - 1)) i = sh (b + b') n (fun t => l (t + 1)) i:=fun i => by
    rw [← ih]; exact zbK fun t _ => by simp
   rw [e2,e2]; grind
def vl : Nat → (Nat → Int) → Int → Int
 | 0,_,_ => 0
 | n + 1,l,y => l 0 + y * vl n (fun t => l (t + 1)) y
theorem zer {y : Int} : ∀ {n : Nat} {u v : Nat → Int},(∀ t,t < n → u t = v t) → vl n u y = vl n v y
 | 0,_,_,_ => rfl
 | n + 1,u,v,h => by rw [vl,vl,h 0 (by omega),zer (v:=fun t => v (t + 1)) fun t ht => h (t + 1) (by omega)]
theorem zfI {y : Int} : ∀ {n : Nat} {u v : Nat → Int},vl n (fun t => u t + v t) y = vl n u y + vl n v y
 | 0,_,_ => by simp [vl]
 | n + 1,u,v => by
  have h:=zfI (y:=y) (n:=n) (u:=fun t => u (t + 1)) (v:=fun t => v (t + 1))
  simp only [vl,h]; grind
theorem zfJ {c y : Int} : ∀ {n : Nat} {u : Nat → Int},vl n (fun t => c * u t) y = c * vl n u y
 | 0,_ => by simp [vl]
 | n + 1,u => by
  have h:=zfJ (c:=c) (y:=y) (n:=n) (u:=fun t => u (t + 1))
  simp only [vl,h]; grind
theorem zcy {p y y' : Int} (hy : Cg p y y') : ∀ {n : Nat} {u v : Nat → Int},(∀ t,t < n → Cg p (u t) (v t)) → Cg p (vl n u y) (vl n v y')
 | 0,_,_,_ => Cg.refl _ _
 | n + 1,u,v,h => (h 0 (by omega)).add (hy.mul (zcy hy fun t ht => h (t + 1) (by omega)))
theorem zfK {y : Int} : ∀ {n : Nat} {f : Nat → Int},f n = 0 → vl (n + 1) f y = vl n f y
 | 0,f,h => by simp [vl,h]
 | n + 1,f,h => by rw [vl,zfK (n:=n) (f:=fun t => f (t + 1)) h]; rfl
theorem zfL {b y : Int} : ∀ {n : Nat} {l : Nat → Int},vl n (sh b n l) y = vl n l (y + b)
 | 0,_ => rfl
 | n + 1,l => by
  have ih:=zfL (b:=b) (y:=y) (n:=n) (l:=fun t => l (t + 1))
  have hz : sh b n (fun t => l (t + 1)) n = 0:=zbT (Nat.le_refl _)
  have e : vl (n + 1) (sh b (n + 1) l) y = vl (n + 1) (fun t => (if t = 0 then l 0 else sh b n (fun t => l (t + 1)) (t - 1)) + b * sh b n (fun t => l (t + 1)) t) y:=by
   refine zer fun t _ => ?_
   cases t <;> simp [sh]
  rw [e,zfI,zfJ,zfK hz,ih]
  simp only [vl,if_true]
  have e2 : vl n (fun t => if t + 1 = 0 then l 0 else sh b n (fun t => l (t + 1)) (t + 1 - 1)) y = vl n (fun t => l (t + 1)) (y + b):=by
   rw [← ih]; exact zer fun t _ => by simp
  rw [e2]; grind
def ch : Nat → Nat → Int
 | _,0 => 1
 | 0,_ + 1 => 0
 | t + 1,j + 1 => ch t j + ch t (j + 1)
theorem zbx : ∀ {t j : Nat},t < j → ch t j = 0
 | _,0,h => by omega
 | 0,j + 1,_ => rfl
 | t + 1,j + 1,h => by rw [ch,zbx (by omega),zbx (by omega)]; rfl
theorem za7 {b : Int} : ∀ {n : Nat} {l : Nat → Int} {j : Nat},sh b n l j = sm n fun t => ch t j * b ^ (t - j) * l t
 | 0,_,_ => rfl
 | n + 1,l,0 => by
  rw [sh,za7,zbw,← zaD]
  congr 1
  ·simp [ch]
  ·exact z4 fun i _ => by simp only [ch,Nat.sub_zero]; grind
 | n + 1,l,j + 1 => by
  rw [sh,za7,za7,zbw,← zaD,← zdS]
  have e0 : ch 0 (j + 1) * b ^ (0 - (j + 1)) * l 0 = 0:=by simp [ch]
  rw [e0,Int.zero_add]
  refine z4 fun i _ => ?_
  have e1 : i + 1 - (j + 1) = i - j:=by omega
  rw [ch,e1]
  by_cases h : j + 1 ≤ i
  ·have e2 : i - j = (i - (j + 1)) + 1:=by omega
   rw [e2,Int.pow_succ]; grind
  ·rw [zbx (t:=i) (j:=j + 1) (by omega)]; simp
theorem zbU : ∀ {t j : Nat},((j : Int) + 1) * ch t (j + 1) = ((t : Int) - j) * ch t j
 | 0,0 => by simp [ch]
 | 0,j + 1 => by simp [ch]
 | t + 1,0 => by
  have h:=zbU (t:=t) (j:=0)
  simp only [ch] at h ⊢
  push_cast at h ⊢; grind
 | t + 1,j + 1 => by
  have h:=zbU (t:=t) (j:=j)
  have h':=zbU (t:=t) (j:=j + 1)
  simp only [ch] at h h' ⊢
  push_cast at h h' ⊢; grind
theorem zhh {t j : Nat} : ch t j * ((t : Int) - j) / ((j : Int) + 1) = ch t (j + 1):=by
 rw [Int.mul_comm,← zbU]
 exact Int.mul_ediv_cancel_left _ (by omega)
def hs (b : Int) : Nat → (Nat → Int) → Nat → Int
 | 0,_,_ => 0
 | n + 1,l,0 => l 0 + b * hs b n (fun t => l (t + 1)) 0
 | n + 1,l,j + 1 => hs b n (fun t => l (t + 1)) j
theorem zcV {b : Int} : ∀ {n : Nat} {l : Nat → Int} {j : Nat},n ≤ j → hs b n l j = 0
 | 0,_,_,_ => by simp [hs]
 | n + 1,l,0,h => by omega
 | n + 1,l,j + 1,h => by rw [hs,zcV (by omega)]
theorem zbV {b : Int} : ∀ {n : Nat} {l : Nat → Int} {j : Nat},j < n → hs b n l j = l j + b * hs b n l (j + 1)
 | 0,_,_,h => by omega
 | n + 1,l,0,h => by simp only [hs]
 | n + 1,l,j + 1,h => by
  rw [hs,zbV (n:=n) (l:=fun t => l (t + 1)) (by omega)]; rfl
theorem zfM {b : Int} : ∀ {n : Nat} {l : Nat → Int},sh b (n + 1) l 0 = hs b (n + 1) l 0 ∧ ∀ j,sh b (n + 1) l (j + 1) = sh b n (fun t => hs b (n + 1) l (t + 1)) j
 | 0,l => by simp [sh,hs]
 | n + 1,l => by
  obtain ⟨h0,h1⟩:=zfM (b:=b) (n:=n) (l:=fun t => l (t + 1))
  refine ⟨?_,fun j => ?_⟩
  ·rw [sh,h0]; simp only [hs]
  ·rw [sh]
   have e : sh b (n + 1) (fun t => hs b (n + 2) l (t + 1)) j = sh b (n + 1) (fun t => hs b (n + 1) (fun t => l (t + 1)) t) j:=zbK fun t _ => by rw [hs]
   rw [e]
   cases j with
   | zero => rw [h0,h1 0]; simp only [sh]
   | succ j => rw [h1 j,h1 (j + 1)]; simp only [sh]
def qo (b : Int) (n : Nat) (l : Nat → Int) : Nat → Nat → Int
 | 0 => l
 | f + 1 => fun t => hs b (n - f) (qo b n l f) (t + 1)
theorem zgI {b : Int} {n : Nat} {l : Nat → Int} : ∀ {f : Nat},f ≤ n → ∀ j,sh b n l (f + j) = sh b (n - f) (qo b n l f) j
 | 0,_,j => by rw [Nat.zero_add]; rfl
 | f + 1,h,j => by
  have ih:=zgI (b:=b) (n:=n) (l:=l) (f:=f) (by omega) (j + 1)
  have e : f + 1 + j = f + (j + 1):=by omega
  have e2 : n - f = (n - (f + 1)) + 1:=by omega
  rw [e,ih,e2,(zfM).2 j]
  refine zbK fun t _ => ?_
  rw [qo,e2]
theorem zfN {b : Int} {n : Nat} {l : Nat → Int} {f : Nat} (h : f < n) : sh b n l f = hs b (n - f) (qo b n l f) 0:=by
 have ih:=zgI (b:=b) (n:=n) (l:=l) (f:=f) (by omega) 0
 have e2 : n - f = (n - (f + 1)) + 1:=by omega
 rw [Nat.add_zero] at ih
 rw [ih,e2,(zfM).1]
theorem zgt {a b : Int} {n w : Nat} {g : Nat → Nat → Int} {j i : Nat} : sh b n (fun t => sh a w (fun s => g t s) i) j = sh a w (fun s => sh b n (fun t => g t s) j) i:=by
 rw [za7,za7]
 have e1 : (fun t => ch t j * b ^ (t - j) * sh a w (fun s => g t s) i) = fun t => sm w fun s => (ch t j * b ^ (t - j)) * (ch s i * a ^ (s - i) * g t s):=by
  funext t; rw [za7,← zaD]
 have e2 : (fun s => ch s i * a ^ (s - i) * sh b n (fun t => g t s) j) = fun s => sm n fun t => (ch t j * b ^ (t - j)) * (ch s i * a ^ (s - i) * g t s):=by
  funext s; rw [za7,← zaD]
  exact z4 fun t _ => by grind
 rw [e1,e2,zbS]
def mv (a b : Int) (n w : Nat) (c : Nat → Nat → Int) (j i : Nat) : Int:=sh a w (fun s => sh b n (fun t => c t s) j) i
theorem zgJ {p a a' b b' : Int} {n w : Nat} {c d : Nat → Nat → Int} {j i : Nat} (ha : Cg p a a') (hb : Cg p b b') (h : ∀ t s,t < n → s < w → Cg p (c t s) (d t s)) : Cg p (mv a b n w c j i) (mv a' b' n w d j i) :=
 zb8 ha fun s hs => zb8 hb fun t ht => h t s ht hs
theorem zgK {a b : Int} {n w : Nat} {c : Nat → Nat → Int} {j i : Nat} : mv a b n w c j i = sm n fun t => sm w fun s => c t s * ch t j * ch s i * a ^ (s - i) * b ^ (t - j):=by
 unfold mv
 rw [za7,← zbS]
 refine z4 fun s _ => ?_
 rw [za7,← zaD]
 exact z4 fun t _ => by grind
theorem zdl {y : Int} : ∀ {n : Nat} {l : Nat → Int},vl n l y = sm n fun t => l t * y ^ t
 | 0,_ => rfl
 | n + 1,l => by
  rw [vl,zdl,zbw,← zaD]
  congr 1
  ·simp
  ·exact z4 fun t _ => by rw [Int.pow_succ]; grind
theorem zgu {x : Int} {b : Int} {n w : Nat} {g : Nat → Nat → Int} {j : Nat} : vl w (fun s => sh b n (fun t => g t s) j) x = sh b n (fun t => vl w (fun s => g t s) x) j:=by
 rw [zdl,za7]
 have e1 : (fun s => sh b n (fun t => g t s) j * x ^ s) = fun s => sm n fun t => (ch t j * b ^ (t - j)) * (g t s * x ^ s):=by
  funext s; rw [za7,Int.mul_comm,← zaD]
  exact z4 fun t _ => by grind
 have e2 : (fun t => ch t j * b ^ (t - j) * vl w (fun s => g t s) x) = fun t => sm w fun s => (ch t j * b ^ (t - j)) * (g t s * x ^ s):=by
  funext t; rw [zdl,← zaD]
 rw [e1,e2,zbS]
theorem zhR {a b x y : Int} {n w : Nat} {c : Nat → Nat → Int} : vl n (fun j => vl w (fun i => mv a b n w c j i) x) y = vl n (fun t => vl w (c t) (x + a)) (y + b):=by
 rw [← zfL]
 refine zer fun j _ => ?_
 rw [← zgu]
 exact zfL (b:=a) (l:=fun s => sh b n (fun t => c t s) j)
theorem zes {p a a' b b' : Int} {n w : Nat} {c d : Nat → Nat → Int} (ha : Cg p (a + a') 0) (hb : Cg p (b + b') 0) (hd : ∀ t s,t < n → s < w → Cg p (d t s) (mv a b n w c t s)) {j i : Nat} (hj : j < n) (hi : i < w) : Cg p (mv a' b' n w d j i) (c j i):=by
 refine (zgJ (Cg.refl _ _) (Cg.refl _ _) hd).trans ?_
 have e : mv a' b' n w (fun t s => mv a b n w c t s) j i = mv (a + a') (b + b') n w c j i:=by
  unfold mv
  have e1 : (fun s => sh b' n (fun t => sh a w (fun s => sh b n (fun t => c t s) t) s) j) = sh a w (fun s => sh (b + b') n (fun t => c t s) j):=by
   funext s
   rw [zgt]
   refine zbK fun s _ => ?_
   exact zfH (b:=b) (b':=b') (l:=fun t => c t s)
  rw [e1,zfH]
 rw [show (mv a b n w c) = (fun t s => mv a b n w c t s) from rfl,e]
 refine (zgJ ha hb fun _ _ _ _ => Cg.refl _ _).trans (Cg.of_eq ?_)
 unfold mv
 rw [zcU hi,zcU (l:=fun t => c t i) hj]
theorem zhS {p a b : Int} {n w : Nat} {c : Nat → Nat → Int} {j i : Nat} (hj : j < n) (hi : i < w) (hc : ¬ Cg p (c j i) 0) : ∃ t s,t < n ∧ s < w ∧ ¬ Cg p (mv a b n w c t s) 0:=by
 refine Classical.byContradiction fun h => hc ?_
 have z : ∀ t s,t < n → s < w → Cg p (0 : Int) (mv a b n w c t s):=fun t s ht hs => Classical.byContradiction fun q => h ⟨t,s,ht,hs,fun e => q e.symm⟩
 have e:=zes (p:=p) (a:=a) (a':=-a) (b:=b) (b':=-b) (c:=c) (d:=fun _ _ => 0) (Cg.of_eq (by omega)) (Cg.of_eq (by omega)) z hj hi
 refine e.symm.trans (Cg.of_eq ?_)
 rw [zgK]
 exact zaS fun t _ => zaS fun s _ => by simp
def zJ (n w : Nat) (g : Nat → Nat → Int) : List (List Int):=(List.range n).map fun j => (List.range w).map fun i => g j i
theorem zap {n w j : Nat} {g : Nat → Nat → Int} (h : j < n) : (zJ n w g)[j]? = some ((List.range w).map fun i => g j i):=by
 unfold zJ
 rw [List.getElem?_map,List.getElem?_range h]
 rfl
theorem z9 {n w : Nat} {g g' : Nat → Nat → Int} (h : ∀ j i,j < n → i < w → g j i = g' j i) : zJ n w g = zJ n w g':=by
 unfold zJ
 refine List.map_congr_left fun j hj => List.map_congr_left fun i hi => ?_
 exact h j i (List.mem_range.mp hj) (List.mem_range.mp hi)
theorem zeQ {n w j : Nat} {g : Nat → Nat → Int} {v : Nat → Int} : (zJ n w g).set j ((List.range w).map v) = zJ n w (fun j' i => if j' = j then v i else g j' i):=by
 refine List.ext_getElem? fun k => ?_
 rw [List.getElem?_set]
 by_cases hk : k < n
 ·rw [zap hk,zap hk]
  by_cases e : j = k
  ·subst e
   have hl : j < (zJ n w g).length:=by unfold zJ; rw [List.length_map,List.length_range]; exact hk
   simp [hl]
  ·simp [e,Ne.symm e]
 ·have h1 : (zJ n w g)[k]? = none:=List.getElem?_eq_none_iff.mpr (by unfold zJ; rw [List.length_map,List.length_range]; omega)
  have h2 : (zJ n w (fun j' i => if j' = j then v i else g j' i))[k]? = none:=List.getElem?_eq_none_iff.mpr (by unfold zJ; rw [List.length_map,List.length_range]; omega)
  have h3 : (zJ n w g).length = n:=by unfold zJ; rw [List.length_map,List.length_range]
  rw [h1,h2,h3]
  split
  ·rw [if_neg (by omega)]
  ·rfl
theorem zeR {w : Nat} {u v : Nat → Int} {f : Int → Int → Int} : List.zipWith f ((List.range w).map u) ((List.range w).map v) = (List.range w).map fun i => f (u i) (v i):=by
 rw [List.zipWith_map,List.zipWith_self]
def rst (p b : Int) (n : Nat) (c : Nat → Nat → Int) (f idx j i : Nat) : Int :=
 (if j < f then sh b n (fun t => c t i) j else if n ≤ idx + 1 + j then hs b (n - f) (qo b n (fun t => c t i) f) (j - f) else qo b n (fun t => c t i) f (j - f)) % p
theorem zeS {p b : Int} {n : Nat} {c : Nat → Nat → Int} {j i : Nat} (hj : j < n) : rst p b n c 0 0 j i = c j i % p:=by
 unfold rst
 rw [if_neg (by omega)]
 split
 ·rw [Nat.sub_zero,Nat.sub_zero,zbV hj,zcV (by omega)]
  simp [qo]
 ·rfl
theorem zfO {p b : Int} {n : Nat} {c : Nat → Nat → Int} {j i : Nat} (hj : j < n) : rst p b n c n 0 j i = sh b n (fun t => c t i) j % p:=by
 unfold rst
 rw [if_pos hj]
theorem zfP {p b : Int} {n f : Nat} {c : Nat → Nat → Int} {j i : Nat} (hf : f < n) (hj : j < n) : rst p b n c f (n - 1 - f) j i = rst p b n c (f + 1) 0 j i:=by
 unfold rst
 by_cases h1 : j < f
 ·rw [if_pos h1,if_pos (by omega)]
 ·rw [if_neg h1,if_pos (by omega)]
  by_cases h2 : j = f
  ·subst h2
   rw [if_pos (by omega),Nat.sub_self,zfN hf]
  ·rw [if_neg (by omega)]
   have e1 : j - f = (j - (f + 1)) + 1:=by omega
   have e2 : qo b n (fun t => c t i) (f + 1) (j - (f + 1)) = hs b (n - f) (qo b n (fun t => c t i) f) (j - f):=by rw [e1]; rfl
   split
   ·rw [zbV (n:=n - (f + 1)) (j:=j - (f + 1)) (by omega),zcV (n:=n - (f + 1)) (j:=j - (f + 1) + 1) (by omega),e2]; simp
   ·rw [e2]
theorem zfQ {p b : Int} {n f idx : Nat} {c : Nat → Nat → Int} {j i : Nat} (hi : idx < n - 1 - f) (hj : j < n) : rst p b n c f (idx + 1) j i = if j = n - 2 - idx then (rst p b n c f idx (n - 2 - idx) i + b * rst p b n c f idx (n - 2 - idx + 1) i) % p else rst p b n c f idx j i:=by
 by_cases h : j = n - 2 - idx
 ·rw [if_pos h,← h]
  unfold rst
  rw [if_neg (by omega),if_pos (by omega),if_neg (by omega),if_neg (by omega),if_neg (by omega),if_pos (by omega),zbV (by omega)]
  have e : j + 1 - f = j - f + 1:=by omega
  rw [e]
  exact ((Cg.emod p _).symm.add ((Cg.refl p b).mul (Cg.emod p _).symm)).mod_eq
 ·rw [if_neg h]
  unfold rst
  split
  ·rfl
  ·by_cases h2 : n ≤ idx + 1 + j
   ·rw [if_pos h2,if_pos (by omega)]
   ·rw [if_neg h2,if_neg (by omega)]
end My
end
section
set_option maxHeartbeats 3999000
namespace My
open PySem L2 PyProof.Rows
def top (i : Nat) : Stmt:=PySem.Challenge.pw_slipcurve_k09_curves_moved.main.body.getD i (.Pass ⟨0,0,0,0⟩)
abbrev zau : Stmt:=top 1
abbrev za8 : Stmt:=top 2
abbrev zav : Stmt:=top 3
abbrev za9 : Stmt:=top 4
abbrev zba : Stmt:=top 5
abbrev zaI : Stmt:=top 6
abbrev zby : Stmt:=top 7
abbrev zai : Stmt:=top 8
abbrev zbz : Stmt:=top 10
abbrev zbg : Stmt:=top 11
abbrev zbh : Stmt:=top 12
abbrev zbb : Stmt:=top 13
abbrev zbi : Stmt:=top 14
abbrev zaT : Stmt:=top 15
abbrev zaq : Stmt:=top 16
abbrev zaU : Stmt:=top 17
abbrev zaJ : Stmt:=top 18
abbrev zaw : Stmt:=top 19
abbrev zaK : Stmt:=top 20
abbrev zbc : Stmt:=top 21
abbrev zaX : Stmt:=top 22
structure Adr where
 width_of : Addr
 filled : Addr
 terms_of : Addr
 turned : Addr
 raised : Addr
 size_of : Addr
 moved : Addr
 weight_at : Addr
 l_cell : Addr
 l_draws : Addr
 l_whole : Addr
 l_code : Addr
 l_value : Addr
 l_powers : Addr
 l_curve : Addr
 l_choose : Addr
 l_moved : Addr
 l_weight : Addr
 l_worth : Addr
 l_size : Addr
 law : Addr
structure Txt (K : PySem.W.Frag) (mg : Str → Option Value) (t : Adr) : Prop where
 len_ : mg "len" = none
 range_ : mg "range" = none
 list_ : mg "list" = none
 tuple_ : mg "tuple" = none
 min_ : mg "min" = none
 max_ : mg "max" = none
 isinstance_ : mg "isinstance" = none
 zip_ : mg "zip" = none
 enumerate_ : mg "enumerate" = none
 reversed_ : mg "reversed" = none
 int_ : mg "int" = none
 bool_ : mg "bool" = none
 m_width_of : mg "width_of" = some (.ref t.width_of)
 m_filled : mg "filled" = some (.ref t.filled)
 m_terms_of : mg "terms_of" = some (.ref t.terms_of)
 m_turned : mg "turned" = some (.ref t.turned)
 m_raised : mg "raised" = some (.ref t.raised)
 m_size_of : mg "size_of" = some (.ref t.size_of)
 m_moved : mg "moved" = some (.ref t.moved)
 m_weight_at : mg "weight_at" = some (.ref t.weight_at)
 m_l_cell : mg "_law_cell" = some (.ref t.l_cell)
 m_l_draws : mg "_law_draws" = some (.ref t.l_draws)
 m_l_whole : mg "_law_whole" = some (.ref t.l_whole)
 m_l_code : mg "_law_code" = some (.ref t.l_code)
 m_l_value : mg "_law_value" = some (.ref t.l_value)
 m_l_powers : mg "_law_powers" = some (.ref t.l_powers)
 m_l_curve : mg "_law_curve" = some (.ref t.l_curve)
 m_l_choose : mg "_law_choose" = some (.ref t.l_choose)
 m_l_moved : mg "_law_moved" = some (.ref t.l_moved)
 m_l_weight : mg "_law_weight" = some (.ref t.l_weight)
 m_l_worth : mg "_law_worth" = some (.ref t.l_worth)
 m_l_size : mg "_law_size" = some (.ref t.l_size)
 f_width_of : ∃ fd,Fun K "width_of" "width_of" zau t.width_of fd ∧ Binds K fd ["curve"] []
 f_filled : ∃ fd,Fun K "filled" "filled" za8 t.filled fd ∧ Binds K fd ["p","curve"] []
 f_terms_of : ∃ fd,Fun K "terms_of" "terms_of" zav t.terms_of fd ∧ Binds K fd ["curve"] []
 f_turned : ∃ fd,Fun K "turned" "turned" za9 t.turned fd ∧ Binds K fd ["lines","width"] []
 f_raised : ∃ fd,Fun K "raised" "raised" zba t.raised fd ∧ Binds K fd ["p","lines","by"] []
 f_size_of : ∃ fd,Fun K "size_of" "size_of" zaI t.size_of fd ∧ Binds K fd ["k","curve"] []
 f_moved : ∃ fd,Fun K "moved" "moved" zby t.moved fd ∧ Binds K fd ["p","curve","point"] []
 f_weight_at : ∃ fd,Fun K "weight_at" "weight_at" zai t.weight_at fd ∧ Binds K fd ["p","curve","point"] []
 f_l_cell : ∃ fd,Fun K "_law_cell" "_law_cell" zbz t.l_cell fd ∧ Binds K fd ["script","k"] []
 f_l_draws : ∃ fd,Fun K "_law_draws" "_law_draws" zbg t.l_draws fd ∧ Binds K fd ["script","k","many","base"] []
 f_l_whole : ∃ fd,Fun K "_law_whole" "_law_whole" zbh t.l_whole fd ∧ Binds K fd ["found"] []
 f_l_code : ∃ fd,Fun K "_law_code" "_law_code" zbb t.l_code fd ∧ Binds K fd ["script","at","most_k","most_n"] []
 f_l_value : ∃ fd,Fun K "_law_value" "_law_value" zbi t.l_value fd ∧ Binds K fd ["p","polynomial","x"] []
 f_l_powers : ∃ fd,Fun K "_law_powers" "_law_powers" zaT t.l_powers fd ∧ Binds K fd ["p","x","many"] []
 f_l_curve : ∃ fd,Fun K "_law_curve" "_law_curve" zaq t.l_curve fd ∧ Binds K fd ["script","at","p","high","wide"] []
 f_l_choose : ∃ fd,Fun K "_law_choose" "_law_choose" zaU t.l_choose fd ∧ Binds K fd ["many","few"] []
 f_l_moved : ∃ fd,Fun K "_law_moved" "_law_moved" zaJ t.l_moved fd ∧ Binds K fd ["p","curve","point"] []
 f_l_weight : ∃ fd,Fun K "_law_weight" "_law_weight" zaw t.l_weight fd ∧ Binds K fd ["p","curve","point"] []
 f_l_worth : ∃ fd,Fun K "_law_worth" "_law_worth" zaK t.l_worth fd ∧ Binds K fd ["p","curve","x","y"] []
 f_l_size : ∃ fd,Fun K "_law_size" "_law_size" zbc t.l_size fd ∧ Binds K fd ["k","curve"] []
section
variable {P : Program} {w : World} {K : PySem.W.Frag} {mg : Str → Option Value} {base : Heap} {t : Adr}
theorem zeT : FnScope ["script","k"] ["script","k"] (zh zbz):=⟨rfl,rfl,rfl,by decide +kernel,rfl,by decide +kernel,by decide +kernel⟩
theorem zeU {fd : FuncData} (T : Txt K mg t) (F : Fun K "_law_cell" "_law_cell" zbz t.l_cell fd) : FnOk P w K mg base CX0 1 t.l_cell fd ["script","k"] (zeK K):=by
 refine F.ok zeT (fun vs H Q E h => ?_) (fun cdv A outer s H vs Q E hr h => ?_)
 ·obtain ⟨a,ns,k,rfl,_⟩:=h; rfl
 ·obtain ⟨a,ns,k,rfl,hS,hlen,k0,k1,q⟩:=h
  refine ⟨_,(@zf _ _ _ _ _ (@zaY _ _ _ _ _ _ _ _ (@zR _ _ _ _ _ _ _ _ (@zgD _) (@pvx _ 1 _ _ rfl) (@zp _ _ _ _ _ _ _ _ _ (@zw _) (by rfl) T.len_ boot_len (@za _ _ _ _ _ (@pvx _ 0 _ _ rfl) (@zd _) (by rfl)) (by decide) (by decide) (by rfl) (by rfl)) (z6 _)) (@zj _ _ _ (@zB _ _ _ _ (@zC _ _ _ _ _ _ _ (@zr _) (@pvx _ 0 _ _ rfl) (@pvx _ 1 _ _ rfl) (fun _ _ => rfl)))) (@zab _)) (by exact (@zf _ _ _ _ _ (@zaY _ _ _ _ _ _ _ _ (@zR _ _ _ _ _ _ _ _ (@zgC _) (@zp _ _ _ _ _ _ _ _ _ (@zw _) (by rfl) T.len_ boot_len (@za _ _ _ _ _ (@pvx _ 0 _ _ rfl) (@zd _) (by rfl)) (by decide) (by decide) (by rfl) (by rfl)) (@ze _ _ _ _) (z6 _)) (@zj _ _ _ (@zB _ _ _ _ (@zg _ _ _ _ _ _ _ _ (@zu _) (@zg _ _ _ _ _ _ _ _ (@zD _) (@ze _ _ _ _) (@pvx _ 1 _ _ rfl)) (@ze _ _ _ _)))) (@zab _)) (by exact (@zj _ _ _ (@zB _ _ _ _ (@zg _ _ _ _ _ _ _ _ (@zu _) (@zg _ _ _ _ _ _ _ _ (@zq _) (@zC _ _ _ _ _ _ _ (@zr _) (@pvx _ 0 _ _ rfl) (@zg _ _ _ _ _ _ _ _ (@zq _) (@pvx _ 1 _ _ rfl) (@zp _ _ _ _ _ _ _ _ _ (@zw _) (by rfl) T.len_ boot_len (@za _ _ _ _ _ (@pvx _ 0 _ _ rfl) (@zd _) (by rfl)) (by decide) (by decide) (by rfl) (by rfl))) (fun _ _ => rfl)) (@ze _ _ _ _)) (@zg _ _ _ _ _ _ _ _ (@zD _) (@ze _ _ _ _) (@pvx _ 1 _ _ rfl))))))))),?_⟩
  refine ⟨_,rfl,_,rfl,a,_,rfl,.inl hS,_,_,rfl,rfl,_,rfl,?_⟩; rw [List.length_map]
  refine zbE (fun h => ?_) (fun h => ?_)
  ·have h : k < (ns.length : Int):=by simpa using h
   obtain ⟨c,hc⟩:=zcN k0 h
   exact ⟨_,rfl,_,rfl,a,_,k,_,rfl,rfl,hS,hc,q c⟩
  ·have h : ¬ k < (ns.length : Int):=by simpa using h
   refine ⟨_,rfl,a,_,rfl,.inl hS,rfl,_,rfl,?_⟩
   rw [List.length_map]
   refine zbE (fun h2 => ?_) (fun h2 => ?_)
   ·exact ⟨_,rfl,_,_,rfl,rfl,.inl ⟨by decide,by decide⟩,_,_,rfl,rfl,q _⟩
   ·have h2 : ¬ V.int (ns.length : Int) = V.int 0:=by simpa using h2
    have hpos : 0 < (ns.length : Int):=by
     have : (ns.length : Int) ≠ 0:=fun z => h2 (by rw [z])
     omega
    have m0:=Int.emod_nonneg k (show (ns.length : Int) ≠ 0 by omega)
    have m1:=Int.emod_lt_of_pos k hpos
    obtain ⟨c,hc⟩:=zcN m0 m1
    refine ⟨_,rfl,_,rfl,_,rfl,a,_,rfl,.inl hS,_,_,rfl,rfl,by rw [List.length_map]; exact hpos,a,_,_,_,rfl,rfl,hS,by rw [List.length_map]; exact hc,_,_,rfl,rfl,(by show (0 : Int) < 1000003; decide),?_⟩
    exact ⟨_,rfl,_,_,rfl,rfl,.inl ⟨by decide,by decide⟩,_,_,rfl,rfl,q _⟩
theorem zF : FnScope ["script","k","many","base","primes","cell","rest","row","j","mash"] ["script","k","many","base"] (zh zbg):=⟨rfl,rfl,rfl,by decide +kernel,rfl,by decide +kernel,by decide +kernel⟩
theorem zbs {fd : FuncData} (T : Txt K mg t) (F : Fun K "_law_draws" "_law_draws" zbg t.l_draws fd) : FnOk P w K mg base CX0 2 t.l_draws fd ["script","k","many","base"] (zdO K):=by
 obtain ⟨fd_l_cell,F_l_cell,b_l_cell⟩:=T.f_l_cell
 have G_l_cell:=zeU (P:=P) (w:=w) (base:=base) T F_l_cell
 refine F.ok zF (fun vs H Q E h => ?_) (fun cdv A outer s H vs Q E hr h => ?_)
 ·obtain ⟨a,ns,k,many,base,rfl,_⟩:=h
  rfl
 ·obtain ⟨a,ns,k,many,bs,rfl,hS,hlen,k0,k1,m0,m1,b0,b1,q⟩:=h
  refine ⟨_,(@zf _ _ _ _ _ (@zl _ _ (4) _ _ _ _ zF.nd rfl (Or.inl rfl) (@zaA _ _ _ _ _ (@zde _ _ _ _ _ _ (by exact (@zde _ _ _ _ _ _ (by exact (@zde _ _ _ _ _ _ (by exact (@zde _ _ _ _ _ _ (by exact (@zde _ _ _ _ _ _ (by exact (@za _ _ _ _ _ (@ze _ _ _ _) (@za _ _ _ _ _ (@ze _ _ _ _) (@za _ _ _ _ _ (@ze _ _ _ _) (@zd _) (by rfl)) (by rfl)) (by rfl))))))))))))) (by rfl) (by trivial)) (by exact (@zf _ _ _ _ _ (@zl _ _ (5) _ _ _ _ zF.nd rfl (Or.inl rfl) (@zm _ _ _ _ _ _ _ _ _ _ _ _ _ _ _ _ G_l_cell (hr.mono (by decide)) rfl T.m_l_cell F_l_cell.kp b_l_cell .nil (@zH _) (@za _ _ _ _ _ (@pvx _ 0 _ _ rfl) (@za _ _ _ _ _ (@pvx _ 1 _ _ rfl) (@zd _) (by rfl)) (by rfl)) (by decide) (by rfl) (by rfl)) (by rfl) (by trivial)) (by exact (@zf _ _ _ _ _ (@zl _ _ (6) _ _ _ _ zF.nd rfl (Or.inl rfl) (@ze _ _ _ _) (by rfl) (by trivial)) (by exact (@zf _ _ _ _ _ (@zaY _ _ _ _ _ _ _ _ (@zR _ _ _ _ _ _ _ _ (@zhB _) (@pvx _ 5 _ _ rfl) (@zg _ _ _ _ _ _ _ _ (@zgZ _) (@ze _ _ _ _) (@ze _ _ _ _)) (z6 _)) (@zj _ _ _ (@zl _ _ (6) _ _ _ _ zF.nd rfl (Or.inl rfl) (@pvx _ 5 _ _ rfl) (by rfl) (by trivial))) (@zab _)) (by exact (@zf _ _ _ _ _ (@zl _ _ (7) _ _ _ _ zF.nd rfl (Or.inl rfl) (@zad _ _ _ _ (@zd _)) (by rfl) (by trivial)) (by exact (@zf _ _ _ _ _ (@zZ _ _ _ _ _ _ _ _ PassesOwn.never rfl (@zS _ _ _ _ _ _ rfl T.range_ (@za _ _ _ _ _ (@pvx _ 2 _ _ rfl) (@zd _) (by rfl)) (by rfl)) (@zi _ _ (8) _ zF.nd rfl (Or.inl rfl) (by trivial)) (@zf _ _ _ _ _ (@zl _ _ (9) _ _ _ _ zF.nd rfl (Or.inl rfl) (@zg _ _ _ _ _ _ _ _ (@zD _) (@zg _ _ _ _ _ _ _ _ (@zq _) (@pvx _ 5 _ _ rfl) (@zC _ _ _ _ _ _ _ (@zbD _) (@pvx _ 4 _ _ rfl) (@zg _ _ _ _ _ _ _ _ (@zq _) (@pvx _ 8 _ _ rfl) (@ze _ _ _ _)) (fun _ _ => rfl))) (@zg _ _ _ _ _ _ _ _ (@zu _) (@ze _ _ _ _) (@zg _ _ _ _ _ _ _ _ (@zD _) (@zg _ _ _ _ _ _ _ _ (@zD _) (@ze _ _ _ _) (@pvx _ 8 _ _ rfl)) (@pvx _ 8 _ _ rfl)))) (by rfl) (by trivial)) (by exact (@zf _ _ _ _ _ (@zl _ _ (9) _ _ _ _ zF.nd rfl (Or.inl rfl) (@zg _ _ _ _ _ _ _ _ (@zu _) (@zg _ _ _ _ _ _ _ _ (@zu _) (@pvx _ 9 _ _ rfl) (@zg _ _ _ _ _ _ _ _ (@zD _) (@zg _ _ _ _ _ _ _ _ (@zD _) (@ze _ _ _ _) (@zg _ _ _ _ _ _ _ _ (@zu _) (@pvx _ 8 _ _ rfl) (@ze _ _ _ _))) (@zg _ _ _ _ _ _ _ _ (@zu _) (@pvx _ 8 _ _ rfl) (@ze _ _ _ _)))) (@zg _ _ _ _ _ _ _ _ (@zD _) (@ze _ _ _ _) (@pvx _ 1 _ _ rfl))) (by rfl) (by trivial)) (by exact (@zf _ _ _ _ _ (@zl _ _ (9) _ _ _ _ zF.nd rfl (Or.inl rfl) (@zg _ _ _ _ _ _ _ _ (@zq _) (@pvx _ 9 _ _ rfl) (@zC _ _ _ _ _ _ _ (@zbD _) (@pvx _ 4 _ _ rfl) (@zg _ _ _ _ _ _ _ _ (@zq _) (@zg _ _ _ _ _ _ _ _ (@zu _) (@zg _ _ _ _ _ _ _ _ (@zD _) (@ze _ _ _ _) (@pvx _ 8 _ _ rfl)) (@pvx _ 1 _ _ rfl)) (@ze _ _ _ _)) (fun _ _ => rfl))) (by rfl) (by trivial)) (by exact (@zf _ _ _ _ _ (@zl _ _ (9) _ _ _ _ zF.nd rfl (Or.inl rfl) (@zg _ _ _ _ _ _ _ _ (@zq _) (@zg _ _ _ _ _ _ _ _ (@zD _) (@zg _ _ _ _ _ _ _ _ (@zD _) (@pvx _ 9 _ _ rfl) (@pvx _ 9 _ _ rfl)) (@pvx _ 9 _ _ rfl)) (@zC _ _ _ _ _ _ _ (@zbD _) (@pvx _ 4 _ _ rfl) (@zg _ _ _ _ _ _ _ _ (@zq _) (@zg _ _ _ _ _ _ _ _ (@zu _) (@pvx _ 8 _ _ rfl) (@ze _ _ _ _)) (@ze _ _ _ _)) (fun _ _ => rfl))) (by rfl) (by trivial)) (by exact (@zf _ _ _ _ _ (@zaY _ _ _ _ _ _ _ _ (@zR _ _ _ _ _ _ _ _ (@zgE _) (@pvx _ 6 _ _ rfl) (@ze _ _ _ _) (z6 _)) (@zj _ _ _ (@zl _ _ (9) _ _ _ _ zF.nd rfl (Or.inl rfl) (@pvx _ 6 _ _ rfl) (by rfl) (by trivial))) (@zab _)) (by exact (@zf _ _ _ _ _ (@zaO _ _ _ _ (@zbI _ _ _ _ _ _ _ _ _ _ _ _ PySem.F.plainAttrs_list PySem.F.slot_list_append PySem.F.type_list_append (@zaE _) (@pvx _ 7 _ _ rfl) (@za _ _ _ _ _ (@zg _ _ _ _ _ _ _ _ (@zq _) (@pvx _ 9 _ _ rfl) (@pvx _ 3 _ _ rfl)) (@zd _) (by rfl)) (by rfl) (by rfl) (by rfl) (by rfl) (by rfl)) (by rfl)) (by exact (@zj _ _ _ (@zl _ _ (6) _ _ _ _ zF.nd rfl (Or.inl rfl) (@zg _ _ _ _ _ _ _ _ (@zee _) (@pvx _ 6 _ _ rfl) (@pvx _ 3 _ _ rfl)) (by rfl) (by trivial))))))))))))))) (by intro _; rfl)) (by exact (@zj _ _ _ (@zB _ _ _ _ (@pvx _ 7 _ _ rfl))))))))))))))),?_⟩
  refine ⟨by show 8 ≤ sizeLine; rw [sizeLine_eq]; decide,fun tp ht => ?_⟩
  have s1 : zx H (upd H tp (.tup zgi)):=zb ht
  refine ⟨_,rfl,_,rfl,a,ns,k,rfl,s1.seq hS,hlen,k0,k1,fun c => ?_⟩
  refine ⟨_,rfl,_,_,rfl,rfl,⟨by decide,by decide,by decide⟩,_,_,rfl,rfl,_,rfl,?_⟩
  refine zbE (fun _ => ⟨_,rfl,?_⟩) (fun _ => ?_)
  all_goals
   refine ⟨Nat.zero_le _,fun l hl => ?_⟩
   have hln : H l = none:=zx.free s1 hl
   have htl : tp ≠ l:=zo zc hl
   refine ⟨_,rfl,many,rfl,by omega,by omega,zT (lo:=0) (n:=many.toNat) (fun i σ H' => ∃ (r : Int) (v8 v9 : Option V) (ds : List Int),σ = [some (.ref a),some (.int k),some (.int many),some (.int bs),some (.ref tp),some (.int c),some (.int r),some (.ref l),v8,v9] ∧ zcO i bs ds ∧ zx H H' ∧ H' tp = some (.tup zgi) ∧ H' l = some (.lst (ds.map V.int)))
    ⟨_,none,none,[],rfl,⟨rfl,by simp⟩,zQ s1 hln,by rw [zk htl]; exact zc,zc⟩ ?_ ?_⟩
   ·rintro i σ H2 hi ⟨r,v8,v9,ds,rfl,hd,s2,htp,hrow⟩
    obtain ⟨q1,e1,q1p,q1l⟩:=zb4 (0 + (i : Int))
    obtain ⟨q2,e2,q2p,q2l⟩:=zb4 (3 * (0 + (i : Int)) + k)
    obtain ⟨q3,e3,q3p,q3l⟩:=zb4 (0 + (i : Int) + 5)
    have c1:=Int.emod_nonneg c (show q1 ≠ 0 by omega)
    have c2:=Int.emod_lt_of_pos c q1p
    have hi' : (i : Int) < 1000:=by omega
    refine ⟨_,rfl,_,rfl,_,rfl,_,_,rfl,rfl,(by show (0 : Int) < 8; decide),tp,_,_,_,rfl,rfl,SqT.of htp,e1,_,_,rfl,rfl,q1p,_,rfl,_,_,rfl,rfl,.inl ⟨by decide,by decide⟩,_,rfl,_,_,rfl,rfl,.inl ⟨by omega,by omega⟩,_,_,rfl,rfl,_,_,rfl,rfl,.inl ⟨by omega,by omega⟩,?_⟩
    refine ⟨_,rfl,_,rfl,_,_,rfl,rfl,_,_,rfl,rfl,.inl ⟨by decide,by decide⟩,_,rfl,_,_,rfl,rfl,_,_,rfl,rfl,.inl ⟨by omega,by omega⟩,_,_,rfl,rfl,_,rfl,_,_,rfl,rfl,.inl ⟨by decide,by decide⟩,_,_,rfl,rfl,?_⟩
    refine ⟨_,rfl,_,rfl,_,rfl,_,_,rfl,rfl,.inl ⟨by decide,by decide⟩,_,rfl,_,_,rfl,rfl,_,_,rfl,rfl,(by show (0 : Int) < 8; decide),tp,_,_,_,rfl,rfl,SqT.of htp,e2,_,_,rfl,rfl,q2p,?_⟩
    generalize c % q1 * (48271 + 2 * (0 + (i : Int)) * (0 + (i : Int))) + 7919 * (0 + (i : Int) + 1) * (0 + (i : Int) + 1) + 104729 * k = ms
    have d1:=Int.emod_nonneg ms (show q2 ≠ 0 by omega)
    have d2:=Int.emod_lt_of_pos ms q2p
    refine ⟨_,rfl,_,rfl,_,_,rfl,rfl,.inl ⟨by omega,by omega⟩,_,rfl,_,_,rfl,rfl,.inr ⟨by omega,by omega⟩,_,rfl,_,rfl,_,_,rfl,rfl,_,_,rfl,rfl,(by show (0 : Int) < 8; decide),tp,_,_,_,rfl,rfl,SqT.of htp,e3,_,_,rfl,rfl,q3p,?_⟩
    refine ⟨_,rfl,_,_,rfl,rfl,_,rfl,?_⟩
    have hdl:=hd.1
    refine zbE (fun _ => ⟨_,rfl,?_⟩) (fun _ => ?_)
    all_goals
     refine ⟨_,rfl,.inl ⟨rfl,_,SqL.of hrow⟩,_,rfl,_,rfl,_,_,rfl,rfl,b0,l,_,_,rfl,rfl,hrow,zat (by rw [List.length_map]; omega),?_⟩
     refine ⟨_,rfl,_,rfl,_,_,rfl,rfl,⟨b0,b1⟩,?_⟩
     refine ⟨_,_,_,ds ++ [_],rfl,⟨by rw [List.length_append,hdl]; rfl,fun d hm => ?_⟩,zQ s2 hln,by rw [zk htl]; exact htp,by rw [zc,List.map_append]; rfl⟩; rcases List.mem_append.mp hm with hm | hm
     ·exact hd.2 d hm
     ·have e:=List.mem_singleton.mp hm
      rw [e]
      exact ⟨Int.emod_nonneg _ (by omega),Int.emod_lt_of_pos _ b0⟩
   ·rintro σ H2 ⟨r,v8,v9,ds,rfl,hd,s2,htp,hrow⟩
    exact ⟨_,rfl,q l ds H2 hln s2 hd hrow⟩
theorem zaf : FnScope ["script","at","most_k","most_n","plan","primes","p","k","many","left"] ["script","at","most_k","most_n"] (zh zbb):=⟨rfl,rfl,rfl,by decide +kernel,rfl,by decide +kernel,by decide +kernel⟩
theorem zeV {fd : FuncData} (T : Txt K mg t) (F : Fun K "_law_code" "_law_code" zbb t.l_code fd) : FnOk P w K mg base CX0 3 t.l_code fd ["script","at","most_k","most_n"] (zeL K):=by
 obtain ⟨fd_l_draws,F_l_draws,b_l_draws⟩:=T.f_l_draws
 have G_l_draws:=zbs (P:=P) (w:=w) (base:=base) T F_l_draws
 refine F.ok zaf (fun vs H Q E h => ?_) (fun cdv A outer s H vs Q E hr h => ?_)
 ·obtain ⟨a,ns,at',mk,mn,rfl,_⟩:=h
  rfl
 ·obtain ⟨a,ns,at',mk,mn,rfl,hS,hlen,a0,a1,k1,k5,kn,n16,q⟩:=h
  refine ⟨_,(@zf _ _ _ _ _ (@zl _ _ (4) _ _ _ _ zaf.nd rfl (Or.inr rfl) (@zm _ _ _ _ _ _ _ _ _ _ _ _ _ _ _ _ G_l_draws (hr.mono (by decide)) rfl T.m_l_draws F_l_draws.kp b_l_draws .nil (@zH _) (@za _ _ _ _ _ (@pvx _ 0 _ _ rfl) (by exact (@za _ _ _ _ _ (@pvx _ 1 _ _ rfl) (@za _ _ _ _ _ (@ze _ _ _ _) (@za _ _ _ _ _ (@ze _ _ _ _) (@zd _) (by rfl)) (by rfl)) (by rfl))) (by rfl)) (by decide) (by rfl) (by rfl)) (by rfl) (by trivial)) (by exact (by exact (@zfr _ 5 _ _ _ _ _ _ _ [5,7,11,13,17,19,23,29,31,37,41,43,47,53,59,61,67,71,73,79,83,89,97] (by decide +kernel) zaf.nd rfl (Or.inl rfl) (by first | exact .inl rfl | exact .inr rfl) (by exact (@zf _ _ _ _ _ (@zl _ _ (6) _ _ _ _ zaf.nd rfl (Or.inl rfl) (@zC _ _ _ _ _ _ _ (@zr _) (@zad _ _ _ _ (@za _ _ _ _ _ (@zC _ _ _ _ _ _ _ (@zr _) (@pvx _ 5 _ _ rfl) (@zg _ _ _ _ _ _ _ _ (@zq _) (@zC _ _ _ _ _ _ _ (@zr _) (@pvx _ 4 _ _ rfl) (@ze _ _ _ _) (fun _ _ => rfl)) (@ze _ _ _ _)) (fun _ _ => rfl)) (@za _ _ _ _ _ (@zC _ _ _ _ _ _ _ (@zr _) (@pvx _ 5 _ _ rfl) (@zg _ _ _ _ _ _ _ _ (@zq _) (@zC _ _ _ _ _ _ _ (@zr _) (@pvx _ 4 _ _ rfl) (@ze _ _ _ _) (fun _ _ => rfl)) (@ze _ _ _ _)) (fun _ _ => rfl)) (@zd _) (by rfl)) (by rfl))) (@zg _ _ _ _ _ _ _ _ (@zq _) (@zC _ _ _ _ _ _ _ (@zr _) (@pvx _ 4 _ _ rfl) (@ze _ _ _ _) (fun _ _ => rfl)) (@ze _ _ _ _)) (fun _ _ => rfl)) (by rfl) (by trivial)) (by exact (@zf _ _ _ _ _ (@zl _ _ (7) _ _ _ _ zaf.nd rfl (Or.inl rfl) (@zg _ _ _ _ _ _ _ _ (@zu _) (@ze _ _ _ _) (@zg _ _ _ _ _ _ _ _ (@zq _) (@zC _ _ _ _ _ _ _ (@zr _) (@pvx _ 4 _ _ rfl) (@ze _ _ _ _) (fun _ _ => rfl)) (@zp _ _ _ _ _ _ _ _ _ (@zcl _ rfl) (by rfl) T.min_ boot_min (@za _ _ _ _ _ (@pvx _ 2 _ _ rfl) (@za _ _ _ _ _ (@pvx _ 6 _ _ rfl) (@zd _) (by rfl)) (by rfl)) (by decide) (by decide) (by rfl) (by rfl)))) (by rfl) (by trivial)) (by exact (@zf _ _ _ _ _ (@zl _ _ (8) _ _ _ _ zaf.nd rfl (Or.inl rfl) (@zg _ _ _ _ _ _ _ _ (@zu _) (@pvx _ 7 _ _ rfl) (@zg _ _ _ _ _ _ _ _ (@zq _) (@zC _ _ _ _ _ _ _ (@zr _) (@pvx _ 4 _ _ rfl) (@ze _ _ _ _) (fun _ _ => rfl)) (@zg _ _ _ _ _ _ _ _ (@zu _) (@zg _ _ _ _ _ _ _ _ (@zas _) (@zp _ _ _ _ _ _ _ _ _ (@zcl _ rfl) (by rfl) T.min_ boot_min (@za _ _ _ _ _ (@pvx _ 3 _ _ rfl) (@za _ _ _ _ _ (@pvx _ 6 _ _ rfl) (@zd _) (by rfl)) (by rfl)) (by decide) (by decide) (by rfl) (by rfl)) (@pvx _ 7 _ _ rfl)) (@ze _ _ _ _)))) (by rfl) (by trivial)) (by exact (@zf _ _ _ _ _ (@zl _ _ (9) _ _ _ _ zaf.nd rfl (Or.inr rfl) (@zM _ _ _ _ _ _ _ _ _ (@zcf _ rfl) (by rfl) T.list_ boot_list (@za _ _ _ _ _ (@zM _ _ _ _ _ _ _ _ _ (@zdd _) (by rfl) T.range_ boot_range (@za _ _ _ _ _ (@pvx _ 6 _ _ rfl) (@zd _) (by rfl)) (by decide) (by decide) (by rfl) (by rfl)) (@zd _) (by rfl)) (by decide) (by decide) (by rfl) (by rfl)) (by rfl) (by trivial)) (by exact (@zj _ _ _ (@zB _ _ _ _ (@zaA _ _ _ _ _ (@za _ _ _ _ _ (@pvx _ 6 _ _ rfl) (@za _ _ _ _ _ (@pvx _ 7 _ _ rfl) (@za _ _ _ _ _ (@zM _ _ _ _ _ _ _ _ _ (@zP _) (by rfl) T.tuple_ boot_tuple (@za _ _ _ _ _ (@zL _ _ _ _ _ _ _ _ _ _ _ _ _ (CompSc.of (N':=["j","left","plan"]) (ix:=[none,some 9,some 4]) (zh zbb) ["script","at","most_k","most_n","plan","primes","p","k","many","left"] rfl rfl (by decide +kernel)) rfl (@zY _ _ rfl) (@zS _ _ _ _ _ _ rfl T.range_ (@za _ _ _ _ _ (@pvx _ 8 _ _ rfl) (@zd _) (by rfl)) (by rfl)) (fun _ _ _ _ => (@zi _ _ (0) _ (show (["j","left","plan"] : List Str).Nodup by decide +kernel) rfl (Or.inl rfl) (by trivial))) (fun _ _ _ _ => (@zI _)) (fun _ _ _ _ => (@zhb _ (K) _ _ _ _ _ _ _ _ _ _ _ rfl PySem.F.plainAttrs_list PySem.F.slot_list_pop PySem.F.type_list_pop (@zfc _) (@pvx _ 1 _ _ rfl) (@za _ _ _ _ _ (@zg _ _ _ _ _ _ _ _ (@zq _) (@zC _ _ _ _ _ _ _ (@zdf _ (K) rfl) (@pvx _ 2 _ _ rfl) (@zg _ _ _ _ _ _ _ _ (@zu _) (@ze _ _ _ _) (@pvx _ 0 _ _ rfl)) (fun _ _ => rfl)) (@zp _ _ _ _ _ _ _ _ _ (@zU _ (K) rfl) (by rfl) T.len_ boot_len (@za _ _ _ _ _ (@pvx _ 1 _ _ rfl) (@zd _) (by rfl)) (by decide) (by decide) (by rfl) (by rfl))) (@zd _) (by rfl)) (by rfl) (by rfl) (by rfl) (by rfl) (by rfl))) (by intro _; rfl)) (@zd _) (by rfl)) (by decide) (by decide) (by rfl) (by rfl)) (@zd _) (by rfl)) (by rfl)) (by rfl)))))))))))))))))),?_⟩
  refine ⟨_,rfl,_,rfl,a,ns,at',20,27720,rfl,hS,hlen,a0,a1,by decide,by decide,by decide,by decide,fun l ds H1 hl s1 hd hpl => ?_⟩
  have hdl : ds.length = 20:=hd.1
  have dat : ∀ m : Int,0 ≤ m → m < 20 → ∃ c : Int,atI (ds.map V.int) m = some (.int c):=fun m h0 h1 => zcN h0 (by omega)
  refine ⟨by show 23 ≤ sizeLine; rw [sizeLine_eq]; decide,fun pr hpr => ?_⟩
  have hlpr : l ≠ pr:=zo hpl hpr
  obtain ⟨d0,ed0⟩:=dat 0 (by decide) (by decide)
  obtain ⟨d1,ed1⟩:=dat 1 (by decide) (by decide)
  obtain ⟨d2,ed2⟩:=dat 2 (by decide) (by decide)
  obtain ⟨d3,ed3⟩:=dat 3 (by decide) (by decide)
  have hp2 : (upd H1 pr (.lst (zac.map V.int))) l = some (.lst (ds.map V.int)):=by rw [zk hlpr]; exact hpl
  obtain ⟨p1,mp1,ep1⟩:=zfu (ns:=zac) (k:=d0 % 23) (Int.emod_nonneg _ (by decide)) (Int.emod_lt_of_pos _ (by decide))
  obtain ⟨p2,mp2,ep2⟩:=zfu (ns:=zac) (k:=d0 % 3) (Int.emod_nonneg _ (by decide)) (by have:=Int.emod_lt_of_pos d0 (show (0 : Int) < 3 by decide); have e : (zac.length : Int) = 23:=rfl; omega)
  obtain ⟨p,ep,hpp⟩:=zhc (x:=p1) (y:=p2) (m:=d1 % 2) (Int.emod_nonneg _ (by decide)) (Int.emod_lt_of_pos _ (by decide))
  have mp : p ∈ zac:=by rcases hpp with e | e <;> rw [e] <;> assumption
  have rp:=zcw mp
  refine ⟨_,rfl,_,rfl,l,_,_,_,rfl,rfl,SqL.of hp2,ed0,_,_,rfl,rfl,(by show (0 : Int) < 23; decide),pr,_,_,_,rfl,rfl,SqL.of zc,ep1,
   _,rfl,_,rfl,l,_,_,_,rfl,rfl,SqL.of hp2,ed0,_,_,rfl,rfl,(by show (0 : Int) < 3; decide),pr,_,_,_,rfl,rfl,SqL.of zc,ep2,za4,fun l2 hl2 => ?_⟩
  have hll2 : l ≠ l2:=zo hp2 hl2
  have hp3 : (upd (upd H1 pr (.lst (zac.map V.int))) l2 (.lst [.int p1,.int p2])) l = some (.lst (ds.map V.int)):=by rw [zk hll2]; exact hp2
  refine ⟨_,rfl,l,_,_,_,rfl,rfl,SqL.of hp3,ed1,_,_,rfl,rfl,(by show (0 : Int) < 2; decide),l2,_,_,_,rfl,rfl,SqL.of zc,ep,?_⟩
  have hm1 : (0 : Int) < (if p < mk then p else mk):=by split <;> omega
  have hm2 : (if p < mk then p else mk) ≤ mk:=by split <;> omega
  have hm3 : (if p < mk then p else mk) ≤ p:=by split <;> omega
  refine ⟨_,rfl,l,_,_,_,rfl,rfl,SqL.of hp3,ed2,_,rfl,_,rfl,_,_,rfl,_,_,rfl,rfl,hm1,_,_,rfl,rfl,?_⟩
  generalize (if p < mk then p else mk) = mm at hm1 hm2 hm3 ⊢
  have hk0:=Int.emod_nonneg d2 (show mm ≠ 0 by omega)
  have hk1:=Int.emod_lt_of_pos d2 hm1
  have hn1 : (if p < mn then p else mn) ≤ mn:=by split <;> omega
  have hn2 : (if p < mn then p else mn) ≤ p:=by split <;> omega
  have hn3 : mm ≤ (if p < mn then p else mn):=by split <;> omega
  refine ⟨_,rfl,_,rfl,l,_,_,_,rfl,rfl,SqL.of hp3,ed3,_,rfl,_,rfl,_,_,rfl,_,rfl,_,_,rfl,rfl,_,_,rfl,rfl,_,_,rfl,rfl,(by omega),_,_,rfl,rfl,?_⟩
  generalize (if p < mn then p else mn) = nn at hn1 hn2 hn3 ⊢
  have hq0:=Int.emod_nonneg d3 (show nn - (1 + d2 % mm) + 1 ≠ 0 by omega)
  have hq1:=Int.emod_lt_of_pos d3 (show 0 < nn - (1 + d2 % mm) + 1 by omega)
  refine ⟨_,rfl,p,rfl,fun r hr2 => ⟨r,p,rfl,zc,by omega,by omega,fun lf hlf => ?_⟩⟩
  have hlr : l ≠ r:=zo hp3 hr2
  have hlf1 : l ≠ lf:=by
   refine zo (H:=upd (upd (upd H1 pr (.lst (zac.map V.int))) l2 (.lst [.int p1,.int p2])) r (.rng 0 p)) (o:=.lst (ds.map V.int)) ?_ hlf
   rw [zk hlr]; exact hp3
  have sA : zx H (upd (upd H1 pr (.lst (zac.map V.int))) l2 (.lst [.int p1,.int p2])):=(s1.trans (zb hpr)).trans (zb hl2)
  have sB:=(sA.trans (zb (o:=.rng 0 p) hr2)).trans (zb (o:=.lst ((zaC 0 p.toNat).map V.int)) hlf)
  have hlfH : H lf = none:=(sA.trans (zb (o:=.rng 0 p) hr2)).free hlf
  obtain ⟨nd0,rg0⟩:=zeM p
  refine ⟨_,rfl,_,rfl,_,rfl,_,rfl,by omega,by omega,z5 (n:=(1 + d2 % mm + d3 % (nn - (1 + d2 % mm) + 1)).toNat) (fun i ys H' => ∃ xs ls : List Int,ys = xs.map V.int ∧ xs.length = i ∧ zx H H' ∧ H' l = some (.lst (ds.map V.int)) ∧ H' lf = some (.lst (ls.map V.int)) ∧ ls.length + i = p.toNat ∧ (xs ++ ls).Nodup ∧ ∀ y ∈ xs ++ ls,0 ≤ y ∧ y < p)
   ⟨[],zaC 0 p.toNat,rfl,rfl,sB,by rw [zk hlf1,zk hlr]; exact hp3,zc,by rw [zbo]; rfl,by simpa using nd0,by simpa using rg0⟩ (fun i ys H' hi _ => hi) (fun ys H' _ => Nat.le_refl _) ?_ ?_⟩
  ·rintro i x ys H4 H5 hi ⟨xs,ls,rfl,hxl,s4,hpl4,hlf4,hll,nd,rg⟩ ⟨rfl,rfl⟩
   refine gY ?_
   obtain ⟨c,ec⟩:=dat (4 + (0 + (i : Int))) (by omega) (by omega)
   have lpos : 0 < ls.length:=by omega
   have lm : ((ls.map V.int).length : Int) = (ls.length : Int):=by rw [List.length_map]
   have c0:=Int.emod_nonneg c (show (ls.length : Int) ≠ 0 by omega)
   have c1:=Int.emod_lt_of_pos c (show (0 : Int) < ls.length by omega)
   have hsl:=sizeLine_eq
   obtain ⟨y,ey⟩ : ∃ y,ls[(c % (ls.length : Int)).toNat]? = some y:=⟨ls[(c % (ls.length : Int)).toNat]'(by omega),by simp⟩
   refine ⟨_,rfl,.inl ⟨rfl,_,SqL.of hlf4⟩,_,rfl,_,rfl,_,_,rfl,rfl,l,_,_,_,rfl,rfl,SqL.of hpl4,ec,_,rfl,lf,_,rfl,.inl (SqL.of hlf4),_,_,rfl,rfl,(by rw [lm]; omega),lf,_,_,(c % (ls.length : Int)).toNat,.int y,rfl,rfl,hlf4,?_⟩
   rw [lm]
   refine ⟨by omega,by omega,by rw [List.length_map]; exact seqIndex_of c0 c1,by rw [List.getElem?_map,ey]; rfl,zat (by rw [List.length_map]; omega),xs ++ [y],ls.eraseIdx (c % (ls.length : Int)).toNat,by rw [List.map_append]; rfl,by rw [List.length_append,hxl]; rfl,zQ s4 hlfH,by rw [zk hlf1]; exact hpl4,by rw [zc,zcx],?_,zgk ey nd rg⟩
   rw [List.length_eraseIdx]
   split <;> omega
  ·rintro ys H4 D ⟨xs,ls,rfl,hxl,s4,hpl4,hlf4,hll,nd,rg⟩ hD
   refine ⟨D,_,rfl,.inl ⟨SqL.of zc,fun tt htt => ⟨by show 3 ≤ sizeLine; rw [sizeLine_eq]; decide,fun c hc => ?_⟩⟩⟩
   have s5:=(s4.trans (zb (o:=.lst (xs.map V.int)) hD)).trans (zb (o:=.tup (xs.map V.int)) htt)
   refine q c tt p _ xs _ (s5.free hc) (s5.trans (zb hc)) ⟨mp,by omega,by omega,by omega,by omega,(List.nodup_append.mp nd).1,fun y hy => rg y (List.mem_append_left _ hy)⟩ zc ?_
   rw [zk (zo zc hc)]
   exact zc
theorem zdV : FnScope ["found"] ["found"] (zh zbh):=⟨rfl,rfl,rfl,by decide +kernel,rfl,by decide +kernel,by decide +kernel⟩
theorem zdW {fd : FuncData} (T : Txt K mg t) (F : Fun K "_law_whole" "_law_whole" zbh t.l_whole fd) : FnOk P w K mg base CX0 1 t.l_whole fd ["found"] (zdQ K):=by
 refine F.ok zdV (fun vs H Q E h => ?_) (fun cdv A outer s H vs Q E hr h => ?_)
 ·obtain ⟨i,rfl,_⟩:=h
  rfl
 ·obtain ⟨i,rfl,q⟩:=h
  refine ⟨_,(@zj _ _ _ (@zB _ _ _ _ (@zgT _ _ _ _ _ _ _ (@zp _ _ _ _ _ _ _ _ _ (@za6 _) (by rfl) T.isinstance_ boot_isinstance (@za _ _ _ _ _ (@pvx _ 0 _ _ rfl) (@za _ _ _ _ _ (@zcC _ _ (.ty "int") _ _ rfl T.int_ boot_int rfl (by decide) (by decide)) (@zd _) (by rfl)) (by rfl)) (by decide) (by decide) (by rfl) (by rfl)) (@zgS _ _ _ _ _ (@zgU _ _ _ _ (@zp _ _ _ _ _ _ _ _ _ (@za6 _) (by rfl) T.isinstance_ boot_isinstance (@za _ _ _ _ _ (@pvx _ 0 _ _ rfl) (@za _ _ _ _ _ (@zcC _ _ (.ty "bool") _ _ rfl T.bool_ boot_bool rfl (by decide) (by decide)) (@zd _) (by rfl)) (by rfl)) (by decide) (by decide) (by rfl) (by rfl))))))),?_⟩
  refine ⟨_,rfl,_,_,_,_,rfl,.int i,rfl,_,rfl,zia ?_⟩
  exact ⟨_,rfl,_,_,_,_,rfl,.int i,rfl,_,rfl,q⟩
theorem zag : FnScope ["p","polynomial","x","total","power","number"] ["p","polynomial","x"] (zh zbi):=⟨rfl,rfl,rfl,by decide +kernel,rfl,by decide +kernel,by decide +kernel⟩
theorem zdX {fd : FuncData} (T : Txt K mg t) (F : Fun K "_law_value" "_law_value" zbi t.l_value fd) : FnOk P w K mg base CX0 1 t.l_value fd ["p","polynomial","x"] (zdP K):=by
 refine F.ok zag (fun vs H Q E h => ?_) (fun cdv A outer s H vs Q E hr h => ?_)
 ·obtain ⟨p,x,a,cs,rfl,_⟩:=h
  rfl
 ·obtain ⟨p,x,a,cs,rfl,hS,p0,p1,x0,x1,q⟩:=h
  refine ⟨_,(@zf _ _ _ _ _ (@zl _ _ (3) _ _ _ _ zag.nd rfl (Or.inl rfl) (@ze _ _ _ _) (by rfl) (by trivial)) (by exact (@zf _ _ _ _ _ (@zl _ _ (4) _ _ _ _ zag.nd rfl (Or.inl rfl) (@ze _ _ _ _) (by rfl) (by trivial)) (by exact (@zf _ _ _ _ _ (@zZ _ _ _ _ _ _ _ _ PassesOwn.never rfl (@zfp _ _ _ _ (@pvx _ 1 _ _ rfl)) (@zi _ _ (5) _ zag.nd rfl (Or.inl rfl) (by trivial)) (@zf _ _ _ _ _ (@zl _ _ (3) _ _ _ _ zag.nd rfl (Or.inl rfl) (@zg _ _ _ _ _ _ _ _ (@zq _) (@zg _ _ _ _ _ _ _ _ (@zu _) (@pvx _ 3 _ _ rfl) (@zg _ _ _ _ _ _ _ _ (@zD _) (@pvx _ 5 _ _ rfl) (@pvx _ 4 _ _ rfl))) (@pvx _ 0 _ _ rfl)) (by rfl) (by trivial)) (by exact (@zj _ _ _ (@zl _ _ (4) _ _ _ _ zag.nd rfl (Or.inl rfl) (@zg _ _ _ _ _ _ _ _ (@zq _) (@zg _ _ _ _ _ _ _ _ (@zD _) (@pvx _ 4 _ _ rfl) (@pvx _ 2 _ _ rfl)) (@pvx _ 0 _ _ rfl)) (by rfl) (by trivial))))) (by intro _; rfl)) (by exact (@zj _ _ _ (@zB _ _ _ _ (@pvx _ 3 _ _ rfl))))))))),?_⟩
  refine ⟨_,rfl,a,rfl,?_⟩
  rcases hS with hS | hS
  ·refine .inl ⟨⟨_,hS⟩,zbZ (K:=K) (a:=a) (xs:=cs.map V.int) (fun i σ H' => H' = H ∧ ∃ (total power : Int) (nb : Option V),σ = [some (.int p),some (.ref a),some (.int x),some (.int total),some (.int power),nb] ∧ 0 ≤ power ∧ power ≤ 97 ∧ lv p x total power (cs.drop i) = lv p x 0 1 cs)
    ⟨rfl,0,1,none,rfl,by decide,by decide,rfl⟩ (fun i σ H' _ ⟨e,_⟩ => by rw [e]; exact hS) ?_ ?_⟩
   ·rintro i y σ H1 hy ⟨rfl,total,power,nb,rfl,w0,w1,hl⟩
    obtain ⟨c,rfl,hc⟩:=zan hy
    have m0:=Int.emod_nonneg (power * x) (show p ≠ 0 by omega)
    have m1:=Int.emod_lt_of_pos (power * x) p0
    refine ⟨_,rfl,_,rfl,_,rfl,_,_,rfl,rfl,.inr ⟨by omega,by omega⟩,_,_,rfl,rfl,_,rfl,_,_,rfl,rfl,p0,?_⟩
    refine ⟨_,rfl,_,rfl,_,_,rfl,rfl,.inl ⟨by omega,by omega⟩,_,rfl,_,_,rfl,rfl,p0,?_⟩
    exact ⟨rfl,_,_,_,rfl,m0,by omega,(zep hc).symm.trans hl⟩
   ·rintro σ H1 ⟨rfl,total,power,nb,rfl,w0,w1,hl⟩
    rw [List.length_map,List.drop_length] at hl
    have hl : total = lv p x 0 1 cs:=hl
    rw [zeo p0] at hl
    rw [← hl] at q
    exact ⟨_,rfl,q⟩
  ·refine .inr ⟨⟨_,hS⟩,zf2 (K:=K) (a:=a) (xs:=cs.map V.int) (fun i σ H' => H' = H ∧ ∃ (total power : Int) (nb : Option V),σ = [some (.int p),some (.ref a),some (.int x),some (.int total),some (.int power),nb] ∧ 0 ≤ power ∧ power ≤ 97 ∧ lv p x total power (cs.drop i) = lv p x 0 1 cs)
    ⟨rfl,0,1,none,rfl,by decide,by decide,rfl⟩ (fun i σ H' _ ⟨e,_⟩ => by rw [e]; exact hS) ?_ ?_⟩
   ·rintro i y σ H1 hy ⟨rfl,total,power,nb,rfl,w0,w1,hl⟩
    obtain ⟨c,rfl,hc⟩:=zan hy
    have m0:=Int.emod_nonneg (power * x) (show p ≠ 0 by omega)
    have m1:=Int.emod_lt_of_pos (power * x) p0
    refine ⟨_,rfl,_,rfl,_,rfl,_,_,rfl,rfl,.inr ⟨by omega,by omega⟩,_,_,rfl,rfl,_,rfl,_,_,rfl,rfl,p0,?_⟩
    refine ⟨_,rfl,_,rfl,_,_,rfl,rfl,.inl ⟨by omega,by omega⟩,_,rfl,_,_,rfl,rfl,p0,?_⟩
    exact ⟨rfl,_,_,_,rfl,m0,by omega,(zep hc).symm.trans hl⟩
   ·rintro σ H1 ⟨rfl,total,power,nb,rfl,w0,w1,hl⟩
    rw [List.length_map,List.drop_length] at hl
    have hl : total = lv p x 0 1 cs:=hl
    rw [zeo p0] at hl
    rw [← hl] at q
    exact ⟨_,rfl,q⟩
def zbn (p x : Int) (m : Nat) : List Int:=(List.range m).map fun i => x ^ i % p
theorem zcz (p x : Int) (m : Nat) : zbn p x (m + 1) = zbn p x m ++ [x ^ m % p]:=by
 unfold zbn
 rw [List.range_succ,List.map_append]
 rfl
theorem zbA (p x : Int) (m : Nat) : (zbn p x m).length = m:=by unfold zbn; rw [List.length_map,List.length_range]
theorem zcW {xs : List V} {v : V} : atI (xs ++ [v]) (-1) = some v:=by
 unfold atI ixN
 rw [if_neg (by decide),if_pos (by rw [List.length_append]; show -((xs.length + 1 : Nat) : Int) ≤ -1; omega)]
 show (xs ++ [v])[(-1 + ((xs ++ [v]).length : Int)).toNat]? = some v
 rw [List.length_append,show (-1 + ((xs.length + [v].length : Nat) : Int)).toNat = xs.length by show (-1 + ((xs.length + 1 : Nat) : Int)).toNat = _; omega,List.getElem?_append_right (Nat.le_refl _),Nat.sub_self]
 rfl
def zdm (K : PySem.W.Frag) : Sp:=fun vs H Q _ => ∃ (p x : Int) (m : Nat),vs = [.int p,.int x,.int (m : Int)] ∧ 5 ≤ p ∧ p ≤ 97 ∧ 0 ≤ x ∧ x < p ∧ 1 ≤ m ∧ m ≤ 1000 ∧
 ∀ (l : Addr) (H' : Hp),H l = none → zx H H' → H' l = some (.lst ((zbn p x m).map V.int)) → Q (.ref l) H'
theorem zbL : FnScope ["p","x","many","found"] ["p","x","many"] (zh zaT):=⟨rfl,rfl,rfl,by decide +kernel,rfl,by decide +kernel,by decide +kernel⟩
theorem zdn {fd : FuncData} (T : Txt K mg t) (F : Fun K "_law_powers" "_law_powers" zaT t.l_powers fd) : FnOk P w K mg base CX0 1 t.l_powers fd ["p","x","many"] (zdm K):=by
 refine F.ok zbL (fun vs H Q E h => ?_) (fun cdv A outer s H vs Q E hr h => ?_)
 ·obtain ⟨p,x,m,rfl,_⟩:=h
  rfl
 ·obtain ⟨p,x,m,rfl,p5,p97,x0,x1,m1,m2,q⟩:=h
  refine ⟨_,(@zf _ _ _ _ _ (@zl _ _ (3) _ _ _ _ zbL.nd rfl (Or.inl rfl) (@zad _ _ _ _ (@za _ _ _ _ _ (@ze _ _ _ _) (@zd _) (by rfl))) (by rfl) (by trivial)) (by exact (@zf _ _ _ _ _ (@ze9 _ _ _ _ _ _ PassesOwn.never (@zR _ _ _ _ _ _ _ _ (@zgD _) (@zp _ _ _ _ _ _ _ _ _ (@zw _) (by rfl) T.len_ boot_len (@za _ _ _ _ _ (@pvx _ 3 _ _ rfl) (@zd _) (by rfl)) (by decide) (by decide) (by rfl) (by rfl)) (@pvx _ 2 _ _ rfl) (z6 _)) (@zj _ _ _ (@zaO _ _ _ _ (@zbI _ _ _ _ _ _ _ _ _ _ _ _ PySem.F.plainAttrs_list PySem.F.slot_list_append PySem.F.type_list_append (@zaE _) (@pvx _ 3 _ _ rfl) (@za _ _ _ _ _ (@zg _ _ _ _ _ _ _ _ (@zq _) (@zg _ _ _ _ _ _ _ _ (@zD _) (@zC _ _ _ _ _ _ _ (@zr _) (@pvx _ 3 _ _ rfl) (@zed _ _ _ _ _ _ zcD (@ze _ _ _ _)) (fun _ _ => rfl)) (@pvx _ 1 _ _ rfl)) (@pvx _ 0 _ _ rfl)) (@zd _) (by rfl)) (by rfl) (by rfl) (by rfl) (by rfl) (by rfl)) (by rfl)))) (by exact (@zj _ _ _ (@zB _ _ _ _ (@zfb _ _ _ _ _ _ _ _ _ _ zga (@pvx _ 3 _ _ rfl) (@zf6 _) (@zf7 _ _ _ (@pvx _ 2 _ _ rfl))))))))),?_⟩
  have hsl:=sizeLine_eq
  refine ⟨by show 1 ≤ sizeLine; omega,fun l hl => ?_⟩
  have e1 : (zbn p x 1).map V.int = [V.int 1]:=by
   show [V.int (x ^ 0 % p)] = [V.int 1]
   rw [Int.pow_zero,Int.emod_eq_of_lt (by omega) (by omega)]
  refine ⟨fun μ σ H' => ∃ n : Nat,μ = m - n ∧ 1 ≤ n ∧ n ≤ m ∧ σ = [some (.int p),some (.int x),some (.int (m : Int)),some (.ref l)] ∧ zx H H' ∧ H' l = some (.lst ((zbn p x n).map V.int)),⟨m - 1,1,rfl,Nat.le_refl _,m1,rfl,zb hl,by rw [e1]; exact zc⟩,?_⟩
  rintro μ σ H1 ⟨n,rfl,n1,nm,rfl,s1,h1⟩
  refine ⟨_,rfl,l,_,rfl,.inl (SqL.of h1),_,rfl,_,_,rfl,rfl,_,rfl,?_⟩
  rw [List.length_map,zbA]
  refine zbE (fun hlt => ?_) (fun hge => ?_)
  ·have hlt:=of_decide_eq_true hlt
   have hlt : n < m:=by omega
   obtain ⟨n',rfl⟩ : ∃ n',n = n' + 1:=⟨n - 1,by omega⟩
   have g0:=Int.emod_nonneg (x ^ n') (show p ≠ 0 by omega)
   have g1:=Int.emod_lt_of_pos (x ^ n') (show 0 < p by omega)
   refine ⟨fun σ' H' => ∃ m',m' < m - (n' + 1) ∧ ∃ n : Nat,m' = m - n ∧ 1 ≤ n ∧ n ≤ m ∧ σ' = [some (.int p),some (.int x),some (.int (m : Int)),some (.ref l)] ∧ zx H H' ∧ H' l = some (.lst ((zbn p x n).map V.int)),fun _ _ z => z,?_⟩
   have hat : atI ((zbn p x (n' + 1)).map V.int) (-1) = some (.int (x ^ n' % p)):=by
    rw [zcz,List.map_append]
    exact zcW
   refine ⟨_,rfl,.inl ⟨rfl,_,SqL.of h1⟩,_,rfl,_,rfl,l,_,_,.int (x ^ n' % p),rfl,rfl,SqL.of h1,hat,_,rfl,_,_,rfl,rfl,.inl ⟨by omega,by omega⟩,_,rfl,_,_,rfl,rfl,by omega,l,_,_,rfl,rfl,h1,by rw [List.length_map,zbA]; omega,?_⟩
   refine ⟨m - (n' + 2),by omega,n' + 2,rfl,by omega,by omega,rfl,zQ s1 hl,?_⟩
   rw [zc,zcz p x (n' + 1),List.map_append]
   have : x ^ n' % p * x % p = x ^ (n' + 1) % p:=by
    rw [Int.pow_succ]
    exact ((Cg.emod p _).mul (Cg.refl p x)).mod_eq
   show some (HO.lst (_ ++ [V.int (x ^ n' % p * x % p)])) = _
   rw [this]
   rfl
  ·have hge : ¬ ((n : Int) < (m : Int)):=fun h => hge (decide_eq_true h)
   have hnm : n = m:=by omega
   subst hnm
   refine ⟨_,rfl,_,rfl,_,rfl,l,_,rfl,SqL.of h1,fun z hz => ?_⟩
   have ec : zeF ((zbn p x n).map V.int) none (some (n : Int)) = (zbn p x n).map V.int:=by
    unfold zeF
    rw [HT.sIx_nat,HT.sIx_none,List.drop_zero,Nat.sub_zero,List.length_map,zbA,Nat.min_self,List.take_of_length_le (by rw [List.length_map,zbA]; exact Nat.le_refl _)]
   rw [ec]
   exact q z _ (s1.free hz) (s1.trans (zb hz)) zc
end
end My
end
section
set_option maxHeartbeats 3999000
namespace My
open PySem L2 PyProof.Rows
section
variable {P : Program} {w : World} {K : PySem.W.Frag} {mg : Str → Option Value} {base : Heap} {t : Adr}
def RwA (H : Hp) : List Addr → List (List Int) → Prop:=Paired fun b v => H b = some (.lst (v.map V.int)) ∨ H b = some (.tup (v.map V.int))
def wd (rows : List (List Int)) : Nat:=rows.foldr (fun r m => max r.length m) 0
theorem zbB {rows : List (List Int)} {r : List Int} (h : r ∈ rows) : r.length ≤ wd rows:=by
 induction rows with
 | nil => cases h
 | cons a l ih =>
  show r.length ≤ max a.length (wd l)
  rcases (List.mem_cons.mp h) with rfl | h
  ·exact Nat.le_max_left _ _
  ·exact Nat.le_trans (ih h) (Nat.le_max_right _ _)
theorem zbG : ∀ {rows : List (List Int)},rows ≠ [] → ∃ r ∈ rows,r.length = wd rows
 | [],h => absurd rfl h
 | a :: l,_ => by
  by_cases e : l = []
  ·subst e; exact ⟨a,List.mem_cons_self,by show _ = max a.length 0; omega⟩
  ·obtain ⟨r,hr,er⟩:=zbG e
   by_cases h : wd l ≤ a.length
   ·exact ⟨a,List.mem_cons_self,by show _ = max a.length (wd l); omega⟩
   ·exact ⟨r,List.mem_cons_of_mem _ hr,by show _ = max a.length (wd l); omega⟩
def zG (rows : List (List Int)) : List Int:=rows.map fun r => (r.length : Int)
theorem zaV (rows : List (List Int)) : (zG rows).length = rows.length:=by simp [zG]
theorem zfR {rows : List (List Int)} {M : Int} (h0 : zG rows = [] → M = 0) (h1 : zG rows ≠ [] → M ∈ zG rows ∧ ∀ a ∈ zG rows,if true = true then a ≤ M else M ≤ a) : M = (wd rows : Int):=by
 by_cases e : rows = []
 ·subst e; exact h0 rfl
 ·obtain ⟨m1,m2⟩:=h1 (by simpa [zG] using e)
  obtain ⟨r,hr,rfl⟩:=List.mem_map.mp m1
  obtain ⟨r',hr',e'⟩:=zbG e
  have b1:=zbB hr
  have b2:=m2 _ (List.mem_map.mpr ⟨r',hr',rfl⟩)
  rw [if_pos rfl] at b2
  omega
def zdo (K : PySem.W.Frag) : Sp:=fun vs H Q _ => ∃ (a : Addr) (bs : List Addr) (rows : List (List Int)),vs = [.ref a] ∧ (SqL K H a (bs.map V.ref) ∨ SqT K H a (bs.map V.ref)) ∧ RwA H bs rows ∧ rows.length ≤ 1000 ∧
 ∀ H',zx H H' → Q (.int (wd rows)) H'
theorem zdp : FnScope ["curve"] ["curve"] (zh zau):=⟨rfl,rfl,rfl,by decide +kernel,rfl,by decide +kernel,by decide +kernel⟩
theorem zbM {fd : FuncData} (T : Txt K mg t) (F : Fun K "width_of" "width_of" zau t.width_of fd) : FnOk P w K mg base CX0 1 t.width_of fd ["curve"] (zdo K):=by
 refine F.ok zdp (fun vs H Q E h => ?_) (fun cdv A outer s H vs Q E hr h => ?_)
 ·obtain ⟨a,bs,rows,rfl,_⟩:=h
  rfl
 ·obtain ⟨a,bs,rows,rfl,ha,hb,hn,q⟩:=h
  refine ⟨_,(@zj _ _ _ (@zB _ _ _ _ (@zdT _ true _ _ _ _ _ _ _ _ _ _ _ rfl boot_max rfl T.max_ (@ze _ _ _ _) (@zL _ _ _ _ _ _ _ _ _ _ _ _ _ (CompSc.of (N':=["line"]) (ix:=[none]) (zh zau) ["curve"] rfl rfl (by decide +kernel)) rfl (@zY _ _ rfl) (@zfp _ _ _ _ (@pvx _ 0 _ _ rfl)) (fun _ _ _ _ => (@zi _ _ (0) _ (show (["line"] : List Str).Nodup by decide +kernel) rfl (Or.inl rfl) (by trivial))) (fun _ _ _ _ => (@zI _)) (fun _ _ _ _ => (@zp _ _ _ _ _ _ _ _ _ (@zU _ (K) rfl) (by rfl) T.len_ boot_len (@za _ _ _ _ _ (@pvx _ 0 _ _ rfl) (@zd _) (by rfl)) (by decide) (by decide) (by rfl) (by rfl))) (by intro _; rfl)) (by decide) (by decide)))),?_⟩
  have hlen:=Paired.length hb
  have el : ∀ (i : Nat) (x y : V),(bs.map V.ref)[i]? = some x → ((zG rows).map V.int)[i]? = some y → ∃ (b : Addr) (r : List Int),x = .ref b ∧ y = .int r.length ∧ (H b = some (.lst (r.map V.int)) ∨ H b = some (.tup (r.map V.int))):=by
   intro i x y hx hy
   obtain ⟨b,rfl,hbi⟩:=zO hx
   unfold zG at hy
   rw [List.getElem?_map,List.getElem?_map] at hy
   cases e : rows[i]? with
   | none => rw [e] at hy; simp at hy
   | some r =>
    rw [e] at hy
    obtain ⟨v,hv,hr⟩:=Paired.get hb hbi
    rw [e] at hv
    cases hv
    exact ⟨b,r,rfl,by simpa using hy.symm,hr⟩
  have fin : ∀ D,H D = none → ∃ (p : Addr) (ns : List Int),V.ref D = .ref p ∧ SqL K (upd H D (.lst ((zG rows).map V.int))) p (ns.map V.int) ∧ ∀ M : Int,(ns = [] → M = 0) → (ns ≠ [] → M ∈ ns ∧ ∀ a ∈ ns,if true = true then a ≤ M else M ≤ a) → Q (.int M) (upd H D (.lst ((zG rows).map V.int))):=fun D hD =>
   ⟨D,_,rfl,SqL.of zc,fun M h0 h1 => by rw [zfR h0 h1]; exact q _ (zb hD)⟩
  rcases ha with ha | ha
  ·refine ⟨_,rfl,a,rfl,.inl ⟨⟨_,ha⟩,zbf (fs:=(zG rows).map V.int) ha (by simp [hlen,zaV]) (by simp; omega) (fun i x y R B hx hy hR => ?_) fin⟩⟩
   obtain ⟨b,r,rfl,rfl,hr⟩:=el i x y hx hy
   exact ⟨_,rfl,b,_,rfl,hr.imp SqL.of SqT.of,by rw [List.length_map]; exact hR⟩
  ·refine ⟨_,rfl,a,rfl,.inr ⟨⟨_,ha⟩,zaG (fs:=(zG rows).map V.int) ha (by simp [hlen,zaV]) (by simp; omega) (fun i x y R B hx hy hR => ?_) fin⟩⟩
   obtain ⟨b,r,rfl,rfl,hr⟩:=el i x y hx hy
   exact ⟨_,rfl,b,_,rfl,hr.imp SqL.of SqT.of,by rw [List.length_map]; exact hR⟩
end
end My
end
section
set_option maxHeartbeats 3999000
namespace My
open PySem L2 PyProof.Rows
section
variable {P : Program} {w : World} {K : PySem.W.Frag} {mg : Str → Option Value} {base : Heap} {t : Adr}
theorem zdY : ∀ t,t < 13 → ∀ j,j < 14 → 0 ≤ ch t j ∧ ch t j ≤ 1000:=by decide +kernel
theorem ch0 (t : Nat) : ch t 0 = 1:=by cases t <;> rfl
def zdq (K : PySem.W.Frag) : Sp:=fun vs H Q _ => ∃ (m f : Nat),vs = [.int (m : Int),.int (f : Int)] ∧ m < 13 ∧ f < 13 ∧ Q (.int (ch m f)) H
theorem zaz : FnScope ["many","few","found","k"] ["many","few"] (zh zaU):=⟨rfl,rfl,rfl,by decide +kernel,rfl,by decide +kernel,by decide +kernel⟩
theorem zdr {fd : FuncData} (T : Txt K mg t) (F : Fun K "_law_choose" "_law_choose" zaU t.l_choose fd) : FnOk P w K mg base CX0 1 t.l_choose fd ["many","few"] (zdq K):=by
 refine F.ok zaz (fun vs H Q E h => ?_) (fun cdv A outer s H vs Q E hr h => ?_)
 ·obtain ⟨m,f,rfl,_⟩:=h
  rfl
 ·obtain ⟨m,f,rfl,hm,hf,q⟩:=h
  refine ⟨_,(@zf _ _ _ _ _ (@zl _ _ (2) _ _ _ _ zaz.nd rfl (Or.inl rfl) (@ze _ _ _ _) (by rfl) (by trivial)) (by exact (@zf _ _ _ _ _ (@zZ _ _ _ _ _ _ _ _ PassesOwn.never rfl (@zS _ _ _ _ _ _ rfl T.range_ (@za _ _ _ _ _ (@pvx _ 1 _ _ rfl) (@zd _) (by rfl)) (by rfl)) (@zi _ _ (3) _ zaz.nd rfl (Or.inl rfl) (by trivial)) (@zj _ _ _ (@zl _ _ (2) _ _ _ _ zaz.nd rfl (Or.inl rfl) (@zg _ _ _ _ _ _ _ _ (@zee _) (@zg _ _ _ _ _ _ _ _ (@zD _) (@pvx _ 2 _ _ rfl) (@zg _ _ _ _ _ _ _ _ (@zas _) (@pvx _ 0 _ _ rfl) (@pvx _ 3 _ _ rfl))) (@zg _ _ _ _ _ _ _ _ (@zu _) (@pvx _ 3 _ _ rfl) (@ze _ _ _ _))) (by rfl) (by trivial))) (by intro _; rfl)) (by exact (@zj _ _ _ (@zB _ _ _ _ (@pvx _ 2 _ _ rfl))))))),?_⟩
  refine ⟨_,rfl,(f : Int),rfl,by omega,by omega,zT (lo:=0) (n:=(f : Int).toNat) (fun i σ H' => H' = H ∧ ∃ e : Option V,σ = [some (.int (m : Int)),some (.int (f : Int)),some (.int (ch m i)),e]) ⟨rfl,none,by rw [ch0]; rfl⟩ ?_ ?_⟩
  ·rintro i σ H1 hi ⟨rfl,e,rfl⟩
   have hc:=zdY m hm i (by omega)
   refine ⟨_,rfl,_,rfl,_,rfl,_,_,rfl,rfl,_,_,rfl,rfl,.inl ⟨by omega,by omega⟩,_,rfl,_,_,rfl,rfl,_,_,rfl,rfl,⟨by omega,by omega⟩,?_⟩
   have e1 : ch m i * ((m : Int) - (0 + (i : Int))) / ((0 + (i : Int)) + 1) = ch m (i + 1):=by rw [Int.zero_add]; exact zhh
   refine ⟨rfl,some (.int (0 + (i : Int))),?_⟩
   rw [← e1]
   rfl
  ·rintro σ H1 ⟨rfl,e,rfl⟩
   have e1 : (f : Int).toNat = f:=by omega
   rw [e1]
   exact ⟨_,rfl,q⟩
end
end My
end
section
set_option maxHeartbeats 3999000
namespace My
open PySem L2 PyProof.Rows
section
variable {P : Program} {w : World} {K : PySem.W.Frag} {mg : Str → Option Value} {base : Heap} {t : Adr}
theorem LsA.off {H : Hp} {l : Addr} {ls : List Addr} {vv : List (List Int)} (h : LsA H ls vv) (hl : H l = some (.lst (ls.map V.ref))) : ∀ (i : Nat) (b : Addr),ls[i]? = some b → b ≠ l:=by
 rintro i b hb rfl
 obtain ⟨v,_,hv⟩:=Paired.get h hb
 rw [hl] at hv
 cases ls with
 | nil => simp at hb
 | cons x r =>
  cases v with
  | nil => simp at hv
  | cons y z => simp at hv
theorem LsA.setAt {H : Hp} {l D : Addr} {ls : List Addr} {vv : List (List Int)} {v : List Int} {j : Nat} (h : LsA H ls vv) (hl : H l = some (.lst (ls.map V.ref))) (hD : H D = some (.lst (v.map V.int))) (hn : D ≠ l) {o : HO} : LsA (upd H l o) (ls.set j D) (vv.set j v):=by
 have off:=h.off hl
 clear hl
 induction h generalizing j with
 | nil => cases j <;> exact .nil
 | @cons b u bs us h1 h2 ih =>
  cases j with
  | zero =>
   refine .cons (by rw [zk hn]; exact hD) ?_
   have ih0 : LsA (upd H l o) bs us:=by
    have:=ih (j:=bs.length) fun i b' hb => off (i + 1) b' (by simpa using hb)
    rw [List.set_eq_of_length_le (Nat.le_refl _),List.set_eq_of_length_le (by rw [Paired.length h2]; exact Nat.le_refl _)] at this
    exact this
   exact ih0
  | succ j => exact .cons (by rw [zk (off 0 b (by simp))]; exact h1) (ih fun i b' hb => off (i + 1) b' (by simpa using hb))
def zeW (K : PySem.W.Frag) : Sp:=fun vs H Q _ => ∃ (p b : Int) (a : Addr) (bs : List Addr) (n w : Nat) (c : Nat → Nat → Int),vs = [.int p,.ref a,.int b] ∧ H a = some (.lst (bs.map V.ref)) ∧ LsA H bs (zJ n w c) ∧ n ≤ 1000 ∧ w ≤ 1000 ∧ 5 ≤ p ∧ p ≤ 97 ∧ 0 ≤ b ∧ b < p ∧ (∀ j i,j < n → i < w → 0 ≤ c j i ∧ c j i < p) ∧
 ∀ (l : Addr) (ls : List Addr) (H' : Hp),H l = none → zx H H' → H' l = some (.lst (ls.map V.ref)) → LsA H' ls (zJ n w fun j i => sh b n (fun t => c t i) j % p) → Q (.ref l) H'
theorem zv (n w : Nat) (g : Nat → Nat → Int) : (zJ n w g).length = n:=by unfold zJ; rw [List.length_map,List.length_range]
theorem zbj : FnScope ["p","lines","by","first","at"] ["p","lines","by"] (zh zba):=⟨rfl,rfl,rfl,by decide +kernel,rfl,by decide +kernel,by decide +kernel⟩
theorem zeX {fd : FuncData} (T : Txt K mg t) (F : Fun K "raised" "raised" zba t.raised fd) : FnOk P w K mg base CX0 1 t.raised fd ["p","lines","by"] (zeW K):=by
 refine F.ok zbj (fun vs H Q E h => ?_) (fun cdv A outer s H vs Q E hr h => ?_)
 ·obtain ⟨p,b,a,bs,n,w',c,rfl,_⟩:=h
  rfl
 ·obtain ⟨p,b,a,bs,n,wi,c,rfl,ha,hb,hn,hw,p5,p97,b0,b1,hc,q⟩:=h
  refine ⟨_,(@zf _ _ _ _ _ (@zl _ _ (1) _ _ _ _ zbj.nd rfl (Or.inl rfl) (@zM _ _ _ _ _ _ _ _ _ (@zcG _) (by rfl) T.list_ boot_list (@za _ _ _ _ _ (@pvx _ 1 _ _ rfl) (@zd _) (by rfl)) (by decide) (by decide) (by rfl) (by rfl)) (by rfl) (by trivial)) (by exact (@zf _ _ _ _ _ (@zZ _ _ _ _ _ _ _ _ PassesOwn.never rfl (@zS _ _ _ _ _ _ rfl T.range_ (@za _ _ _ _ _ (@zp _ _ _ _ _ _ _ _ _ (@zw _) (by rfl) T.len_ boot_len (@za _ _ _ _ _ (@pvx _ 1 _ _ rfl) (@zd _) (by rfl)) (by decide) (by decide) (by rfl) (by rfl)) (@zd _) (by rfl)) (by rfl)) (@zi _ _ (3) _ zbj.nd rfl (Or.inl rfl) (by trivial)) (@zj _ _ _ (@zZ _ _ _ _ _ _ _ _ PassesOwn.never rfl (@zgs _ _ _ _ _ _ rfl T.reversed_ (@za _ _ _ _ _ (@zM _ _ _ _ _ _ _ _ _ (@zdk _) (by rfl) T.range_ boot_range (@za _ _ _ _ _ (@pvx _ 3 _ _ rfl) (@za _ _ _ _ _ (@zg _ _ _ _ _ _ _ _ (@zas _) (@zp _ _ _ _ _ _ _ _ _ (@zw _) (by rfl) T.len_ boot_len (@za _ _ _ _ _ (@pvx _ 1 _ _ rfl) (@zd _) (by rfl)) (by decide) (by decide) (by rfl) (by rfl)) (@ze _ _ _ _)) (@zd _) (by rfl)) (by rfl)) (by decide) (by decide) (by rfl) (by rfl)) (@zd _) (by rfl)) (by rfl)) (@zi _ _ (4) _ zbj.nd rfl (Or.inl rfl) (by trivial)) (@zj _ _ _ (@zbq _ _ _ _ _ _ (@zL _ _ _ _ _ _ _ _ _ _ _ _ _ (CompSc.of (N':=["low","high","by","p"]) (ix:=[none,none,some 2,some 0]) (zh zba) ["p","lines","by","first","at"] rfl rfl (by decide +kernel)) rfl (@zb2 _ _ _ _ (@z3 _ _ _ rfl (@z3 _ _ _ rfl (@zbv _)))) (@zgg _ _ _ _ _ _ _ _ _ rfl T.zip_ (@za _ _ _ _ _ (@zC _ _ _ _ _ _ _ (@zr _) (@pvx _ 1 _ _ rfl) (@pvx _ 4 _ _ rfl) (fun _ _ => rfl)) (@za _ _ _ _ _ (@zC _ _ _ _ _ _ _ (@zr _) (@pvx _ 1 _ _ rfl) (@zg _ _ _ _ _ _ _ _ (@zu _) (@pvx _ 4 _ _ rfl) (@ze _ _ _ _)) (fun _ _ => rfl)) (@zd _) (by rfl)) (by rfl)) (by rfl) (by rfl)) (fun _ _ _ _ => (@zaR _ (K) _ _ _ (2) _ rfl rfl (@zn _ _ _ _ _ (@zi _ _ (0) _ (show (["low","high","by","p"] : List Str).Nodup by decide +kernel) rfl (Or.inl rfl) (by trivial)) (@zn _ _ _ _ _ (@zi _ _ (1) _ (show (["low","high","by","p"] : List Str).Nodup by decide +kernel) rfl (Or.inl rfl) (by trivial)) (@zW _) (by rfl)) (by rfl)) (by rfl) (by rfl))) (fun _ _ _ _ => (@zI _)) (fun _ _ _ _ => (@zg _ _ _ _ _ _ _ _ (@zq _) (@zg _ _ _ _ _ _ _ _ (@zu _) (@pvx _ 0 _ _ rfl) (@zg _ _ _ _ _ _ _ _ (@zD _) (@pvx _ 2 _ _ rfl) (@pvx _ 1 _ _ rfl))) (@pvx _ 3 _ _ rfl))) (by intro _; rfl)) (@zdH _ _ _ _ _ _ _ (@pvx _ 1 _ _ rfl) (@pvx _ 4 _ _ rfl) set_list (by intro _; rfl)) (by rfl) (by rfl) (by rfl))) (by intro _; rfl))) (by intro _; rfl)) (by exact (@zj _ _ _ (@zB _ _ _ _ (@pvx _ 1 _ _ rfl))))))),?_⟩
  have hsl:=sizeLine_eq
  have hz : ∀ {H' : Hp} {ls : List Addr} {g : Nat → Nat → Int},LsA H' ls (zJ n wi g) → ((ls.map V.ref).length : Int) = (n : Int):=fun h => by rw [List.length_map,Paired.length h,zv]
  refine ⟨_,rfl,a,_,rfl,.inl (SqL.of ha),fun l hl => ?_⟩
  refine ⟨_,rfl,l,_,rfl,.inl (SqL.of zc),_,rfl,?_⟩
  rw [hz hb]
  refine ⟨by omega,by omega,zT (lo:=0) (n:=(n : Int).toNat) (fun f σ H' => ∃ (ls : List Addr) (e3 e4 : Option V),σ = [some (.int p),some (.ref l),some (.int b),e3,e4] ∧ zx H H' ∧ H' l = some (.lst (ls.map V.ref)) ∧ LsA H' ls (zJ n wi (rst p b n c f 0))) ⟨bs,none,none,rfl,zb hl,zc,?_⟩ ?_ ?_⟩
  ·rw [z9 (g':=c) fun j i hj hi => by rw [zeS hj]; exact Int.emod_eq_of_lt (hc j i hj hi).1 (hc j i hj hi).2]
   exact hb.same (zb hl)
  ·rintro f σ H1 hf ⟨ls,e3,e4,rfl,s1,h1l,hls⟩
   have hf : f < n:=by omega
   refine ⟨_,rfl,_,rfl,l,_,rfl,.inl (SqL.of h1l),_,_,rfl,rfl,?_⟩
   rw [hz hls]
   refine ⟨0 + (f : Int),(n : Int) - 1,rfl,fun r hr => ⟨r,0 + (f : Int),(n : Int) - 1,rfl,zc,⟨by omega,by omega,by omega,by omega⟩,?_⟩⟩
   have e0 : (0 + (f : Int)) + ((((n : Int) - 1 - (0 + (f : Int))).toNat : Nat) : Int) - 1 = (n : Int) - 2:=by omega
   have e1 : ((n : Int) - 1 - (0 + (f : Int))).toNat = n - 1 - f:=by omega
   rw [e0,e1]
   have rl : r ≠ l:=(zo h1l hr).symm
   refine zdR (hi:=(n : Int) - 2) (n:=n - 1 - f) (fun idx σ H' => ∃ (ls : List Addr) (e4 : Option V),σ = [some (.int p),some (.ref l),some (.int b),some (.int (0 + (f : Int))),e4] ∧ zx H H' ∧ H' l = some (.lst (ls.map V.ref)) ∧ LsA H' ls (zJ n wi (rst p b n c f idx))) ⟨ls,e4,rfl,s1.trans (zb hr),by rw [zk rl.symm]; exact h1l,hls.same (zb hr)⟩ ?_ ?_
   ·rintro idx σ H2 hi ⟨ls,e4,rfl,s2,h2l,hls⟩
    have hlen : ls.length = n:=by rw [Paired.length hls,zv]
    obtain ⟨b1',hb1⟩ : ∃ b',ls[n - 2 - idx]? = some b':=⟨ls[n - 2 - idx]'(by omega),by simp⟩
    obtain ⟨b2',hb2⟩ : ∃ b',ls[n - 2 - idx + 1]? = some b':=⟨ls[n - 2 - idx + 1]'(by omega),by simp⟩
    obtain ⟨v1,g1,h1⟩:=Paired.get hls hb1
    obtain ⟨v2,g2,h2⟩:=Paired.get hls hb2
    rw [zap (by omega)] at g1 g2
    cases g1
    cases g2
    have at1 : atI (ls.map V.ref) ((n : Int) - 2 - (idx : Int)) = some (.ref b1'):=by
     have e : (n : Int) - 2 - (idx : Int) = ((n - 2 - idx : Nat) : Int):=by omega
     rw [e]; exact zal (by rw [List.getElem?_map,hb1]; rfl)
    have at2 : atI (ls.map V.ref) ((n : Int) - 2 - (idx : Int) + 1) = some (.ref b2'):=by
     have e : (n : Int) - 2 - (idx : Int) + 1 = ((n - 2 - idx + 1 : Nat) : Int):=by omega
     rw [e]; exact zal (by rw [List.getElem?_map,hb2]; rfl)
    refine ⟨_,rfl,_,rfl,l,_,_,_,rfl,rfl,SqL.of h2l,at1,_,rfl,_,rfl,_,_,rfl,rfl,l,_,_,_,rfl,rfl,SqL.of h2l,at2,b1',b2',_,_,rfl,SqL.of h1,SqL.of h2,zeN (n:=wi) (f:=fun x y => (x + b * y) % p) h1 h2 (by simp) (by simp) (.inl (by simp)) (by omega) ?_ ?_⟩
    ·intro j u w H6 T R B hu hv s6 hT hR
     refine gY2 (SqT.of zc) ?_
     exact ⟨_,rfl,_,rfl,_,rfl,_,_,rfl,rfl,.inl ⟨by omega,by omega⟩,_,_,rfl,rfl,_,rfl,_,_,rfl,rfl,(by omega),hR⟩
    ·intro D H6 s6 hD
     rw [zeR]
     have h6l:=s6 _ _ h2l
     have dl : D ≠ l:=(zo h6l hD).symm
     have hj : ixN (ls.map V.ref).length ((n : Int) - 2 - (idx : Int)) = some (n - 2 - idx):=by
      unfold ixN
      rw [List.length_map,hlen,if_pos (by omega),if_pos (by omega)]
      congr 1
      omega
     refine ⟨_,rfl,_,rfl,l,_,_,_,rfl,rfl,by rw [zk dl.symm]; exact h6l,hj,ls.set (n - 2 - idx) D,_,rfl,?_,?_,?_⟩
     ·exact zQ ((s2.trans s6).trans (zb hD)) hl
     ·rw [zc,List.map_set]
     ·rw [z9 (g':=fun j i => if j = n - 2 - idx then (rst p b n c f idx (n - 2 - idx) i + b * rst p b n c f idx (n - 2 - idx + 1) i) % p else rst p b n c f idx j i) fun j i hj _ => zfQ hi hj,← zeQ]
      exact LsA.setAt (hls.same (s6.trans (zb hD))) (by rw [zk dl.symm]; exact h6l) zc dl
   ·rintro σ H2 ⟨ls,e4,rfl,s2,h2l,hls⟩
    rw [z9 (g':=rst p b n c (f + 1) 0) fun j i hj _ => zfP hf hj] at hls
    exact ⟨ls,_,_,rfl,s2,h2l,hls⟩
  ·rintro σ H1 ⟨ls,e3,e4,rfl,s1,h1l,hls⟩
   have e1 : (n : Int).toNat = n:=by omega
   rw [e1,z9 (g':=fun j i => sh b n (fun t => c t i) j % p) fun j i hj hi => zfO hj] at hls
   exact ⟨_,rfl,q l ls _ hl s1 h1l hls⟩
end
end My
end
section
set_option maxHeartbeats 3999000
namespace My
open PySem L2 PyProof.Rows
section
variable {P : Program} {w : World} {K : PySem.W.Frag} {mg : Str → Option Value} {base : Heap} {t : Adr}
theorem zeY {X : Cx} {K : PySem.W.Frag} {es : List Expr} {k : Nat} {tpos p pos : Pos} {a : Expr} {ta : TA} (hK : X.K = K) (hg : Gl X "enumerate") (hm : X.mg "enumerate" = none) (ha : PA X [a] ta) (hs : starEach [a] X.env = [(false,eval a X.env)]:=by rfl) :
  PI X (.Tuple es k tpos) (.Call (.Name "enumerate" p) [a] [] pos) (iEn (SqT K) ta):=by subst hK; exact zaF hg hm ha hs
def trm (j : Nat) (r : List Int) (m : Nat) : List (Int × Int):=((List.range m).filter fun i => gl r i ≠ 0).map fun i : Nat => ((i : Int),(j : Int))
def z0 (rows : List (List Int)) (m : Nat) : List (Int × Int):=(List.range m).flatMap fun j => trm j (rows.getD j []) (rows.getD j []).length
theorem zaL (j : Nat) (r : List Int) (m : Nat) : trm j r (m + 1) = if gl r m ≠ 0 then trm j r m ++ [((m : Int),(j : Int))] else trm j r m:=by
 unfold trm
 rw [List.range_succ,List.filter_append,List.map_append]
 by_cases h : gl r m = 0 <;> simp [h]
theorem zbk (rows : List (List Int)) (m : Nat) : z0 rows (m + 1) = z0 rows m ++ trm m (rows.getD m []) (rows.getD m []).length:=by
 unfold z0
 rw [List.range_succ,List.flatMap_append]
 simp
theorem zbl (j : Nat) (r : List Int) (m : Nat) : (trm j r m).length ≤ m:=by
 unfold trm
 rw [List.length_map]
 exact Nat.le_trans (List.length_filter_le _ _) (by simp)
theorem zaM {rows : List (List Int)} (h : ∀ r ∈ rows,r.length ≤ 100) : ∀ m,(z0 rows m).length ≤ 100 * m
 | 0 => by simp [z0]
 | m + 1 => by
  have ih:=zaM h m
  have hl : (rows.getD m []).length ≤ 100:=by
   cases e : rows[m]? with
   | none => simp [List.getD,e]
   | some r => simp only [List.getD,e,Option.getD_some]; exact h r (List.mem_of_getElem? e)
  have h2:=zbl m (rows.getD m []) (rows.getD m []).length
  rw [zbk,List.length_append]
  omega
def zds (K : PySem.W.Frag) : Sp:=fun vs H Q _ => ∃ (a : Addr) (bs : List Addr) (rows : List (List Int)),vs = [.ref a] ∧ H a = some (.tup (bs.map V.ref)) ∧ zae H bs rows ∧ rows.length ≤ 100 ∧ (∀ r ∈ rows,r.length ≤ 100) ∧
 ∀ (l : Addr) (ts : List Addr) (H' : Hp),H l = none → zx H H' → H' l = some (.lst (ts.map V.ref)) → PtB H' ts (z0 rows rows.length) → Q (.ref l) H'
theorem zdt : FnScope ["curve"] ["curve"] (zh zav):=⟨rfl,rfl,rfl,by decide +kernel,rfl,by decide +kernel,by decide +kernel⟩
theorem zbN {fd : FuncData} (T : Txt K mg t) (F : Fun K "terms_of" "terms_of" zav t.terms_of fd) : FnOk P w K mg base CX0 1 t.terms_of fd ["curve"] (zds K):=by
 refine F.ok zdt (fun vs H Q E h => ?_) (fun cdv A outer s H vs Q E hr h => ?_)
 ·obtain ⟨a,bs,rows,rfl,_⟩:=h
  rfl
 ·obtain ⟨a,bs,rows,rfl,ha,hb,hn,hw,q⟩:=h
  refine ⟨_,(@zj _ _ _ (@zB _ _ _ _ (@zgl _ _ _ _ _ _ _ _ _ _ _ _ _ _ _ _ _ _ _ _ _ (CompSc.of (N':=["j","line","i","number"]) (ix:=[none,none,none,none]) (zh zav) ["curve"] rfl rfl (by decide +kernel)) rfl (zdM (js:=[0,1]) (za2 (js:=[0,1]) (i:=0) (by decide) (za2 (js:=[0,1]) (i:=1) (by decide) (zcK (js:=[0,1]))))) (zdM (js:=[2,3]) (za2 (js:=[2,3]) (i:=2) (by decide) (za2 (js:=[2,3]) (i:=3) (by decide) (zcK (js:=[2,3]))))) (by decide) (by decide) (@zaF _ _ _ _ _ _ _ _ rfl T.enumerate_ (@za _ _ _ _ _ (@pvx _ 0 _ _ rfl) (@zd _) (by rfl)) (by rfl)) (fun _ _ _ _ => (@zaR _ (K) _ _ _ (2) _ rfl rfl (@zn _ _ _ _ _ (@zi _ _ (0) _ (show (["j","line","i","number"] : List Str).Nodup by decide +kernel) rfl (Or.inl rfl) (by trivial)) (@zn _ _ _ _ _ (@zi _ _ (1) _ (show (["j","line","i","number"] : List Str).Nodup by decide +kernel) rfl (Or.inl rfl) (by trivial)) (@zW _) (by rfl)) (by rfl)) (by rfl) (by rfl))) (fun _ _ _ _ => (@zI _)) (fun _ _ _ _ => (zeY (K:=K) rfl rfl T.enumerate_ (@za _ _ _ _ _ (@pvx _ 1 _ _ rfl) (@zd _) (by rfl)))) (fun _ _ _ _ => (@zaR _ (K) _ _ _ (2) _ rfl rfl (@zn _ _ _ _ _ (@zi _ _ (2) _ (show (["j","line","i","number"] : List Str).Nodup by decide +kernel) rfl (Or.inl rfl) (by trivial)) (@zn _ _ _ _ _ (@zi _ _ (3) _ (show (["j","line","i","number"] : List Str).Nodup by decide +kernel) rfl (Or.inl rfl) (by trivial)) (@zW _) (by rfl)) (by rfl)) (by rfl) (by rfl))) (fun _ _ _ _ => (@zb0 _ _ _ (@zR _ _ _ _ _ _ _ _ (@zck _) (@pvx _ 3 _ _ rfl) (@ze _ _ _ _) (z6 _)))) (fun _ _ _ _ => (@zaA _ _ _ _ _ (@za _ _ _ _ _ (@pvx _ 2 _ _ rfl) (@za _ _ _ _ _ (@pvx _ 0 _ _ rfl) (@zd _) (by rfl)) (by rfl)))) (by intro _; rfl) (by intros; rfl)))),?_⟩
  have hsl:=sizeLine_eq
  have hlen:=Paired.length hb
  refine ⟨_,rfl,a,_,rfl,SqT.of ha,zgH (n:=rows.length) (fun m ys H' => ∃ us : List Addr,ys = us.map V.ref ∧ zx H H' ∧ PtB H' us (z0 rows m)) ⟨[],rfl,fun _ _ e => e,.nil⟩ ?_ ?_ ?_ ?_⟩
  ·rintro m ys H1 hm ⟨us,rfl,s1,hus⟩
   exact ⟨_,.ref (bs[m]'(by omega)),SqT.of (s1 _ _ ha),by rw [List.getElem?_map,List.getElem?_eq_getElem (by omega)]; rfl⟩
  ·rintro ys H1 ⟨us,rfl,s1,hus⟩
   exact ⟨_,SqT.of (s1 _ _ ha),by rw [List.length_map]; omega⟩
  ·rintro m y ys H1 H2 hm ⟨us,rfl,s1,hus⟩ ⟨T,v,hT,rfl,rfl,hv⟩
   obtain ⟨b,rfl,hbm⟩:=zO (hv _ (SqT.of (s1 _ _ ha)))
   obtain ⟨r,hr,hrb⟩:=Paired.get hb hbm
   have hrl:=hw r (List.mem_of_getElem? hr)
   have er : rows.getD m [] = r:=by simp [List.getD,hr]
   refine gY2 (SqT.of zc) ?_
   have sT:=s1.trans (zb (o:=.tup [.int m,.ref b]) hT)
   have usT:=hus.same (zb (o:=.tup [.int m,.ref b]) hT)
   generalize upd H1 T (.tup [.int m,.ref b]) = H2 at sT usT ⊢
   have h2b:=sT _ _ hrb
   refine ⟨_,rfl,b,_,rfl,SqT.of h2b,zgH (n:=r.length) (fun j ys H' => ∃ us : List Addr,ys = us.map V.ref ∧ zx H2 H' ∧ PtB H' us (z0 rows m ++ trm m r j)) ⟨us,rfl,fun _ _ e => e,by simpa [trm] using usT⟩ ?_ ?_ ?_ ?_⟩
   ·rintro j ys H3 hj ⟨us,rfl,s3,_⟩
    exact ⟨_,.int (r[j]'hj),SqT.of (s3 _ _ h2b),by rw [List.getElem?_map,List.getElem?_eq_getElem hj]; rfl⟩
   ·rintro ys H3 ⟨us,rfl,s3,_⟩
    exact ⟨_,SqT.of (s3 _ _ h2b),by rw [List.length_map]; omega⟩
   ·rintro j z ys H3 H4 hj ⟨us,rfl,s3,hus3⟩ ⟨T',v',hT',rfl,rfl,hv'⟩
    obtain ⟨x,rfl,hx⟩:=zan (hv' _ (SqT.of (s3 _ _ h2b)))
    have hgx : gl r j = x:=zbp hx
    have sT':=s3.trans (zb (o:=.tup [.int j,.int x]) hT')
    have us':=hus3.same (zb (o:=.tup [.int j,.int x]) hT')
    have hul : us.length = (z0 rows m ++ trm m r j).length:=Paired.length hus3
    have l1:=zaM hw m
    have l2:=zbl m r j
    rw [List.length_append] at hul
    refine ⟨T',_,rfl,SqT.of zc,rfl,_,_,rfl,_,_,rfl,rfl,?_⟩
    generalize upd H3 T' (.tup [.int j,.int x]) = H4 at sT' us' ⊢
    refine ⟨_,rfl,?_⟩
    refine ⟨rfl,_,rfl,?_⟩
    refine zbE (fun hx0 => ?_) (fun hx0 => ?_)
    ·have hx0 : x ≠ 0:=by simpa using hx0
     refine ⟨_,rfl,_,rfl,by show 2 ≤ sizeLine; omega,fun D hD => ⟨by rw [List.length_map]; omega,us ++ [D],by rw [List.map_append]; rfl,sT'.trans (zb hD),?_⟩⟩
     rw [zaL,if_pos (by rw [hgx]; exact hx0),← List.append_assoc]
     exact Paired.snoc (us'.same (zb hD)) zc
    ·have hx0 : x = 0:=by simpa using hx0
     refine ⟨us,rfl,sT',?_⟩
     rw [zaL,if_neg (by rw [hgx,hx0]; simp)]
     exact us'
   ·rintro ys H3 ⟨us,rfl,s3,hus3⟩
    refine ⟨us,rfl,sT.trans s3,?_⟩
    rw [zbk,er]
    exact hus3
  ·rintro ys H1 ⟨us,rfl,s1,hus⟩ D hD
   exact q D us _ (s1.free hD) (s1.trans (zb hD)) zc (hus.same (zb hD))
end
end My
end
section
set_option maxHeartbeats 3999000
namespace My
open PySem L2 PyProof.Rows
section
variable {P : Program} {w : World} {K : PySem.W.Frag} {mg : Str → Option Value} {base : Heap} {t : Adr}
def szs (k : Int) (ts : List (Int × Int)) : List Int:=ts.map fun q => q.1 + (k - 1) * q.2
theorem zbW (k : Int) (ts : List (Int × Int)) : (szs k ts).length = ts.length:=by simp [szs]
def zdZ (K : PySem.W.Frag) : Sp:=fun vs H Q _ => ∃ (k : Int) (a : Addr) (bs : List Addr) (rows : List (List Int)),vs = [.int k,.ref a] ∧ 0 ≤ k ∧ k ≤ 1000 ∧ H a = some (.tup (bs.map V.ref)) ∧ zae H bs rows ∧ rows.length ≤ 100 ∧ (∀ r ∈ rows,r.length ≤ 100) ∧
 ∀ (M : Int) (H' : Hp),zx H H' → (szs k (z0 rows rows.length) = [] → M = 0) → (szs k (z0 rows rows.length) ≠ [] → M ∈ szs k (z0 rows rows.length) ∧ ∀ x ∈ szs k (z0 rows rows.length),x ≤ M) → Q (.int M) H'
theorem zd0 : FnScope ["k","curve"] ["k","curve"] (zh zaI):=⟨rfl,rfl,rfl,by decide +kernel,rfl,by decide +kernel,by decide +kernel⟩
theorem zd1 {fd : FuncData} (T : Txt K mg t) (F : Fun K "size_of" "size_of" zaI t.size_of fd) : FnOk P w K mg base CX0 2 t.size_of fd ["k","curve"] (zdZ K):=by
 obtain ⟨fd_terms_of,F_terms_of,b_terms_of⟩:=T.f_terms_of
 have G_terms_of:=zbN (P:=P) (w:=w) (base:=base) T F_terms_of
 refine F.ok zd0 (fun vs H Q E h => ?_) (fun cdv A outer s H vs Q E hr h => ?_)
 ·obtain ⟨k,a,bs,rows,rfl,_⟩:=h
  rfl
 ·obtain ⟨k,a,bs,rows,rfl,k0,k1,ha,hb,hn,hw,q⟩:=h
  refine ⟨_,(@zj _ _ _ (@zB _ _ _ _ (@zdT _ true _ _ _ _ _ _ _ _ _ _ _ rfl boot_max rfl T.max_ (@ze _ _ _ _) (@zL _ _ _ _ _ _ _ _ _ _ _ _ _ (CompSc.of (N':=["i","j","k"]) (ix:=[none,none,some 0]) (zh zaI) ["k","curve"] rfl rfl (by decide +kernel)) rfl (@zb2 _ _ _ _ (@z3 _ _ _ rfl (@z3 _ _ _ rfl (@zbv _)))) (@zax _ _ _ _ (@zm _ _ _ _ _ _ _ _ _ _ _ _ _ _ _ _ G_terms_of (hr.mono (by decide)) rfl T.m_terms_of F_terms_of.kp b_terms_of .nil (@zH _) (@za _ _ _ _ _ (@pvx _ 1 _ _ rfl) (@zd _) (by rfl)) (by decide) (by rfl) (by rfl))) (fun _ _ _ _ => (@zaR _ (K) _ _ _ (2) _ rfl rfl (@zn _ _ _ _ _ (@zi _ _ (0) _ (show (["i","j","k"] : List Str).Nodup by decide +kernel) rfl (Or.inl rfl) (by trivial)) (@zn _ _ _ _ _ (@zi _ _ (1) _ (show (["i","j","k"] : List Str).Nodup by decide +kernel) rfl (Or.inl rfl) (by trivial)) (@zW _) (by rfl)) (by rfl)) (by rfl) (by rfl))) (fun _ _ _ _ => (@zI _)) (fun _ _ _ _ => (@zg _ _ _ _ _ _ _ _ (@zu _) (@pvx _ 0 _ _ rfl) (@zg _ _ _ _ _ _ _ _ (@zD _) (@zg _ _ _ _ _ _ _ _ (@zas _) (@pvx _ 2 _ _ rfl) (@ze _ _ _ _)) (@pvx _ 1 _ _ rfl)))) (by intro _; rfl)) (by decide) (by decide)))),?_⟩
  have hsl:=sizeLine_eq
  refine ⟨_,rfl,a,bs,rows,rfl,ha,hb,hn,hw,fun l ts H1 hl s1 h1l hpt => ?_⟩
  have hlen:=Paired.length hpt
  have hl2:=zaM hw rows.length
  refine ⟨l,rfl,⟨_,SqL.of h1l⟩,zbf (fs:=(szs k (z0 rows rows.length)).map V.int) (SqL.of h1l) (by rw [List.length_map,List.length_map,zbW,hlen]) (by rw [List.length_map]; omega) (fun i x y R B hx hy hR => ?_) (fun D hD => ?_)⟩
  ·obtain ⟨b,rfl,hbi⟩:=zO hx
   obtain ⟨⟨u,v⟩,hq,hT⟩:=Paired.get hpt hbi
   unfold szs at hy
   rw [List.getElem?_map,List.getElem?_map,hq] at hy
   have hy : V.int (u + (k - 1) * v) = y:=by simpa using hy
   subst hy
   refine gY2 (SqT.of hT) ?_
   exact ⟨_,rfl,_,rfl,_,_,rfl,rfl,_,rfl,_,_,rfl,rfl,.inl ⟨by omega,by omega⟩,_,_,rfl,rfl,hR⟩
  ·exact ⟨D,_,rfl,SqL.of zc,fun M h0 h1 => q M _ (s1.trans (zb hD)) h0 fun hne => ⟨(h1 hne).1,fun x hx => by have:=(h1 hne).2 x hx; rwa [if_pos rfl] at this⟩⟩
end
end My
end
section
set_option maxHeartbeats 3999000
namespace My
open PySem L2 PyProof.Rows
section
variable {P : Program} {w : World} {K : PySem.W.Frag} {mg : Str → Option Value} {base : Heap} {t : Adr}
theorem zhi {H : Hp} {bs : List Addr} {rows : List (List Int)} (h : zae H bs rows) : RwA H bs rows:=Paired.mono (fun _ _ z => .inr z) h
def zdu (p : Int) (w : Nat) (r : List Int) : List Int:=r.map (· % p) ++ List.replicate (w - r.length) 0
theorem zgv {p : Int} {w : Nat} {r : List Int} (h : r.length ≤ w) : zdu p w r = (List.range w).map fun i => gl r i % p:=by
 unfold zdu
 refine List.ext_getElem? fun i => ?_
 by_cases h1 : i < r.length
 ·rw [List.getElem?_append_left (by rw [List.length_map]; exact h1),List.getElem?_map,List.getElem?_map,List.getElem?_range (by omega),List.getElem?_eq_getElem h1]
  show some (r[i] % p) = some (gl r i % p)
  rw [zbp (List.getElem?_eq_getElem h1)]
 ·rw [List.getElem?_append_right (by rw [List.length_map]; omega),List.length_map,List.getElem?_map]
  by_cases h2 : i < w
  ·rw [List.getElem?_range h2,List.getElem?_replicate,if_pos (by omega)]
   show some (0 : Int) = some (gl r i % p)
   have : gl r i = 0:=by unfold gl; rw [List.getD,List.getElem?_eq_none_iff.mpr (by omega)]; rfl
   rw [this,Int.zero_emod]
  ·rw [List.getElem?_eq_none_iff.mpr (by rw [List.length_replicate]; omega),List.getElem?_eq_none_iff.mpr (by rw [List.length_range]; omega)]
   rfl
theorem zdv {p : Int} {w : Nat} {rows : List (List Int)} (h : ∀ r ∈ rows,r.length ≤ w) : rows.map (zdu p w) = zJ rows.length w fun j i => gl (rows.getD j []) i % p:=by
 refine List.ext_getElem? fun j => ?_
 by_cases hj : j < rows.length
 ·rw [zap hj,List.getElem?_map,List.getElem?_eq_getElem hj]
  show some (zdu p w rows[j]) = _
  rw [zgv (h _ (List.getElem_mem hj))]
  have : rows.getD j [] = rows[j]:=by simp [List.getD,hj]
  rw [this]
 ·rw [List.getElem?_eq_none_iff.mpr (by rw [List.length_map]; omega),List.getElem?_eq_none_iff.mpr (by rw [zv]; omega)]
def zeZ (K : PySem.W.Frag) : Sp:=fun vs H Q _ => ∃ (p : Int) (a : Addr) (bs : List Addr) (rows : List (List Int)),vs = [.int p,.ref a] ∧ 5 ≤ p ∧ p ≤ 97 ∧ H a = some (.tup (bs.map V.ref)) ∧ zae H bs rows ∧ rows.length ≤ 100 ∧ (∀ r ∈ rows,r.length ≤ 100) ∧
 ∀ (l : Addr) (ls : List Addr) (H' : Hp),H l = none → zx H H' → H' l = some (.lst (ls.map V.ref)) → LsA H' ls (zJ rows.length (wd rows) fun j i => gl (rows.getD j []) i % p) → Q (.ref l) H'
theorem zcA : FnScope ["p","curve","width"] ["p","curve"] (zh za8):=⟨rfl,rfl,rfl,by decide +kernel,rfl,by decide +kernel,by decide +kernel⟩
theorem ze0 {fd : FuncData} (T : Txt K mg t) (F : Fun K "filled" "filled" za8 t.filled fd) : FnOk P w K mg base CX0 2 t.filled fd ["p","curve"] (zeZ K):=by
 obtain ⟨fd_width_of,F_width_of,b_width_of⟩:=T.f_width_of
 have G_width_of:=zbM (P:=P) (w:=w) (base:=base) T F_width_of
 refine F.ok zcA (fun vs H Q E h => ?_) (fun cdv A outer s H vs Q E hr h => ?_)
 ·obtain ⟨p,a,bs,rows,rfl,_⟩:=h
  rfl
 ·obtain ⟨p,a,bs,rows,rfl,p5,p97,ha,hb,hn,hw,q⟩:=h
  refine ⟨_,(@zf _ _ _ _ _ (@zl _ _ (2) _ _ _ _ zcA.nd rfl (Or.inr rfl) (@zm _ _ _ _ _ _ _ _ _ _ _ _ _ _ _ _ G_width_of (hr.mono (by decide)) rfl T.m_width_of F_width_of.kp b_width_of .nil (@zH _) (@za _ _ _ _ _ (@pvx _ 1 _ _ rfl) (@zd _) (by rfl)) (by decide) (by rfl) (by rfl)) (by rfl) (by trivial)) (by exact (@zj _ _ _ (@zB _ _ _ _ (@zL _ _ _ _ _ _ _ _ _ _ _ _ _ (CompSc.of (N':=["line","p","width"]) (ix:=[none,some 0,some 2]) (zh za8) ["p","curve","width"] rfl rfl (by decide +kernel)) rfl (@zY _ _ rfl) (@zbC _ _ _ _ (@pvx _ 1 _ _ rfl)) (fun _ _ _ _ => (@zi _ _ (0) _ (show (["line","p","width"] : List Str).Nodup by decide +kernel) rfl (Or.inl rfl) (by trivial))) (fun _ _ _ _ => (@zI _)) (fun _ _ _ _ => (@zg _ _ _ _ _ _ _ _ (@zg4 _) (@zL _ _ _ _ _ _ _ _ _ _ _ _ _ (CompSc.of (N':=["number","p"]) (ix:=[none,some 1]) ({ kind:=.function,names:=[(".0",.local),("line",.local),("len",.globalImplicit),("p",.cell),("width",.cell)],isGenerator:=false,isCoroutine:=false }) ["line","p","width"] (by with_unfolding_all rfl) rfl (by decide +kernel)) rfl (@zY _ _ rfl) (@zgo _ (K) _ _ _ rfl (@pvx _ 0 _ _ rfl)) (fun _ _ _ _ => (@zi _ _ (0) _ (show (["number","p"] : List Str).Nodup by decide +kernel) rfl (Or.inl rfl) (by trivial))) (fun _ _ _ _ => (@zI _)) (fun _ _ _ _ => (@zg _ _ _ _ _ _ _ _ (@zq _) (@pvx _ 0 _ _ rfl) (@pvx _ 1 _ _ rfl))) (by intro _; rfl)) (@zg _ _ _ _ _ _ _ _ (@zfd _) (@zad _ _ _ _ (@za _ _ _ _ _ (@ze _ _ _ _) (@zd _) (by rfl))) (@zg _ _ _ _ _ _ _ _ (@zas _) (@pvx _ 2 _ _ rfl) (@zp _ _ _ _ _ _ _ _ _ (@zU _ (K) rfl) (by rfl) T.len_ boot_len (@za _ _ _ _ _ (@pvx _ 0 _ _ rfl) (@zd _) (by rfl)) (by decide) (by decide) (by rfl) (by rfl)))))) (by intro _; rfl)))))),?_⟩
  have hsl:=sizeLine_eq
  have hlen:=Paired.length hb
  have wdl : wd rows ≤ 100:=by
   by_cases e : rows = []
   ·subst e; exact Nat.zero_le _
   ·obtain ⟨r,hr,er⟩:=zbG e
    rw [← er]; exact hw r hr
  refine ⟨_,rfl,a,bs,rows,rfl,.inr (SqT.of ha),zhi hb,by omega,fun H1 s1 => ?_⟩
  refine ⟨_,rfl,a,rfl,⟨_,SqT.of (s1 _ _ ha)⟩,z5 (n:=rows.length) (fun m ys H' => zx H H' ∧ ∃ ls : List Addr,ys = ls.map V.ref ∧ LsA H' ls ((rows.take m).map (zdu p (wd rows)))) ⟨s1,[],rfl,.nil⟩ ?_ ?_ ?_ ?_⟩
  ·rintro m ys H2 hm ⟨s2,_⟩
   exact ⟨_,.ref (bs[m]'(by omega)),SqT.of (s2 _ _ ha),by rw [List.getElem?_map,List.getElem?_eq_getElem (by omega)]; rfl⟩
  ·rintro ys H2 ⟨s2,_⟩
   exact ⟨_,SqT.of (s2 _ _ ha),by rw [List.length_map]; omega⟩
  ·rintro m x ys H2 H3 hm ⟨s2,ls,rfl,hls⟩ ⟨rfl,hx⟩
   obtain ⟨b,rfl,hbm⟩:=zO (hx _ (SqT.of (s2 _ _ ha)))
   obtain ⟨r,hr,hrb⟩:=Paired.get hb hbm
   have h2b:=s2 _ _ hrb
   have hrl:=hw r (List.mem_of_getElem? hr)
   have hrw:=zbB (List.mem_of_getElem? hr)
   refine gY ?_
   refine ⟨_,rfl,b,rfl,⟨_,SqT.of h2b⟩,zaG (fs:=(r.map (· % p)).map V.int) (SqT.of h2b) (by simp) (by rw [List.length_map]; omega) (fun i x y R B hx hy hR => ?_) (fun D hD => ?_)⟩
   ·obtain ⟨c,rfl,hc⟩:=zan hx
    rw [List.getElem?_map,List.getElem?_map,hc] at hy
    have hy : V.int (c % p) = y:=by simpa using hy
    subst hy
    refine gY ?_
    exact ⟨_,rfl,_,rfl,_,_,rfl,rfl,(by omega),hR⟩
   ·have sD:=zb (o:=.lst ((r.map (· % p)).map V.int)) hD
    refine ⟨by show 1 ≤ sizeLine; omega,fun Z hZ => ?_⟩
    have sZ:=zb (o:=.lst [V.int 0]) hZ
    refine ⟨_,rfl,_,rfl,b,_,rfl,.inr (SqT.of ((sD.trans sZ) _ _ h2b)),_,_,rfl,rfl,?_⟩
    have el : (r.map V.int).length = r.length:=List.length_map ..
    rw [el]
    have ek : ((wd rows : Int) - (r.length : Int)).toNat = wd rows - r.length:=by omega
    refine ⟨Z,_,_,rfl,rfl,zc,by omega,by omega,by rw [ek]; show 1 * (wd rows - r.length) ≤ sizeLine; omega,fun Y hY => ?_⟩
    rw [ek,List.flatten_replicate_singleton]
    have sY:=zb (o:=.lst (List.replicate (wd rows - r.length) (V.int 0))) hY
    refine ⟨D,Y,_,_,rfl,rfl,(sZ.trans sY) _ _ zc,zc,by rw [List.length_map,List.length_map,List.length_replicate]; omega,fun W hW => ?_⟩
    have sW:=((sD.trans sZ).trans sY).trans (zb (o:=.lst ((r.map (· % p)).map V.int ++ List.replicate (wd rows - r.length) (V.int 0))) hW)
    have hll : ls.length = m:=by rw [Paired.length hls,List.length_map,List.length_take]; omega
    refine ⟨by rw [List.length_map]; omega,s2.trans sW,ls ++ [W],by rw [List.map_append]; rfl,?_⟩
    rw [take_snoc hr,List.map_append]
    refine Paired.snoc (hls.same sW) ?_
    rw [zc]
    unfold zdu
    rw [List.map_append,List.map_replicate]
  ·rintro ys H2 D ⟨s2,ls,rfl,hls⟩ hD
   rw [List.take_of_length_le (Nat.le_refl _),zdv fun r hr => zbB hr] at hls
   exact q D ls _ (s2.free hD) (s2.trans (zb hD)) zc (hls.same (zb hD))
end
end My
end
section
set_option maxHeartbeats 3999000
namespace My
open PySem L2 PyProof.Rows
section
variable {P : Program} {w : World} {K : PySem.W.Frag} {mg : Str → Option Value} {base : Heap} {t : Adr}
def zd2 (K : PySem.W.Frag) : Sp:=fun vs H Q _ => ∃ (p : Int) (a : Addr) (x y : Int) (bs : List Addr) (rows : List (List Int)),vs = [.int p,.ref a,.int x,.int y] ∧ 5 ≤ p ∧ p ≤ 97 ∧ 0 ≤ x ∧ x < p ∧ 0 ≤ y ∧ y < p ∧ H a = some (.tup (bs.map V.ref)) ∧ zae H bs rows ∧ rows.length ≤ 1000 ∧
 ∀ H',zx H H' → Q (.int (zah p y (rows.map (zah p x)))) H'
theorem zd3 : FnScope ["p","curve","x","y"] ["p","curve","x","y"] (zh zaK):=⟨rfl,rfl,rfl,by decide +kernel,rfl,by decide +kernel,by decide +kernel⟩
theorem zd4 {fd : FuncData} (T : Txt K mg t) (F : Fun K "_law_worth" "_law_worth" zaK t.l_worth fd) : FnOk P w K mg base CX0 2 t.l_worth fd ["p","curve","x","y"] (zd2 K):=by
 obtain ⟨fd_l_value,F_l_value,b_l_value⟩:=T.f_l_value
 have G_l_value:=zdX (P:=P) (w:=w) (base:=base) T F_l_value
 refine F.ok zd3 (fun vs H Q E h => ?_) (fun cdv A outer s H vs Q E hr h => ?_)
 ·obtain ⟨p,a,x,y,bs,rows,rfl,_⟩:=h
  rfl
 ·obtain ⟨p,a,x,y,bs,rows,rfl,p5,p97,x0,x1,y0,y1,ha,hb,hn,q⟩:=h
  refine ⟨_,(@zj _ _ _ (@zB _ _ _ _ (@zm _ _ _ _ _ _ _ _ _ _ _ _ _ _ _ _ G_l_value (hr.mono (by decide)) rfl T.m_l_value F_l_value.kp b_l_value .nil (@zH _) (@za _ _ _ _ _ (@pvx _ 0 _ _ rfl) (@za _ _ _ _ _ (@zL _ _ _ _ _ _ _ _ _ _ _ _ _ (CompSc.of (N':=["line","p","x"]) (ix:=[none,some 0,some 2]) (zh zaK) ["p","curve","x","y"] rfl rfl (by decide +kernel)) rfl (@zY _ _ rfl) (@zbC _ _ _ _ (@pvx _ 1 _ _ rfl)) (fun _ _ _ _ => (@zi _ _ (0) _ (show (["line","p","x"] : List Str).Nodup by decide +kernel) rfl (Or.inl rfl) (by trivial))) (fun _ _ _ _ => (@zI _)) (fun _ _ _ _ => (@zm _ _ _ _ _ _ _ _ _ _ _ _ _ _ _ _ G_l_value (hr.mono (by decide)) rfl T.m_l_value F_l_value.kp b_l_value .nil (@zH _) (@za _ _ _ _ _ (@pvx _ 1 _ _ rfl) (@za _ _ _ _ _ (@pvx _ 0 _ _ rfl) (@za _ _ _ _ _ (@pvx _ 2 _ _ rfl) (@zd _) (by rfl)) (by rfl)) (by rfl)) (by decide) (by rfl) (by rfl))) (by intro _; rfl)) (@za _ _ _ _ _ (@pvx _ 3 _ _ rfl) (@zd _) (by rfl)) (by rfl)) (by rfl)) (by decide) (by rfl) (by rfl)))),?_⟩
  have hlen:=Paired.length hb
  refine ⟨_,rfl,_,rfl,a,rfl,⟨_,SqT.of ha⟩,zaG (fs:=(rows.map (zah p x)).map V.int) (SqT.of ha) (by simp [hlen]) (by rw [List.length_map]; omega) (fun i u v R B hu hv hR => ?_) (fun D hD => ?_)⟩
  ·obtain ⟨b,rfl,hbi⟩:=zO hu
   obtain ⟨r,hr,hrb⟩:=Paired.get hb hbi
   rw [List.getElem?_map,List.getElem?_map,hr] at hv
   have hv : V.int (zah p x r) = v:=by simpa using hv
   subst hv
   refine gY ?_
   exact ⟨_,rfl,_,rfl,_,rfl,p,x,b,r,rfl,.inr (SqT.of hrb),by omega,by omega,by omega,by omega,hR⟩
  ·exact ⟨_,rfl,p,y,D,_,rfl,.inl (SqL.of zc),by omega,by omega,by omega,by omega,q _ (zb hD)⟩
end
end My
end
section
set_option maxHeartbeats 3999000
namespace My
open PySem L2 PyProof.Rows
section
variable {P : Program} {w : World} {K : PySem.W.Frag} {mg : Str → Option Value} {base : Heap} {t : Adr}
def ze1 (K : PySem.W.Frag) : Sp:=fun vs H Q _ => ∃ (k : Int) (a : Addr) (bs : List Addr) (rows : List (List Int)),vs = [.int k,.ref a] ∧ 0 ≤ k ∧ k ≤ 1000 ∧ H a = some (.tup (bs.map V.ref)) ∧ zae H bs rows ∧ rows.length ≤ 100 ∧ (∀ r ∈ rows,r.length ≤ 100) ∧ z0 rows rows.length ≠ [] ∧
 ∀ (M : Int) (H' : Hp),zx H H' → M ∈ szs k (z0 rows rows.length) → (∀ x ∈ szs k (z0 rows rows.length),x ≤ M) → Q (.int M) H'
theorem zet (k : Int) (l m : List (Int × Int)) : szs k (l ++ m) = szs k l ++ szs k m:=by simp [szs]
theorem zbm : FnScope ["k","curve","sizes","j","line"] ["k","curve"] (zh zbc):=⟨rfl,rfl,rfl,by decide +kernel,rfl,by decide +kernel,by decide +kernel⟩
theorem ze2 {fd : FuncData} (T : Txt K mg t) (F : Fun K "_law_size" "_law_size" zbc t.l_size fd) : FnOk P w K mg base CX0 1 t.l_size fd ["k","curve"] (ze1 K):=by
 refine F.ok zbm (fun vs H Q E h => ?_) (fun cdv A outer s H vs Q E hr h => ?_)
 ·obtain ⟨k,a,bs,rows,rfl,_⟩:=h
  rfl
 ·obtain ⟨k,a,bs,rows,rfl,k0,k1,ha,hb,hn,hw,hne,q⟩:=h
  refine ⟨_,(@zf _ _ _ _ _ (@zl _ _ (2) _ _ _ _ zbm.nd rfl (Or.inl rfl) (@zad _ _ _ _ (@zd _)) (by rfl) (by trivial)) (by exact (@zf _ _ _ _ _ (@zZ _ _ _ _ _ _ _ _ PassesOwn.never rfl (@zaF _ _ _ _ _ _ _ _ rfl T.enumerate_ (@za _ _ _ _ _ (@pvx _ 1 _ _ rfl) (@zd _) (by rfl)) (by rfl)) (@zaZ _ _ _ _ _ _ rfl (@zn _ _ _ _ _ (@zi _ _ (3) _ zbm.nd rfl (Or.inr rfl) (by trivial)) (@zn _ _ _ _ _ (@zi _ _ (4) _ zbm.nd rfl (Or.inl rfl) (by trivial)) (@zW _) (by rfl)) (by rfl)) (by rfl) (by rfl)) (@zj _ _ _ (@zaO _ _ _ _ (@zbI _ _ _ _ _ _ _ _ _ _ _ _ PySem.F.plainAttrs_list PySem.F.slot_list_extend PySem.F.type_list_extend (@zcs _) (@pvx _ 2 _ _ rfl) (@za _ _ _ _ _ (@zL _ _ _ _ _ _ _ _ _ _ _ _ _ (CompSc.of (N':=["i","number","k","j"]) (ix:=[none,none,some 0,some 3]) (zh zbc) ["k","curve","sizes","j","line"] rfl rfl (by decide +kernel)) rfl (@zb2 _ _ _ _ (@z3 _ _ _ rfl (@z3 _ _ _ rfl (@zbv _)))) (@zaF _ _ _ _ _ _ _ _ rfl T.enumerate_ (@za _ _ _ _ _ (@pvx _ 4 _ _ rfl) (@zd _) (by rfl)) (by rfl)) (fun _ _ _ _ => (@zaR _ (K) _ _ _ (2) _ rfl rfl (@zn _ _ _ _ _ (@zi _ _ (0) _ (show (["i","number","k","j"] : List Str).Nodup by decide +kernel) rfl (Or.inl rfl) (by trivial)) (@zn _ _ _ _ _ (@zi _ _ (1) _ (show (["i","number","k","j"] : List Str).Nodup by decide +kernel) rfl (Or.inl rfl) (by trivial)) (@zW _) (by rfl)) (by rfl)) (by rfl) (by rfl))) (fun _ _ _ _ => (@zb0 _ _ _ (@zR _ _ _ _ _ _ _ _ (@zck _) (@pvx _ 1 _ _ rfl) (@ze _ _ _ _) (z6 _)))) (fun _ _ _ _ => (@zg _ _ _ _ _ _ _ _ (@zu _) (@pvx _ 0 _ _ rfl) (@zg _ _ _ _ _ _ _ _ (@zD _) (@zg _ _ _ _ _ _ _ _ (@zas _) (@pvx _ 2 _ _ rfl) (@ze _ _ _ _)) (@pvx _ 3 _ _ rfl)))) (by intro _; rfl)) (@zd _) (by rfl)) (by rfl) (by rfl) (by rfl) (by rfl) (by rfl)) (by rfl))) (by intro _; rfl)) (by exact (@zj _ _ _ (@zB _ _ _ _ (@zp _ _ _ _ _ _ _ _ _ (@zaH _ rfl) (by rfl) T.max_ boot_max (@za _ _ _ _ _ (@pvx _ 2 _ _ rfl) (@zd _) (by rfl)) (by decide) (by decide) (by rfl) (by rfl)))))))),?_⟩
  have hsl:=sizeLine_eq
  have hlen:=Paired.length hb
  refine ⟨Nat.zero_le _,fun S hS => ?_⟩
  refine ⟨_,rfl,a,_,rfl,SqT.of ((zb hS) _ _ ha),zfi (n:=rows.length) (fun m σ H' => ∃ e3 e4 : Option V,σ = [some (.int k),some (.ref a),some (.ref S),e3,e4] ∧ zx H H' ∧ H' S = some (.lst ((szs k (z0 rows m)).map V.int))) ⟨none,none,rfl,zb hS,zc⟩ ?_ ?_ ?_ ?_⟩
  ·rintro m σ H1 hm ⟨e3,e4,rfl,s1,h1⟩
   exact ⟨_,.ref (bs[m]'(by omega)),SqT.of (s1 _ _ ha),by rw [List.getElem?_map,List.getElem?_eq_getElem (by omega)]; rfl⟩
  ·rintro σ H1 ⟨e3,e4,rfl,s1,h1⟩
   exact ⟨_,SqT.of (s1 _ _ ha),by rw [List.length_map]; omega⟩
  ·rintro m y σ H1 H2 hm ⟨e3,e4,rfl,s1,h1⟩ ⟨T,v,hT,rfl,rfl,hv⟩
   obtain ⟨b,rfl,hbm⟩:=zO (hv _ (SqT.of (s1 _ _ ha)))
   obtain ⟨r,hr,hrb⟩:=Paired.get hb hbm
   have hrl:=hw r (List.mem_of_getElem? hr)
   have er : rows.getD m [] = r:=by simp [List.getD,hr]
   refine ⟨T,_,rfl,SqT.of zc,rfl,_,_,rfl,_,_,rfl,rfl,?_⟩
   have sT:=s1.trans (zb (o:=.tup [.int m,.ref b]) hT)
   have h2:=(zb (o:=.tup [.int m,.ref b]) hT) _ _ h1
   generalize upd H1 T (.tup [.int m,.ref b]) = H2 at sT h2 ⊢
   have h2b:=sT _ _ hrb
   refine ⟨_,rfl,.inl ⟨rfl,_,SqL.of h2⟩,_,rfl,b,_,rfl,SqT.of h2b,z5 (n:=r.length) (fun j ys H' => ys = (szs k (trm m r j)).map V.int ∧ zx H2 H') ⟨rfl,fun _ _ e => e⟩ ?_ ?_ ?_ ?_⟩
   ·rintro j ys H3 hj ⟨rfl,s3⟩
    exact ⟨_,.int (r[j]'hj),SqT.of (s3 _ _ h2b),by rw [List.getElem?_map,List.getElem?_eq_getElem hj]; rfl⟩
   ·rintro ys H3 ⟨rfl,s3⟩
    exact ⟨_,SqT.of (s3 _ _ h2b),by rw [List.length_map]; omega⟩
   ·rintro j z ys H3 H4 hj ⟨rfl,s3⟩ ⟨T',v',hT',rfl,rfl,hv'⟩
    obtain ⟨x,rfl,hx⟩:=zan (hv' _ (SqT.of (s3 _ _ h2b)))
    have hgx : gl r j = x:=zbp hx
    have sT':=s3.trans (zb (o:=.tup [.int j,.int x]) hT')
    have l2:=zbl m r j
    refine ⟨T',_,rfl,SqT.of zc,rfl,_,_,rfl,_,_,rfl,rfl,?_⟩
    generalize upd H3 T' (.tup [.int j,.int x]) = H4 at sT' ⊢
    refine ⟨_,rfl,rfl,_,rfl,?_⟩
    refine zbE (fun hx0 => ?_) (fun hx0 => ?_)
    ·have hx0 : x ≠ 0:=by simpa using hx0
     refine ⟨_,rfl,_,rfl,_,_,rfl,rfl,_,rfl,_,_,rfl,rfl,.inl ⟨by omega,by omega⟩,_,_,rfl,rfl,by rw [List.length_map,zbW]; omega,?_,sT'⟩
     rw [zaL,if_pos (by rw [hgx]; exact hx0),zet,List.map_append]
     rfl
    ·have hx0 : x = 0:=by simpa using hx0
     refine ⟨?_,sT'⟩
     rw [zaL,if_neg (by rw [hgx,hx0]; simp)]
   ·rintro ys H3 D ⟨rfl,s3⟩ hD
    have h3S:=s3 _ _ h2
    have dS : D ≠ S:=(zo h3S hD).symm
    have l1:=zaM hw m
    have l2:=zbl m r r.length
    refine ⟨S,D,_,_,rfl,rfl,by rw [zk dS.symm]; exact h3S,zc,by rw [List.length_map,List.length_map,zbW,zbW]; omega,?_⟩
    refine ⟨_,_,rfl,zQ ((sT.trans s3).trans (zb hD)) hS,?_⟩
    rw [zc,zbk,er,zet,List.map_append]
  ·rintro σ H1 ⟨e3,e4,rfl,s1,h1⟩
   exact ⟨_,rfl,S,_,rfl,SqL.of h1,by unfold szs; simpa using hne,fun M hM hM' => q M _ s1 hM hM'⟩
end
end My
end
section
set_option maxHeartbeats 3999000
namespace My
open PySem L2 PyProof.Rows
section
variable {P : Program} {w : World} {K : PySem.W.Frag} {mg : Str → Option Value} {base : Heap} {t : Adr}
def tnd (rows : List (List Int)) (w : Nat) : List (List Int):=(List.range w).map fun i => rows.map fun r => gl r i
theorem zfS (rows : List (List Int)) (w : Nat) : tnd rows (w + 1) = tnd rows w ++ [rows.map fun r => gl r w]:=by
 unfold tnd
 rw [List.range_succ,List.map_append]
 rfl
def ze3 (K : PySem.W.Frag) : Sp:=fun vs H Q _ => ∃ (a : Addr) (bs : List Addr) (rows : List (List Int)) (w : Nat),vs = [.ref a,.int (w : Int)] ∧ H a = some (.lst (bs.map V.ref)) ∧ LsA H bs rows ∧ (∀ r ∈ rows,w ≤ r.length) ∧ rows.length ≤ 1000 ∧ w ≤ 1000 ∧
 ∀ (l : Addr) (ls : List Addr) (H' : Hp),H l = none → zx H H' → H' l = some (.lst (ls.map V.ref)) → LsA H' ls (tnd rows w) → Q (.ref l) H'
theorem ze4 : FnScope ["lines","width"] ["lines","width"] (zh za9):=⟨rfl,rfl,rfl,by decide +kernel,rfl,by decide +kernel,by decide +kernel⟩
theorem ze5 {fd : FuncData} (T : Txt K mg t) (F : Fun K "turned" "turned" za9 t.turned fd) : FnOk P w K mg base CX0 1 t.turned fd ["lines","width"] (ze3 K):=by
 refine F.ok ze4 (fun vs H Q E h => ?_) (fun cdv A outer s H vs Q E hr h => ?_)
 ·obtain ⟨a,bs,rows,wi,rfl,_⟩:=h
  rfl
 ·obtain ⟨a,bs,rows,wi,rfl,ha,hb,hw,hn,hwn,q⟩:=h
  refine ⟨_,(@zj _ _ _ (@zB _ _ _ _ (@zL _ _ _ _ _ _ _ _ _ _ _ _ _ (CompSc.of (N':=["at","lines"]) (ix:=[none,some 0]) (zh za9) ["lines","width"] rfl rfl (by decide +kernel)) rfl (@zY _ _ rfl) (@zS _ _ _ _ _ _ rfl T.range_ (@za _ _ _ _ _ (@pvx _ 1 _ _ rfl) (@zd _) (by rfl)) (by rfl)) (fun _ _ _ _ => (@zi _ _ (0) _ (show (["at","lines"] : List Str).Nodup by decide +kernel) rfl (Or.inr rfl) (by trivial))) (fun _ _ _ _ => (@zI _)) (fun _ _ _ _ => (@zL _ _ _ _ _ _ _ _ _ _ _ _ _ (CompSc.of (N':=["line","at"]) (ix:=[none,some 0]) ({ kind:=.function,names:=[(".0",.local),("at",.cell),("lines",.cell)],isGenerator:=false,isCoroutine:=false }) ["at","lines"] (by with_unfolding_all rfl) rfl (by decide +kernel)) rfl (@zY _ _ rfl) (@zfC _ (K) _ _ _ rfl (@pvx _ 1 _ _ rfl)) (fun _ _ _ _ => (@zi _ _ (0) _ (show (["line","at"] : List Str).Nodup by decide +kernel) rfl (Or.inl rfl) (by trivial))) (fun _ _ _ _ => (@zI _)) (fun _ _ _ _ => (@zC _ _ _ _ _ _ _ (@zdf _ (K) rfl) (@pvx _ 0 _ _ rfl) (@pvx _ 1 _ _ rfl) (fun _ _ => rfl))) (by intro _; rfl))) (by intro _; rfl)))),?_⟩
  have hsl:=sizeLine_eq
  have hlen:=Paired.length hb
  refine ⟨_,rfl,(wi : Int),rfl,by omega,by omega,z5 (n:=wi) (fun m ys H' => zx H H' ∧ ∃ ls : List Addr,ys = ls.map V.ref ∧ LsA H' ls (tnd rows m)) ⟨fun _ _ e => e,[],rfl,.nil⟩ (fun m ys H' hm _ => by show m < (wi : Int).toNat; omega) (fun ys H' _ => by show (wi : Int).toNat ≤ wi; omega) ?_ ?_⟩
  ·rintro i x ys H1 H2 hi ⟨s1,ls,rfl,hls⟩ ⟨rfl,rfl⟩
   have hz : ls.length = i:=by rw [Paired.length hls]; unfold tnd; rw [List.length_map,List.length_range]
   have h1a:=s1 _ _ ha
   have h1b:=hb.same s1
   refine ⟨_,rfl,a,rfl,⟨_,SqL.of h1a⟩,zbf (fs:=(rows.map fun r : List Int => gl r i).map V.int) (SqL.of h1a) (by simp [hlen]) (by simp; omega) (fun j x y R B hx hy hR => ?_) (fun D hD => ?_)⟩
   ·obtain ⟨b,rfl,hbi⟩:=zO hx
    obtain ⟨r,hr,hrb⟩:=Paired.get h1b hbi
    rw [List.getElem?_map,List.getElem?_map,hr] at hy
    have hy : V.int (gl r i) = y:=by simpa using hy
    subst hy
    have hwr:=hw r (List.mem_of_getElem? hr)
    have hat : atI (r.map V.int) (0 + (i : Int)) = some (.int (gl r i)):=by
     rw [Int.zero_add]
     refine zal ?_
     rw [List.getElem?_map,List.getElem?_eq_getElem (by omega),zbp (List.getElem?_eq_getElem (by omega))]
     rfl
    exact ⟨_,rfl,_,rfl,b,_,_,_,rfl,rfl,SqL.of hrb,hat,hR⟩
   ·refine ⟨by rw [List.length_map]; omega,s1.trans (zb hD),ls ++ [D],by simp,?_⟩
    rw [zfS]
    exact Paired.snoc (hls.same (zb hD)) zc
  ·rintro ys H1 D ⟨s1,ls,rfl,hls⟩ hD
   exact q D ls _ (s1.free hD) (s1.trans (zb hD)) zc (hls.same (zb hD))
end
end My
end
section
set_option maxHeartbeats 3998000
namespace L2
open PySem PySem.Spec PyProof.Rows
theorem zbd {X : Cx} {K : PySem.W.Frag} (hK : X.K = K) : zar X (.type "tuple") (fun xs H Q => ∃ p ys,xs = [.ref p] ∧ ((SqL K H p ys ∧ ∀ l,H l = none → Q (.ref l) (upd H l (.tup ys))) ∨ (SqT K H p ys ∧ Q (.ref p) H))):=by subst hK; exact zP
theorem zd5 {X : Cx} {K : PySem.W.Frag} (hK : X.K = K) (hc : X.calm = true) : zar X (.builtin "max") (fun xs H Q => ∃ (p : Addr) (ns : List Int),xs = [.ref p] ∧ SqL K H p (ns.map V.int) ∧ ns ≠ [] ∧ ∀ M : Int,M ∈ ns → (∀ a ∈ ns,a ≤ M) → Q (.int M) H):=by subst hK; exact zaH hc
def zhT : R2:=fun x y H Q => ∃ a b xs ys,x = .ref a ∧ y = .ref b ∧ H a = some (.tup xs) ∧ H b = some (.tup ys) ∧ xs ≠ [] ∧ xs.length + ys.length ≤ sizeLine ∧ ∀ p H',zx H H' → H' p = some (.tup (xs ++ ys)) → Q (.ref p) H'
theorem zgw {X : Cx} : OpR X (binaryOp .Add) zhT:=by
 intro pins s σ H x y v u Q I rx ry h
 obtain ⟨a,b,xs,ys,rfl,rfl,ha,hb,hx,hz,q⟩:=h
 exact zf8 pins s σ H _ _ v u Q I rx ry ⟨a,b,xs,ys,rfl,rfl,SqT.of ha,SqT.of hb,hx,hz,fun e => q a H (fun _ _ z => z) (by rw [e,List.append_nil]; exact ha),fun _ p hp => q p _ (fun b o z => by rw [zk (fun e => by rw [e,hp] at z; cases z)]; exact z) zc⟩
end L2
end
section
set_option maxHeartbeats 3999000
namespace My
open PySem L2 PyProof.Rows
section
variable {P : Program} {w : World} {K : PySem.W.Frag} {mg : Str → Option Value} {base : Heap} {t : Adr}
theorem zdw {n w : Nat} {g : Nat → Nat → Int} : tnd (zJ n w g) w = zJ w n fun i j => g j i:=by
 unfold tnd zJ
 refine List.map_congr_left fun i hi => ?_
 rw [List.map_map]
 refine List.map_congr_left fun j hj => ?_
 show gl ((List.range w).map fun i => g j i) i = g j i
 exact zbp (by rw [List.getElem?_map,List.getElem?_range (List.mem_range.mp hi)]; rfl)
theorem z7 {n w : Nat} {g : Nat → Nat → Int} : ∀ r ∈ zJ n w g,r.length = w:=fun r hr => by
 unfold zJ at hr
 obtain ⟨j,_,rfl⟩:=List.mem_map.mp hr
 rw [List.length_map,List.length_range]
theorem zeu {n w : Nat} {g : Nat → Nat → Int} (h : n = 0 → w = 0) : wd (zJ n w g) = w:=by
 by_cases e : zJ n w g = []
 ·have : n = 0:=by rw [← zv n w g,e]; rfl
  rw [e,h this]; rfl
 ·obtain ⟨r,hr,er⟩:=zbG e
  rw [← er,z7 r hr]
def cu (rows : List (List Int)) (j i : Nat) : Int:=gl (rows.getD j []) i
theorem zhj {p x y : Int} {n w : Nat} {c : Nat → Nat → Int} {j i : Nat} : sh x w (fun s => sh y n (fun t => c t s % p) j % p) i % p = mv x y n w c j i % p:=by
 refine Cg.mod_eq (zb8 (Cg.refl p x) fun s _ => (Cg.emod p _).trans (zb8 (Cg.refl p y) fun t _ => Cg.emod p _))
def mvd (p x y : Int) (rows : List (List Int)) : List (List Int):=zJ rows.length (wd rows) fun j i => mv x y rows.length (wd rows) (cu rows) j i % p
theorem zbH {rows : List (List Int)} {m : Nat} (h : ∀ r ∈ rows,r.length ≤ m) : wd rows ≤ m:=by
 by_cases e : rows = []
 ·subst e; exact Nat.zero_le _
 ·obtain ⟨r,hr,er⟩:=zbG e
  rw [← er]; exact h r hr
theorem zhk {H : Hp} {bs : List Addr} {rows : List (List Int)} (h : LsA H bs rows) : RwA H bs rows:=Paired.mono (fun _ _ z => .inl z) h
def zfT (K : PySem.W.Frag) : Sp:=fun vs H Q _ => ∃ (p : Int) (a pt : Addr) (x y : Int) (bs : List Addr) (rows : List (List Int)),vs = [.int p,.ref a,.ref pt] ∧ 5 ≤ p ∧ p ≤ 97 ∧ 0 ≤ x ∧ x < p ∧ 0 ≤ y ∧ y < p ∧ H a = some (.tup (bs.map V.ref)) ∧ zae H bs rows ∧ H pt = some (.tup [.int x,.int y]) ∧ rows.length ≤ 100 ∧ (∀ r ∈ rows,r.length ≤ 100) ∧
 ∀ (l : Addr) (ls : List Addr) (H' : Hp),H l = none → zx H H' → H' l = some (.tup (ls.map V.ref)) → zae H' ls (mvd p x y rows) → Q (.ref l) H'
theorem zbe : FnScope ["p","curve","point","a","b","lines","columns"] ["p","curve","point"] (zh zby):=⟨rfl,rfl,rfl,by decide +kernel,rfl,by decide +kernel,by decide +kernel⟩
theorem zdx {fd : FuncData} (T : Txt K mg t) (F : Fun K "moved" "moved" zby t.moved fd) : FnOk P w K mg base CX0 3 t.moved fd ["p","curve","point"] (zfT K):=by
 obtain ⟨fd_raised,F_raised,b_raised⟩:=T.f_raised
 have G_raised:=zeX (P:=P) (w:=w) (base:=base) T F_raised
 obtain ⟨fd_filled,F_filled,b_filled⟩:=T.f_filled
 have G_filled:=ze0 (P:=P) (w:=w) (base:=base) T F_filled
 obtain ⟨fd_turned,F_turned,b_turned⟩:=T.f_turned
 have G_turned:=ze5 (P:=P) (w:=w) (base:=base) T F_turned
 obtain ⟨fd_width_of,F_width_of,b_width_of⟩:=T.f_width_of
 have G_width_of:=zbM (P:=P) (w:=w) (base:=base) T F_width_of
 refine F.ok zbe (fun vs H Q E h => ?_) (fun cdv A outer s H vs Q E hr h => ?_)
 ·obtain ⟨p,a,pt,x,y,bs,rows,rfl,_⟩:=h
  rfl
 ·obtain ⟨p,a,pt,x,y,bs,rows,rfl,p5,p97,x0,x1,y0,y1,ha,hb,hpt,hn,hw,q⟩:=h
  refine ⟨_,(@zf _ _ _ _ _ (@zbq _ _ _ _ _ _ (@pvx _ 2 _ _ rfl) (@zaZ _ _ _ _ _ _ rfl (@zn _ _ _ _ _ (@zi _ _ (3) _ zbe.nd rfl (Or.inl rfl) (by trivial)) (@zn _ _ _ _ _ (@zi _ _ (4) _ zbe.nd rfl (Or.inl rfl) (by trivial)) (@zW _) (by rfl)) (by rfl)) (by rfl) (by rfl)) (by rfl) (by rfl) (by rfl)) (by exact (@zf _ _ _ _ _ (@zl _ _ (5) _ _ _ _ zbe.nd rfl (Or.inl rfl) (@zm _ _ _ _ _ _ _ _ _ _ _ _ _ _ _ _ G_raised (hr.mono (by decide)) rfl T.m_raised F_raised.kp b_raised .nil (@zH _) (@za _ _ _ _ _ (@pvx _ 0 _ _ rfl) (@za _ _ _ _ _ (@zm _ _ _ _ _ _ _ _ _ _ _ _ _ _ _ _ G_filled (hr.mono (by decide)) rfl T.m_filled F_filled.kp b_filled .nil (@zH _) (@za _ _ _ _ _ (@pvx _ 0 _ _ rfl) (@za _ _ _ _ _ (@pvx _ 1 _ _ rfl) (@zd _) (by rfl)) (by rfl)) (by decide) (by rfl) (by rfl)) (@za _ _ _ _ _ (@pvx _ 4 _ _ rfl) (@zd _) (by rfl)) (by rfl)) (by rfl)) (by decide) (by rfl) (by rfl)) (by rfl) (by trivial)) (by exact (@zf _ _ _ _ _ (@zl _ _ (6) _ _ _ _ zbe.nd rfl (Or.inl rfl) (@zm _ _ _ _ _ _ _ _ _ _ _ _ _ _ _ _ G_raised (hr.mono (by decide)) rfl T.m_raised F_raised.kp b_raised .nil (@zH _) (@za _ _ _ _ _ (@pvx _ 0 _ _ rfl) (@za _ _ _ _ _ (@zm _ _ _ _ _ _ _ _ _ _ _ _ _ _ _ _ G_turned (hr.mono (by decide)) rfl T.m_turned F_turned.kp b_turned .nil (@zH _) (@za _ _ _ _ _ (@pvx _ 5 _ _ rfl) (@za _ _ _ _ _ (@zm _ _ _ _ _ _ _ _ _ _ _ _ _ _ _ _ G_width_of (hr.mono (by decide)) rfl T.m_width_of F_width_of.kp b_width_of .nil (@zH _) (@za _ _ _ _ _ (@pvx _ 5 _ _ rfl) (@zd _) (by rfl)) (by decide) (by rfl) (by rfl)) (@zd _) (by rfl)) (by rfl)) (by decide) (by rfl) (by rfl)) (@za _ _ _ _ _ (@pvx _ 3 _ _ rfl) (@zd _) (by rfl)) (by rfl)) (by rfl)) (by decide) (by rfl) (by rfl)) (by rfl) (by trivial)) (by exact (@zj _ _ _ (@zB _ _ _ _ (@zM _ _ _ _ _ _ _ _ _ (@zP _) (by rfl) T.tuple_ boot_tuple (@za _ _ _ _ _ (@zL _ _ _ _ _ _ _ _ _ _ _ _ _ (CompSc.of (N':=["line"]) (ix:=[none]) (zh zby) ["p","curve","point","a","b","lines","columns"] rfl rfl (by decide +kernel)) rfl (@zY _ _ rfl) (@zax _ _ _ _ (@zm _ _ _ _ _ _ _ _ _ _ _ _ _ _ _ _ G_turned (hr.mono (by decide)) rfl T.m_turned F_turned.kp b_turned .nil (@zH _) (@za _ _ _ _ _ (@pvx _ 6 _ _ rfl) (@za _ _ _ _ _ (@zp _ _ _ _ _ _ _ _ _ (@zw _) (by rfl) T.len_ boot_len (@za _ _ _ _ _ (@pvx _ 5 _ _ rfl) (@zd _) (by rfl)) (by decide) (by decide) (by rfl) (by rfl)) (@zd _) (by rfl)) (by rfl)) (by decide) (by rfl) (by rfl))) (fun _ _ _ _ => (@zi _ _ (0) _ (show (["line"] : List Str).Nodup by decide +kernel) rfl (Or.inl rfl) (by trivial))) (fun _ _ _ _ => (@zI _)) (fun _ _ _ _ => (@zM _ _ _ _ _ _ _ _ _ (zbd (K:=K) rfl) (by rfl) T.tuple_ boot_tuple (@za _ _ _ _ _ (@pvx _ 0 _ _ rfl) (@zd _) (by rfl)) (by decide) (by decide) (by rfl) (by rfl))) (by intro _; rfl)) (@zd _) (by rfl)) (by decide) (by decide) (by rfl) (by rfl)))))))))),?_⟩
  have hsl:=sizeLine_eq
  have wdl:=zbH hw
  have er : ∀ z : Int,0 ≤ z % p ∧ z % p < p:=fun z => ⟨Int.emod_nonneg _ (by omega),Int.emod_lt_of_pos _ (by omega)⟩
  refine ⟨_,rfl,pt,_,rfl,SqT.of hpt,rfl,_,_,rfl,_,_,rfl,rfl,?_⟩
  refine ⟨_,rfl,_,rfl,_,rfl,p,a,bs,rows,rfl,p5,p97,ha,hb,hn,hw,fun l1 ls1 H1 hl1 s1 h1 g1 => ?_⟩
  refine ⟨_,rfl,p,y,l1,ls1,rows.length,wd rows,_,rfl,h1,g1,by omega,by omega,p5,p97,y0,y1,fun j i _ _ => er _,fun l2 ls2 H2 hl2 s2 h2 g2 => ?_⟩
  have wz : rows.length = 0 → wd rows = 0:=fun e => by rw [List.length_eq_zero_iff.mp e]; rfl
  refine ⟨_,rfl,_,rfl,_,rfl,l2,ls2,_,rfl,.inl (SqL.of h2),zhk g2,by rw [zv]; omega,fun H3 s3 => ?_⟩
  rw [zeu wz]
  refine ⟨l2,ls2,_,wd rows,rfl,s3 _ _ h2,g2.same s3,fun r hr => by rw [z7 r hr]; exact Nat.le_refl _,by rw [zv]; omega,by omega,fun l4 ls4 H4 hl4 s4 h4 g4 => ?_⟩
  rw [zdw] at g4
  refine ⟨_,rfl,p,x,l4,ls4,wd rows,rows.length,_,rfl,h4,g4,by omega,by omega,p5,p97,x0,x1,fun j i _ _ => er _,fun l5 ls5 H5 hl5 s5 h5 g5 => ?_⟩
  have s25:=(s3.trans s4).trans s5
  have e2 : ((ls2.map V.ref).length : Int) = (rows.length : Int):=by rw [List.length_map,Paired.length g2,zv]
  refine ⟨_,rfl,_,rfl,l2,_,rfl,.inl (SqL.of (s25 _ _ h2)),?_⟩
  rw [e2]
  refine ⟨l5,ls5,_,rows.length,rfl,h5,g5,fun r hr => by rw [z7 r hr]; exact Nat.le_refl _,by rw [zv]; omega,by omega,fun l6 ls6 H6 hl6 s6 h6 g6 => ?_⟩
  have eg : tnd (zJ (wd rows) rows.length fun j i => sh x (wd rows) (fun t => sh y rows.length (fun t_1 => gl (rows.getD t_1 []) t % p) i % p) j % p) rows.length = mvd p x y rows:=by
   rw [zdw]
   exact z9 fun j i _ _ => zhj
  rw [eg] at g6
  have eml : (mvd p x y rows).length = rows.length:=zv _ _ _
  have hlen:=Paired.length g6
  refine ⟨l6,rfl,⟨_,SqL.of h6⟩,z5 (n:=rows.length) (fun m ys H' => zx H6 H' ∧ ∃ us : List Addr,ys = us.map V.ref ∧ zae H' us ((mvd p x y rows).take m)) ⟨fun _ _ e => e,[],rfl,.nil⟩ ?_ ?_ ?_ ?_⟩
  ·rintro m ys H7 hm ⟨s7,_⟩
   exact ⟨_,.ref (ls6[m]'(by omega)),SqL.of (s7 _ _ h6),by rw [List.getElem?_map,List.getElem?_eq_getElem (by omega)]; rfl⟩
  ·rintro ys H7 ⟨s7,_⟩
   exact ⟨_,SqL.of (s7 _ _ h6),by rw [List.length_map]; omega⟩
  ·rintro m z ys H7 H8 hm ⟨s7,us,rfl,hus⟩ ⟨rfl,hx⟩
   obtain ⟨b,rfl,hbm⟩:=zO (hx _ (SqL.of (s7 _ _ h6)))
   obtain ⟨r,hr,hrb⟩:=Paired.get g6 hbm
   have hz : us.length = m:=by rw [Paired.length hus,List.length_take]; omega
   refine gY ?_
   refine ⟨_,rfl,b,_,rfl,.inl ⟨SqL.of (s7 _ _ hrb),fun D hD => ⟨by rw [List.length_map]; omega,s7.trans (zb hD),us ++ [D],by simp,?_⟩⟩⟩
   rw [take_snoc hr]
   exact Paired.snoc (hus.same (zb hD)) zc
  ·rintro ys H7 D ⟨s7,us,rfl,hus⟩ hD
   rw [List.take_of_length_le (by omega)] at hus
   refine ⟨D,_,rfl,.inl ⟨SqL.of zc,fun l hl => ?_⟩⟩
   have sf:=(((((s1.trans s2).trans s25).trans s6).trans s7).trans (zb (o:=.lst (us.map V.ref)) hD))
   exact q l us _ (sf.free hl) (sf.trans (zb hl)) zc ((hus.same (zb hD)).same (zb hl))
end
end My
end
section
set_option maxHeartbeats 3999000
namespace My
open PySem L2 PyProof.Rows
section
variable {P : Program} {w : World} {K : PySem.W.Frag} {mg : Str → Option Value} {base : Heap} {t : Adr}
theorem zdy {many : Nat} {base : Int} {ds : List Int} (h : zcO many base ds) {i : Int} (h0 : 0 ≤ i) (h1 : i < many) : ∃ d,atI (ds.map V.int) i = some (.int d) ∧ 0 ≤ d ∧ d < base:=by
 obtain ⟨n,rfl⟩ : ∃ n : Nat,i = n:=⟨i.toNat,by omega⟩
 have hn : n < ds.length:=by rw [h.1]; omega
 refine ⟨ds[n]'hn,zal (by rw [List.getElem?_map,List.getElem?_eq_getElem hn]; rfl),h.2 _ (List.getElem_mem hn)⟩
def zao (p : Int) (wide : Nat) (r : List Int) : Prop:=1 ≤ r.length ∧ r.length ≤ wide ∧ ∀ v ∈ r,0 ≤ v ∧ v < p
theorem zao.set {p : Int} {wide : Nat} {r : List Int} (h : zao p wide r) {v : Int} (h0 : 0 ≤ v) (h1 : v < p) (i : Nat) : zao p wide (r.set i v):=by
 refine ⟨by rw [List.length_set]; exact h.1,by rw [List.length_set]; exact h.2.1,fun z hz => ?_⟩
 rcases List.mem_or_eq_of_mem_set hz with hz | rfl
 ·exact h.2.2 z hz
 ·exact ⟨h0,h1⟩
theorem zhU {H : Hp} {ls : List Addr} {vv : List (List Int)} (h : LsA H ls vv) {D : Addr} (hD : H D = none) : D ∉ ls:=fun hm => by
 obtain ⟨i,hi⟩:=List.mem_iff_getElem?.mp hm
 obtain ⟨v,_,hv⟩:=Paired.get h hi
 rw [hD] at hv
 cases hv
theorem zd6 {H H' : Hp} {ls : List Addr} {vv : List (List Int)} {D : Addr} (hD : D ∉ ls) (k : ∀ b o,b ≠ D → H b = some o → H' b = some o) (h : LsA H ls vv) : LsA H' ls vv:=by
 induction h with
 | nil => exact .nil
 | cons h1 _ ih => exact .cons (k _ _ (fun e => hD (by rw [← e]; exact List.mem_cons_self)) h1) (ih fun z => hD (List.mem_cons_of_mem _ z))
theorem zbO {α β : Type} {R : α → β → Prop} : ∀ {as : List α} {bs : List β} {x : α} {y : β},Paired R (as ++ [x]) (bs ++ [y]) → Paired R as bs ∧ R x y
 | [],[],_,_,h => by cases h with | cons h1 _ => exact ⟨.nil,h1⟩
 | [],b :: bs,_,_,h => by have:=Paired.length h; simp at this
 | a :: as,[],_,_,h => by have:=Paired.length h; simp at this
 | a :: as,b :: bs,_,_,h => by
  cases h with
  | cons h1 h2 =>
   obtain ⟨p1,p2⟩:=zbO h2
   exact ⟨.cons h1 p1,p2⟩
def Mxs (ms : List Int) (rows : List (List Int)) : Prop:=Paired (fun m r => m ∈ r ∧ ∀ a ∈ r,a ≤ m) ms rows
def zd7 (K : PySem.W.Frag) : Sp:=fun vs H Q _ => ∃ (a : Addr) (ns : List Int) (at0 p : Int) (high wide : Nat),vs = [.ref a,.int at0,.int p,.int (high : Int),.int (wide : Int)] ∧ SqL K H a (ns.map V.int) ∧ ns.length ≤ 63 ∧ 0 ≤ at0 ∧ at0 ≤ 900 ∧ 5 ≤ p ∧ p ≤ 97 ∧ 1 ≤ high ∧ high ≤ 50 ∧ 1 ≤ wide ∧ wide ≤ 100 ∧
 ∀ (l : Addr) (ls : List Addr) (rows : List (List Int)) (H' : Hp),H l = none → zx H H' → H' l = some (.tup (ls.map V.ref)) → zae H' ls rows → 1 ≤ rows.length → rows.length ≤ high → (∀ r ∈ rows,zao p wide r) → (∃ r ∈ rows,∃ v ∈ r,v ≠ 0) → Q (.ref l) H'
theorem z8 : FnScope ["script","at","p","high","wide","plan","draws","lines","j","many","i"] ["script","at","p","high","wide"] (zh zaq):=⟨rfl,rfl,rfl,by decide +kernel,rfl,by decide +kernel,by decide +kernel⟩
theorem zd8 {fd : FuncData} (T : Txt K mg t) (F : Fun K "_law_curve" "_law_curve" zaq t.l_curve fd) : FnOk P w K mg base CX0 3 t.l_curve fd ["script","at","p","high","wide"] (zd7 K):=by
 obtain ⟨fd_l_draws,F_l_draws,b_l_draws⟩:=T.f_l_draws
 have G_l_draws:=zbs (P:=P) (w:=w) (base:=base) T F_l_draws
 refine F.ok z8 (fun vs H Q E h => ?_) (fun cdv A outer s H vs Q E hr h => ?_)
 ·obtain ⟨a,ns,at0,p,high,wide,rfl,_⟩:=h
  rfl
 ·obtain ⟨a,ns,at0,p,high,wide,rfl,hS,hlen,a0,a1,p5,p97,hi1,hi2,wi1,wi2,q⟩:=h
  refine ⟨_,(@zf _ _ _ _ _ (@zl _ _ (5) _ _ _ _ z8.nd rfl (Or.inl rfl) (@zm _ _ _ _ _ _ _ _ _ _ _ _ _ _ _ _ G_l_draws (hr.mono (by decide)) rfl T.m_l_draws F_l_draws.kp b_l_draws .nil (@zH _) (@za _ _ _ _ _ (@pvx _ 0 _ _ rfl) (by exact (@za _ _ _ _ _ (@pvx _ 1 _ _ rfl) (@za _ _ _ _ _ (@ze _ _ _ _) (@za _ _ _ _ _ (@ze _ _ _ _) (@zd _) (by rfl)) (by rfl)) (by rfl))) (by rfl)) (by decide) (by rfl) (by rfl)) (by rfl) (by trivial)) (by exact (@zf _ _ _ _ _ (@zl _ _ (6) _ _ _ _ z8.nd rfl (Or.inl rfl) (@zm _ _ _ _ _ _ _ _ _ _ _ _ _ _ _ _ G_l_draws (hr.mono (by decide)) rfl T.m_l_draws F_l_draws.kp b_l_draws .nil (@zH _) (@za _ _ _ _ _ (@pvx _ 0 _ _ rfl) (by exact (@za _ _ _ _ _ (@zg _ _ _ _ _ _ _ _ (@zu _) (@pvx _ 1 _ _ rfl) (@ze _ _ _ _)) (@za _ _ _ _ _ (@ze _ _ _ _) (@za _ _ _ _ _ (@ze _ _ _ _) (@zd _) (by rfl)) (by rfl)) (by rfl))) (by rfl)) (by decide) (by rfl) (by rfl)) (by rfl) (by trivial)) (by exact (@zf _ _ _ _ _ (@zl _ _ (7) _ _ _ _ z8.nd rfl (Or.inl rfl) (@zad _ _ _ _ (@zd _)) (by rfl) (by trivial)) (by exact (@zf _ _ _ _ _ (@zZ _ _ _ _ _ _ _ _ PassesOwn.never rfl (@zS _ _ _ _ _ _ rfl T.range_ (@za _ _ _ _ _ (@zg _ _ _ _ _ _ _ _ (@zu _) (@ze _ _ _ _) (@zg _ _ _ _ _ _ _ _ (@zq _) (@zC _ _ _ _ _ _ _ (@zr _) (@pvx _ 5 _ _ rfl) (@ze _ _ _ _) (fun _ _ => rfl)) (@pvx _ 3 _ _ rfl))) (@zd _) (by rfl)) (by rfl)) (@zi _ _ (8) _ z8.nd rfl (Or.inl rfl) (by trivial)) (@zf _ _ _ _ _ (@zl _ _ (9) _ _ _ _ z8.nd rfl (Or.inl rfl) (@zg _ _ _ _ _ _ _ _ (@zu _) (@ze _ _ _ _) (@zg _ _ _ _ _ _ _ _ (@zq _) (@zC _ _ _ _ _ _ _ (@zr _) (@pvx _ 6 _ _ rfl) (@pvx _ 8 _ _ rfl) (fun _ _ => rfl)) (@pvx _ 4 _ _ rfl))) (by rfl) (by trivial)) (by exact (@zf _ _ _ _ _ (@zaO _ _ _ _ (@zbI _ _ _ _ _ _ _ _ _ _ _ _ PySem.F.plainAttrs_list PySem.F.slot_list_append PySem.F.type_list_append (@zaE _) (@pvx _ 7 _ _ rfl) (@za _ _ _ _ _ (@zg _ _ _ _ _ _ _ _ (@zfd _) (@zad _ _ _ _ (@za _ _ _ _ _ (@ze _ _ _ _) (@zd _) (by rfl))) (@pvx _ 9 _ _ rfl)) (@zd _) (by rfl)) (by rfl) (by rfl) (by rfl) (by rfl) (by rfl)) (by rfl)) (by exact (@zj _ _ _ (@zZ _ _ _ _ _ _ _ _ PassesOwn.never rfl (@zS _ _ _ _ _ _ rfl T.range_ (@za _ _ _ _ _ (@pvx _ 9 _ _ rfl) (@zd _) (by rfl)) (by rfl)) (@zi _ _ (10) _ z8.nd rfl (Or.inl rfl) (by trivial)) (@zj _ _ _ (@zaY _ _ _ _ _ _ _ _ (@zR _ _ _ _ _ _ _ _ (@zgE _) (@zg _ _ _ _ _ _ _ _ (@zq _) (@zC _ _ _ _ _ _ _ (@zr _) (@pvx _ 6 _ _ rfl) (@zg _ _ _ _ _ _ _ _ (@zq _) (@zg _ _ _ _ _ _ _ _ (@zu _) (@zg _ _ _ _ _ _ _ _ (@zu _) (@ze _ _ _ _) (@zg _ _ _ _ _ _ _ _ (@zD _) (@ze _ _ _ _) (@pvx _ 8 _ _ rfl))) (@pvx _ 10 _ _ rfl)) (@ze _ _ _ _)) (fun _ _ => rfl)) (@ze _ _ _ _)) (@ze _ _ _ _) (z6 _)) (@zj _ _ _ (@zbq _ _ _ _ _ _ (@zg _ _ _ _ _ _ _ _ (@zq _) (@zC _ _ _ _ _ _ _ (@zr _) (@pvx _ 6 _ _ rfl) (@zg _ _ _ _ _ _ _ _ (@zq _) (@zg _ _ _ _ _ _ _ _ (@zu _) (@zg _ _ _ _ _ _ _ _ (@zu _) (@ze _ _ _ _) (@zg _ _ _ _ _ _ _ _ (@zD _) (@ze _ _ _ _) (@pvx _ 8 _ _ rfl))) (@pvx _ 10 _ _ rfl)) (@ze _ _ _ _)) (fun _ _ => rfl)) (@pvx _ 2 _ _ rfl)) (@zdH _ _ _ _ _ _ _ (@zC _ _ _ _ _ _ _ (@zr _) (@pvx _ 7 _ _ rfl) (@zed _ _ _ _ _ _ zcD (@ze _ _ _ _)) (fun _ _ => rfl)) (@pvx _ 10 _ _ rfl) set_list (by intro _; rfl)) (by rfl) (by rfl) (by rfl))) (@zab _))) (by intro _; rfl))))))) (by intro _; rfl)) (by exact (@zf _ _ _ _ _ (zhf (@zaY _ _ _ _ _ _ _ _ (@zR _ _ _ _ _ _ _ _ (@zgC _) (@zp _ _ _ _ _ _ _ _ _ (@zaH _ rfl) (by rfl) T.max_ boot_max (@za _ _ _ _ _ (@zL _ _ _ _ _ _ _ _ _ _ _ _ _ (CompSc.of (N':=["line"]) (ix:=[none]) (zh zaq) ["script","at","p","high","wide","plan","draws","lines","j","many","i"] rfl rfl (by decide +kernel)) rfl (@zY _ _ rfl) (@zax _ _ _ _ (@pvx _ 7 _ _ rfl)) (fun _ _ _ _ => (@zi _ _ (0) _ (show (["line"] : List Str).Nodup by decide +kernel) rfl (Or.inl rfl) (by trivial))) (fun _ _ _ _ => (@zI _)) (fun _ _ _ _ => (@zp _ _ _ _ _ _ _ _ _ (zd5 (K:=K) rfl rfl) (by rfl) T.max_ boot_max (@za _ _ _ _ _ (@pvx _ 0 _ _ rfl) (@zd _) (by rfl)) (by decide) (by decide) (by rfl) (by rfl))) (by intro _; rfl)) (@zd _) (by rfl)) (by decide) (by decide) (by rfl) (by rfl)) (@ze _ _ _ _) (z6 _)) (@zj _ _ _ (@zbq _ _ _ _ _ _ (@ze _ _ _ _) (@zdH _ _ _ _ _ _ _ (@zC _ _ _ _ _ _ _ (@zr _) (@pvx _ 7 _ _ rfl) (@zed _ _ _ _ _ _ zcD (@ze _ _ _ _)) (fun _ _ => rfl)) (@zed _ _ _ _ _ _ zcD (@ze _ _ _ _)) set_list (by intro _; rfl)) (by rfl) (by rfl) (by rfl))) (@zab _))) (by exact (@zj _ _ _ (@zB _ _ _ _ (@zM _ _ _ _ _ _ _ _ _ (@zP _) (by rfl) T.tuple_ boot_tuple (@za _ _ _ _ _ (@zL _ _ _ _ _ _ _ _ _ _ _ _ _ (CompSc.of (N':=["line"]) (ix:=[none]) (zh zaq) ["script","at","p","high","wide","plan","draws","lines","j","many","i"] rfl rfl (by decide +kernel)) rfl (@zY _ _ rfl) (@zax _ _ _ _ (@pvx _ 7 _ _ rfl)) (fun _ _ _ _ => (@zi _ _ (0) _ (show (["line"] : List Str).Nodup by decide +kernel) rfl (Or.inl rfl) (by trivial))) (fun _ _ _ _ => (@zI _)) (fun _ _ _ _ => (@zM _ _ _ _ _ _ _ _ _ (zbd (K:=K) rfl) (by rfl) T.tuple_ boot_tuple (@za _ _ _ _ _ (@pvx _ 0 _ _ rfl) (@zd _) (by rfl)) (by decide) (by decide) (by rfl) (by rfl))) (by intro _; rfl)) (@zd _) (by rfl)) (by decide) (by decide) (by rfl) (by rfl)))))))))))))),?_⟩
  have hsl:=sizeLine_eq
  refine ⟨_,rfl,_,rfl,a,ns,at0,4,27720,rfl,hS,hlen,by omega,by omega,by decide,by decide,by decide,by decide,fun l1 d1 H1 hl1 s1 ok1 h1 => ?_⟩
  refine ⟨_,rfl,_,rfl,_,_,rfl,rfl,a,ns,at0 + 1,60,27720,rfl,s1.seq hS,hlen,by omega,by omega,by decide,by decide,by decide,by decide,fun l2 d2 H2 hl2 s2 ok2 h2 => ?_⟩
  have h1:=s2 _ _ h1
  have s02:=s1.trans s2
  refine ⟨Nat.zero_le _,fun L hL => ?_⟩
  have LH:=hL
  have sL:=zb (o:=.lst []) hL
  obtain ⟨d,hd,d0,d9⟩:=zdy (i:=0) ok1 (by decide) (by decide)
  have dm0:=Int.emod_nonneg d (show (high : Int) ≠ 0 by omega)
  have dm1:=Int.emod_lt_of_pos d (show 0 < (high : Int) by omega)
  refine ⟨_,rfl,l1,_,_,_,rfl,rfl,SqL.of (sL _ _ h1),hd,_,rfl,_,_,rfl,rfl,by omega,_,_,rfl,rfl,_,rfl,by omega,by omega,?_⟩
  generalize hN : (1 + d % (high : Int)).toNat = N
  have N1 : 1 ≤ N:=by omega
  have N2 : N ≤ high:=by omega
  refine zT (lo:=0) (n:=N) (fun j σ H' => ∃ (e8 e9 e10 : Option V),σ = [some (.ref a),some (.int at0),some (.int p),some (.int (high : Int)),some (.int (wide : Int)),some (.ref l1),some (.ref l2),some (.ref L),e8,e9,e10] ∧ zx H2 H' ∧ ∃ (ls : List Addr) (rows : List (List Int)),H' L = some (.lst (ls.map V.ref)) ∧ LsA H' ls rows ∧ (ls.Nodup ∧ ∀ b ∈ ls,H2 b = none) ∧ rows.length = j ∧ ∀ r ∈ rows,zao p wide r) ⟨none,none,none,rfl,sL,[],[],zc,.nil,⟨.nil,fun _ z => nomatch z⟩,rfl,fun _ z => nomatch z⟩ ?_ ?_
  ·rintro j σ H3 hj ⟨e8,e9,e10,rfl,s3,ls,rows,h3L,hls,⟨nd,n2⟩,hjl,hg⟩
   rw [show ((0 : Int) + (j : Int)) = (j : Int) from Int.zero_add _]
   obtain ⟨u,hu,u0,u9⟩:=zdy (i:=(j : Int)) ok2 (by omega) (by show (j : Int) < 60; omega)
   have um0:=Int.emod_nonneg u (show (wide : Int) ≠ 0 by omega)
   have um1:=Int.emod_lt_of_pos u (show 0 < (wide : Int) by omega)
   refine ⟨_,rfl,_,rfl,l2,_,_,_,rfl,rfl,SqL.of (s3 _ _ h2),hu,_,rfl,_,_,rfl,rfl,by omega,_,_,rfl,rfl,?_⟩
   obtain ⟨mn,emn⟩ : ∃ m : Nat,1 + u % (wide : Int) = m:=⟨(1 + u % (wide : Int)).toNat,by omega⟩
   show zaW 9 (.int (1 + u % (wide : Int))) _ _ _
   rw [emn]
   have mn1 : 1 ≤ mn:=by omega
   have mn2 : mn ≤ wide:=by omega
   refine ⟨_,rfl,.inl ⟨rfl,_,SqL.of h3L⟩,by show 1 ≤ sizeLine; omega,fun Z hZ => ?_⟩
   have sZ:=zb (o:=.lst [V.int 0]) hZ
   have emt : ((mn : Int)).toNat = mn:=by omega
   refine ⟨_,rfl,Z,_,_,rfl,rfl,zc,by omega,by omega,by rw [emt]; show 1 * mn ≤ sizeLine; omega,fun D hD => ?_⟩
   rw [emt,List.flatten_replicate_singleton]
   have hDr : H3 D = none:=sZ.free hD
   have s4:=sZ.trans (zb (o:=.lst (List.replicate mn (V.int 0))) hD)
   have h4D : upd (upd H3 Z (.lst [V.int 0])) D (.lst (List.replicate mn (V.int 0))) D = some (.lst ((List.replicate mn (0 : Int)).map V.int)):=by rw [zc,List.map_replicate]
   generalize upd (upd H3 Z (.lst [V.int 0])) D (.lst (List.replicate mn (V.int 0))) = H4 at s4 h4D ⊢
   have h4L:=s4 _ _ h3L
   have LD : L ≠ D:=zo h3L hDr
   refine ⟨L,_,_,rfl,rfl,h4L,by rw [List.length_map,Paired.length hls]; omega,?_⟩
   have k5 : ∀ b o,b ≠ L → H4 b = some o → upd H4 L (.lst (ls.map V.ref ++ [V.ref D])) b = some o:=fun b o hb e => by rw [zk hb]; exact e
   have h5L : upd H4 L (.lst (ls.map V.ref ++ [V.ref D])) L = some (.lst ((ls ++ [D]).map V.ref)):=by rw [zc,List.map_append]; rfl
   have s25 : zx H2 (upd H4 L (.lst (ls.map V.ref ++ [V.ref D]))):=zQ (s3.trans s4) hL
   have hls5 : LsA (upd H4 L (.lst (ls.map V.ref ++ [V.ref D]))) ls rows:=zd6 (D:=L) (fun hm => by
    obtain ⟨i,hi⟩:=List.mem_iff_getElem?.mp hm
    exact hls.off h3L i L hi rfl) k5 (hls.same s4)
   have h5D:=k5 D _ (Ne.symm LD) h4D
   generalize upd H4 L (.lst (ls.map V.ref ++ [V.ref D])) = H5 at h5L s25 hls5 h5D ⊢
   have Dls : D ∉ ls:=zhU hls hDr
   have D2 : H2 D = none:=s3.free hDr
   refine ⟨_,rfl,_,rfl,by omega,by omega,zT (lo:=0) (n:=((mn : Int)).toNat) (fun i σ H' => ∃ (e10 : Option V),σ = [some (.ref a),some (.int at0),some (.int p),some (.int (high : Int)),some (.int (wide : Int)),some (.ref l1),some (.ref l2),some (.ref L),some (.int (j : Int)),some (.int (mn : Int)),e10] ∧ (∀ b o,b ≠ D → H5 b = some o → H' b = some o) ∧ ∃ r : List Int,H' D = some (.lst (r.map V.int)) ∧ r.length = mn ∧ zao p wide r) ⟨e10,rfl,fun _ _ _ e => e,_,h5D,List.length_replicate,⟨by rw [List.length_replicate]; exact mn1,by rw [List.length_replicate]; exact mn2,fun v hv => by rw [List.eq_of_mem_replicate hv]; omega⟩⟩ ?_ ?_⟩
   ·rintro i σ H6 hi ⟨e10,rfl,k6,r,h6D,hrl,hgr⟩
    rw [show ((0 : Int) + (i : Int)) = (i : Int) from Int.zero_add _]
    have hi : i < mn:=by omega
    have l2D : l2 ≠ D:=fun e => by rw [e,D2] at h2; cases h2
    have h6l2:=k6 _ _ l2D (s25 _ _ h2)
    have h6L:=k6 _ _ LD h5L
    have x10:=Int.emod_nonneg (23 + 5 * (j : Int) + (i : Int)) (show (60 : Int) ≠ 0 by decide)
    have x11:=Int.emod_lt_of_pos (23 + 5 * (j : Int) + (i : Int)) (show 0 < (60 : Int) by decide)
    have x20:=Int.emod_nonneg (9 + 7 * (j : Int) + (i : Int)) (show (60 : Int) ≠ 0 by decide)
    have x21:=Int.emod_lt_of_pos (9 + 7 * (j : Int) + (i : Int)) (show 0 < (60 : Int) by decide)
    obtain ⟨u1,hu1,u10,u19⟩:=zdy ok2 x10 x11
    obtain ⟨u2,hu2,u20,u29⟩:=zdy ok2 x20 x21
    have v0:=Int.emod_nonneg u2 (show p ≠ 0 by omega)
    have v1:=Int.emod_lt_of_pos u2 (show 0 < p by omega)
    refine ⟨_,rfl,_,rfl,_,_,rfl,rfl,.inl ⟨by decide,by decide⟩,_,_,rfl,rfl,_,rfl,_,_,rfl,rfl,_,_,rfl,rfl,by omega,l2,_,_,_,rfl,rfl,SqL.of h6l2,hu1,_,_,rfl,rfl,by omega,_,_,rfl,rfl,_,rfl,?_⟩
    refine zbE (fun _ => ?_) (fun _ => ⟨_,rfl,k6,r,h6D,hrl,hgr⟩)
    refine ⟨_,rfl,_,rfl,_,_,rfl,rfl,.inl ⟨by decide,by decide⟩,_,_,rfl,rfl,_,rfl,_,_,rfl,rfl,_,_,rfl,rfl,by omega,l2,_,_,_,rfl,rfl,SqL.of h6l2,hu2,_,rfl,_,_,rfl,rfl,by omega,?_⟩
    have hat : atI ((ls ++ [D]).map V.ref) (-1) = some (.ref D):=by rw [List.map_append]; exact zcW
    refine ⟨_,rfl,_,rfl,L,_,_,_,rfl,rfl,SqL.of h6L,hat,_,rfl,D,_,_,i,rfl,rfl,h6D,?_,?_⟩
    ·rw [List.length_map,hrl]
     unfold ixN
     rw [if_pos (by omega),if_pos (by omega)]
     simp
    ·refine ⟨_,rfl,fun b o hb e => by rw [zk hb]; exact k6 b o hb e,r.set i (u2 % p),by rw [zc,List.map_set],by rw [List.length_set]; exact hrl,hgr.set v0 v1 i⟩
   ·rintro σ H6 ⟨e10,rfl,k6,r,h6D,hrl,hgr⟩
    refine ⟨_,_,_,rfl,fun b o e => k6 b o (fun z => by rw [z,D2] at e; cases e) (s25 b o e),ls ++ [D],rows ++ [r],k6 _ _ LD h5L,Paired.snoc (zd6 Dls k6 hls5) h6D,?_,by simp [hjl],?_⟩
    ·refine ⟨?_,fun b hb => (List.mem_append.mp hb).elim (n2 b) fun e => by rw [List.mem_singleton.mp e]; exact D2⟩
     rw [List.nodup_append]
     exact ⟨nd,by simp,fun x hx y hy => by rw [List.mem_singleton.mp hy]; exact fun e => Dls (by rw [← e]; exact hx)⟩
    ·intro r' hr'
     rcases List.mem_append.mp hr' with h | h
     ·exact hg r' h
     ·rw [List.mem_singleton.mp h]; exact hgr
  ·rintro σ H3 ⟨e8,e9,e10,rfl,s3,ls,rows,h3L,hls,⟨nd,n2⟩,hjl,hg⟩
   have hlen:=Paired.length hls
   refine ⟨fun σ H4 => ∃ (e8 e9 e10 : Option V) (rows' : List (List Int)),σ = [some (.ref a),some (.int at0),some (.int p),some (.int (high : Int)),some (.int (wide : Int)),some (.ref l1),some (.ref l2),some (.ref L),e8,e9,e10] ∧ zx H2 H4 ∧ H4 L = some (.lst (ls.map V.ref)) ∧ LsA H4 ls rows' ∧ rows'.length = N ∧ (∀ r ∈ rows',zao p wide r) ∧ ∃ r ∈ rows',∃ v ∈ r,v ≠ 0,?_,?_⟩
   rotate_left
   ·rintro σ H4 ⟨e8,e9,e10,rows',rfl,s4,h4L,hls',hl',hg',hne⟩
    have hlen':=Paired.length hls'
    refine ⟨_,rfl,L,rfl,⟨_,SqL.of h4L⟩,z5 (n:=N) (fun m ys H' => zx H4 H' ∧ ∃ us : List Addr,ys = us.map V.ref ∧ zae H' us (rows'.take m)) ⟨fun _ _ e => e,[],rfl,.nil⟩ ?_ ?_ ?_ ?_⟩
    ·rintro m ys H7 hm ⟨s7,_⟩
     exact ⟨_,.ref (ls[m]'(by omega)),SqL.of (s7 _ _ h4L),by rw [List.getElem?_map,List.getElem?_eq_getElem (by omega)]; rfl⟩
    ·rintro ys H7 ⟨s7,_⟩
     exact ⟨_,SqL.of (s7 _ _ h4L),by rw [List.length_map]; omega⟩
    ·rintro m z ys H7 H8 hm ⟨s7,us,rfl,hus⟩ ⟨rfl,hx⟩
     obtain ⟨b,rfl,hbm⟩:=zO (hx _ (SqL.of (s7 _ _ h4L)))
     obtain ⟨r,hr,hrb⟩:=Paired.get hls' hbm
     have hz : us.length = m:=by rw [Paired.length hus,List.length_take]; omega
     refine gY ?_
     refine ⟨_,rfl,b,_,rfl,.inl ⟨SqL.of (s7 _ _ hrb),fun D hD => ⟨by rw [List.length_map]; omega,s7.trans (zb hD),us ++ [D],by simp,?_⟩⟩⟩
     rw [take_snoc hr]
     exact Paired.snoc (hus.same (zb hD)) zc
    ·rintro ys H7 D ⟨s7,us,rfl,hus⟩ hD
     rw [List.take_of_length_le (by omega)] at hus
     refine ⟨D,_,rfl,.inl ⟨SqL.of zc,fun l hl => ?_⟩⟩
     have sf:=((s02.trans s4).trans s7).trans (zb (o:=.lst (us.map V.ref)) hD)
     exact q l us rows' _ (sf.free hl) (sf.trans (zb hl)) zc ((hus.same (zb hD)).same (zb hl)) (by omega) (by omega) hg' hne
   refine ⟨_,rfl,L,rfl,⟨_,SqL.of h3L⟩,z5 (n:=N) (fun m ys H' => H' = H3 ∧ ∃ ms : List Int,ys = ms.map V.int ∧ Mxs ms (rows.take m)) ⟨rfl,[],rfl,.nil⟩ ?_ ?_ ?_ ?_⟩
   ·rintro m ys H4 hm ⟨rfl,_⟩
    exact ⟨_,.ref (ls[m]'(by omega)),SqL.of h3L,by rw [List.getElem?_map,List.getElem?_eq_getElem (by omega)]; rfl⟩
   ·rintro ys H4 ⟨rfl,_⟩
    exact ⟨_,SqL.of h3L,by rw [List.length_map]; omega⟩
   ·rintro m z ys H4 H5 hm ⟨rfl,ms,rfl,hms⟩ ⟨rfl,hx⟩
    obtain ⟨b,rfl,hbm⟩:=zO (hx _ (SqL.of h3L))
    obtain ⟨r,hr,hrb⟩:=Paired.get hls hbm
    have hz : ms.length = m:=by rw [Paired.length hms,List.length_take]; omega
    refine gY ?_
    refine ⟨_,rfl,b,r,rfl,SqL.of hrb,fun e => ?_,fun M hM hM' => ⟨by rw [List.length_map]; omega,rfl,ms ++ [M],by simp,?_⟩⟩
    ·have:=(hg r (List.mem_of_getElem? hr)).1
     rw [e] at this
     simp at this
    ·rw [take_snoc hr]
     exact Paired.snoc hms ⟨hM,hM'⟩
   ·rintro ys H4 D ⟨rfl,ms,rfl,hms⟩ hD
    rw [List.take_of_length_le (by omega)] at hms
    have hml:=Paired.length hms
    refine ⟨D,ms,rfl,SqL.of zc,fun e => by rw [e] at hml; simp at hml; omega,fun M hM hM' => ?_⟩
    have sD:=zb (o:=.lst (ms.map V.int)) hD
    have hls4:=hls.same sD
    have h4L:=sD _ _ h3L
    have s4:=s3.trans sD
    generalize upd H4 D (.lst (ms.map V.int)) = H5 at sD hls4 h4L s4 ⊢
    refine ⟨rfl,_,rfl,?_⟩
    refine zbE (fun _ => ?_) (fun hM0 => ?_)
    ·obtain ⟨ls',b,els⟩ : ∃ ls' b,ls = ls' ++ [b]:=⟨_,_,(List.dropLast_concat_getLast (l:=ls) (fun e => by rw [e] at hlen; simp at hlen; omega)).symm⟩
     obtain ⟨rows',r,erw⟩ : ∃ rows' r,rows = rows' ++ [r]:=⟨_,_,(List.dropLast_concat_getLast (l:=rows) (fun e => by rw [e] at hjl; simp at hjl; omega)).symm⟩
     subst els
     subst erw
     have hl' : ls'.length = rows'.length:=by simpa using hlen
     obtain ⟨hA,hB⟩ : LsA H5 ls' rows' ∧ H5 b = some (.lst (r.map V.int)):=zbO hls4
     have hgr:=hg r (by simp)
     have nb : b ∉ ls':=by
      rw [List.nodup_append] at nd
      exact fun z => nd.2.2 b z b (by simp) rfl
     have bL : b ≠ L:=hls4.off h4L ls'.length b (by simp)
     have hat : atI ((ls' ++ [b]).map V.ref) (-1) = some (.ref b):=by rw [List.map_append]; exact zcW
     refine ⟨_,rfl,_,rfl,L,_,_,_,rfl,rfl,SqL.of h4L,hat,_,rfl,b,_,_,r.length - 1,rfl,rfl,hB,?_,?_⟩
     ·rw [List.length_map]
      unfold ixN
      have:=hgr.1
      rw [if_neg (by decide),if_pos (by omega)]
      congr 1
      omega
     ·refine ⟨_,_,_,rows' ++ [r.set (r.length - 1) 1],rfl,zQ s4 ?_,by rw [zk bL.symm]; exact h4L,Paired.snoc (zd6 nb (fun c o hc e => by rw [zk hc]; exact e) hA) (by rw [zc,List.map_set]),?_,?_,?_⟩
      ·exact n2 b (by simp)
      ·simpa using hjl
      ·intro r' hr'
       rcases List.mem_append.mp hr' with h | h
       ·exact hg r' (by simp [h])
       ·rw [List.mem_singleton.mp h]; exact hgr.set (by decide) (by omega) _
      ·have:=hgr.1
       exact ⟨_,List.mem_append_right _ (List.mem_singleton.mpr rfl),1,List.mem_iff_getElem?.mpr ⟨r.length - 1,by rw [List.getElem?_set_self (by omega)]⟩,by decide⟩
    ·refine ⟨_,_,_,rows,rfl,s4,h4L,hls4,hjl,hg,?_⟩
     obtain ⟨i,hi⟩:=List.mem_iff_getElem?.mp hM
     obtain ⟨r,hr,hr1,_⟩:=Paired.get hms hi
     exact ⟨r,List.mem_of_getElem? hr,M,hr1,by simpa using hM0⟩
end
end My
end
section
set_option maxHeartbeats 3999000
namespace My
open PySem L2 PyProof.Rows
theorem zb9 {f : Nat → Int} (m : Nat) : ∀ n,sm (m + n) f = sm m f + sm n fun j => f (m + j)
 | 0 => by show sm m f = sm m f + 0; omega
 | n + 1 => by
  show sm (m + n) f + f (m + n) = sm m f + (sm n (fun j => f (m + j)) + f (m + n))
  rw [zb9 m n]
  omega
end My
end
section
set_option maxHeartbeats 3999000
namespace My
open PySem L2 PyProof.Rows
section
variable {P : Program} {w : World} {K : PySem.W.Frag} {mg : Str → Option Value} {base : Heap} {t : Adr}
def lmT (p x y : Int) (rows : List (List Int)) (j i t s : Nat) : Int:=cu rows t s * ch t j * ch s i * (x ^ (s - i) % p) * (y ^ (t - j) % p)
theorem zhl {p x y : Int} {rows : List (List Int)} {j i : Nat} (hj : j < rows.length) (hi : i < wd rows) :
  Cg p (sm (rows.length - j) fun m => sm ((rows.getD (j + m) []).length - i) fun k => lmT p x y rows j i (j + m) (i + k)) (mv x y rows.length (wd rows) (cu rows) j i):=by
 rw [zgK]
 have e1 : rows.length = j + (rows.length - j):=by omega
 have e2 : wd rows = i + (wd rows - i):=by omega
 have inner : ∀ t,t < rows.length → sm (wd rows) (fun s => cu rows t s * ch t j * ch s i * x ^ (s - i) * y ^ (t - j)) = sm ((rows.getD t []).length - i) fun k => cu rows t (i + k) * ch t j * ch (i + k) i * x ^ (i + k - i) * y ^ (t - j):=fun t ht => by
  have hl : (rows.getD t []).length ≤ wd rows:=zbB (by rw [List.getD_eq_getElem?_getD,List.getElem?_eq_getElem ht]; exact List.getElem_mem ht)
  rw [e2,zb9,zaS (f:=fun s => cu rows t s * ch t j * ch s i * x ^ (s - i) * y ^ (t - j)) (n:=i) fun s hs => by rw [zbx hs]; simp,Int.zero_add]
  refine zcQ (by omega) fun k h1 h2 => ?_
  have : cu rows t (i + k) = 0:=zfy (by omega)
  rw [this]
  simp
 rw [z4 (n:=rows.length) (fun t ht => inner t ht)]
 have : sm rows.length (fun t => sm ((rows.getD t []).length - i) fun k => cu rows t (i + k) * ch t j * ch (i + k) i * x ^ (i + k - i) * y ^ (t - j)) = sm (rows.length - j) fun m => sm ((rows.getD (j + m) []).length - i) fun k => cu rows (j + m) (i + k) * ch (j + m) j * ch (i + k) i * x ^ (i + k - i) * y ^ (j + m - j):=by
  conv => lhs; rw [e1]
  rw [zb9,zaS (n:=j),Int.zero_add]
  intro t ht
  refine zaS fun k _ => ?_
  rw [zbx ht]
  simp
 rw [this]
 refine zfx fun m _ => zfx fun k _ => ?_
 unfold lmT
 exact ((Cg.refl p _).mul (Cg.emod p _)).mul (Cg.emod p _)
theorem zae.off {H : Hp} {F : Addr} {xs : List V} {o : HO} {us : List Addr} {rows : List (List Int)} (h : zae H us rows) (hF : H F = some (.lst xs)) : zae (upd H F o) us rows:=Paired.mono (fun b v z => by rw [zk (fun e => by rw [e,hF] at z; cases z)]; exact z) h
def zd9 (K : PySem.W.Frag) : Sp:=fun vs H Q _ => ∃ (p : Int) (a pt : Addr) (x y : Int) (bs : List Addr) (rows : List (List Int)),vs = [.int p,.ref a,.ref pt] ∧ 5 ≤ p ∧ p ≤ 97 ∧ 0 ≤ x ∧ x < p ∧ 0 ≤ y ∧ y < p ∧ H a = some (.tup (bs.map V.ref)) ∧ zae H bs rows ∧ H pt = some (.tup [.int x,.int y]) ∧ 1 ≤ rows.length ∧ rows.length ≤ 12 ∧ (∀ r ∈ rows,1 ≤ r.length ∧ r.length ≤ 12 ∧ ∀ v ∈ r,0 ≤ v ∧ v < p) ∧
 ∀ (l : Addr) (ls : List Addr) (H' : Hp),H l = none → zx H H' → H' l = some (.tup (ls.map V.ref)) → zae H' ls (mvd p x y rows) → Q (.ref l) H'
theorem zA : FnScope ["p","curve","point","a","b","wide","right","up","found","j","line","i","total","t","s"] ["p","curve","point"] (zh zaJ):=⟨rfl,rfl,rfl,by decide +kernel,rfl,by decide +kernel,by decide +kernel⟩
theorem zca {fd : FuncData} (T : Txt K mg t) (F : Fun K "_law_moved" "_law_moved" zaJ t.l_moved fd) : FnOk P w K mg base CX0 2 t.l_moved fd ["p","curve","point"] (zd9 K):=by
 obtain ⟨fd_l_powers,F_l_powers,b_l_powers⟩:=T.f_l_powers
 have G_l_powers:=zdn (P:=P) (w:=w) (base:=base) T F_l_powers
 obtain ⟨fd_l_choose,F_l_choose,b_l_choose⟩:=T.f_l_choose
 have G_l_choose:=zdr (P:=P) (w:=w) (base:=base) T F_l_choose
 refine F.ok zA (fun vs H Q E h => ?_) (fun cdv A outer s H vs Q E hr h => ?_)
 ·obtain ⟨p,a,pt,x,y,bs,rows,rfl,_⟩:=h
  rfl
 ·obtain ⟨p,a,pt,x,y,bs,rows,rfl,p5,p97,x0,x1,y0,y1,ha,hb,hpt,hn1,hn,hw,q⟩:=h
  refine ⟨_,(@zf _ _ _ _ _ (@zbq _ _ _ _ _ _ (@pvx _ 2 _ _ rfl) (@zaZ _ _ _ _ _ _ rfl (@zn _ _ _ _ _ (@zi _ _ (3) _ zA.nd rfl (Or.inl rfl) (by trivial)) (@zn _ _ _ _ _ (@zi _ _ (4) _ zA.nd rfl (Or.inl rfl) (by trivial)) (@zW _) (by rfl)) (by rfl)) (by rfl) (by rfl)) (by rfl) (by rfl) (by rfl)) (by exact (@zf _ _ _ _ _ (@zl _ _ (5) _ _ _ _ zA.nd rfl (Or.inl rfl) (@zp _ _ _ _ _ _ _ _ _ (@zaH _ rfl) (by rfl) T.max_ boot_max (@za _ _ _ _ _ (@zL _ _ _ _ _ _ _ _ _ _ _ _ _ (CompSc.of (N':=["line"]) (ix:=[none]) (zh zaJ) ["p","curve","point","a","b","wide","right","up","found","j","line","i","total","t","s"] rfl rfl (by decide +kernel)) rfl (@zY _ _ rfl) (@zbC _ _ _ _ (@pvx _ 1 _ _ rfl)) (fun _ _ _ _ => (@zi _ _ (0) _ (show (["line"] : List Str).Nodup by decide +kernel) rfl (Or.inl rfl) (by trivial))) (fun _ _ _ _ => (@zI _)) (fun _ _ _ _ => (@zp _ _ _ _ _ _ _ _ _ (@zU _ (K) rfl) (by rfl) T.len_ boot_len (@za _ _ _ _ _ (@pvx _ 0 _ _ rfl) (@zd _) (by rfl)) (by decide) (by decide) (by rfl) (by rfl))) (by intro _; rfl)) (@zd _) (by rfl)) (by decide) (by decide) (by rfl) (by rfl)) (by rfl) (by trivial)) (by exact (@zf _ _ _ _ _ (@zl _ _ (6) _ _ _ _ zA.nd rfl (Or.inl rfl) (@zm _ _ _ _ _ _ _ _ _ _ _ _ _ _ _ _ G_l_powers (hr.mono (by decide)) rfl T.m_l_powers F_l_powers.kp b_l_powers .nil (@zH _) (@za _ _ _ _ _ (@pvx _ 0 _ _ rfl) (@za _ _ _ _ _ (@pvx _ 3 _ _ rfl) (@za _ _ _ _ _ (@pvx _ 5 _ _ rfl) (@zd _) (by rfl)) (by rfl)) (by rfl)) (by decide) (by rfl) (by rfl)) (by rfl) (by trivial)) (by exact (@zf _ _ _ _ _ (@zl _ _ (7) _ _ _ _ zA.nd rfl (Or.inl rfl) (@zm _ _ _ _ _ _ _ _ _ _ _ _ _ _ _ _ G_l_powers (hr.mono (by decide)) rfl T.m_l_powers F_l_powers.kp b_l_powers .nil (@zH _) (@za _ _ _ _ _ (@pvx _ 0 _ _ rfl) (@za _ _ _ _ _ (@pvx _ 4 _ _ rfl) (@za _ _ _ _ _ (@zp _ _ _ _ _ _ _ _ _ (@zw _) (by rfl) T.len_ boot_len (@za _ _ _ _ _ (@pvx _ 1 _ _ rfl) (@zd _) (by rfl)) (by decide) (by decide) (by rfl) (by rfl)) (@zd _) (by rfl)) (by rfl)) (by rfl)) (by decide) (by rfl) (by rfl)) (by rfl) (by trivial)) (by exact (@zf _ _ _ _ _ (@zl _ _ (8) _ _ _ _ zA.nd rfl (Or.inl rfl) (@zad _ _ _ _ (@zd _)) (by rfl) (by trivial)) (by exact (@zf _ _ _ _ _ (@zZ _ _ _ _ _ _ _ _ PassesOwn.never rfl (@zS _ _ _ _ _ _ rfl T.range_ (@za _ _ _ _ _ (@zp _ _ _ _ _ _ _ _ _ (@zw _) (by rfl) T.len_ boot_len (@za _ _ _ _ _ (@pvx _ 1 _ _ rfl) (@zd _) (by rfl)) (by decide) (by decide) (by rfl) (by rfl)) (@zd _) (by rfl)) (by rfl)) (@zi _ _ (9) _ zA.nd rfl (Or.inl rfl) (by trivial)) (@zf _ _ _ _ _ (@zl _ _ (10) _ _ _ _ zA.nd rfl (Or.inl rfl) (@zad _ _ _ _ (@zd _)) (by rfl) (by trivial)) (by exact (@zf _ _ _ _ _ (@zZ _ _ _ _ _ _ _ _ PassesOwn.never rfl (@zS _ _ _ _ _ _ rfl T.range_ (@za _ _ _ _ _ (@pvx _ 5 _ _ rfl) (@zd _) (by rfl)) (by rfl)) (@zi _ _ (11) _ zA.nd rfl (Or.inl rfl) (by trivial)) (@zf _ _ _ _ _ (@zl _ _ (12) _ _ _ _ zA.nd rfl (Or.inl rfl) (@ze _ _ _ _) (by rfl) (by trivial)) (by exact (@zf _ _ _ _ _ (@zZ _ _ _ _ _ _ _ _ PassesOwn.never rfl (@zci _ _ _ _ _ _ _ rfl T.range_ (@za _ _ _ _ _ (@pvx _ 9 _ _ rfl) (@za _ _ _ _ _ (@zp _ _ _ _ _ _ _ _ _ (@zw _) (by rfl) T.len_ boot_len (@za _ _ _ _ _ (@pvx _ 1 _ _ rfl) (@zd _) (by rfl)) (by decide) (by decide) (by rfl) (by rfl)) (@zd _) (by rfl)) (by rfl)) (by rfl) (by rfl)) (@zi _ _ (13) _ zA.nd rfl (Or.inl rfl) (by trivial)) (@zj _ _ _ (@zZ _ _ _ _ _ _ _ _ PassesOwn.never rfl (@zci _ _ _ _ _ _ _ rfl T.range_ (@za _ _ _ _ _ (@pvx _ 11 _ _ rfl) (@za _ _ _ _ _ (@zp _ _ _ _ _ _ _ _ _ (@zw _) (by rfl) T.len_ boot_len (@za _ _ _ _ _ (@zC _ _ _ _ _ _ _ (@zbD _) (@pvx _ 1 _ _ rfl) (@pvx _ 13 _ _ rfl) (fun _ _ => rfl)) (@zd _) (by rfl)) (by decide) (by decide) (by rfl) (by rfl)) (@zd _) (by rfl)) (by rfl)) (by rfl) (by rfl)) (@zi _ _ (14) _ zA.nd rfl (Or.inl rfl) (by trivial)) (@zj _ _ _ (@zl _ _ (12) _ _ _ _ zA.nd rfl (Or.inl rfl) (@zg _ _ _ _ _ _ _ _ (@zu _) (@pvx _ 12 _ _ rfl) (@zg _ _ _ _ _ _ _ _ (@zD _) (@zg _ _ _ _ _ _ _ _ (@zD _) (@zg _ _ _ _ _ _ _ _ (@zD _) (@zg _ _ _ _ _ _ _ _ (@zD _) (@zC _ _ _ _ _ _ _ (@zbD _) (@zC _ _ _ _ _ _ _ (@zbD _) (@pvx _ 1 _ _ rfl) (@pvx _ 13 _ _ rfl) (fun _ _ => rfl)) (@pvx _ 14 _ _ rfl) (fun _ _ => rfl)) (@zm _ _ _ _ _ _ _ _ _ _ _ _ _ _ _ _ G_l_choose (hr.mono (by decide)) rfl T.m_l_choose F_l_choose.kp b_l_choose .nil (@zH _) (@za _ _ _ _ _ (@pvx _ 13 _ _ rfl) (@za _ _ _ _ _ (@pvx _ 9 _ _ rfl) (@zd _) (by rfl)) (by rfl)) (by decide) (by rfl) (by rfl))) (@zm _ _ _ _ _ _ _ _ _ _ _ _ _ _ _ _ G_l_choose (hr.mono (by decide)) rfl T.m_l_choose F_l_choose.kp b_l_choose .nil (@zH _) (@za _ _ _ _ _ (@pvx _ 14 _ _ rfl) (@za _ _ _ _ _ (@pvx _ 11 _ _ rfl) (@zd _) (by rfl)) (by rfl)) (by decide) (by rfl) (by rfl))) (@zC _ _ _ _ _ _ _ (@zr _) (@pvx _ 6 _ _ rfl) (@zg _ _ _ _ _ _ _ _ (@zas _) (@pvx _ 14 _ _ rfl) (@pvx _ 11 _ _ rfl)) (fun _ _ => rfl))) (@zC _ _ _ _ _ _ _ (@zr _) (@pvx _ 7 _ _ rfl) (@zg _ _ _ _ _ _ _ _ (@zas _) (@pvx _ 13 _ _ rfl) (@pvx _ 9 _ _ rfl)) (fun _ _ => rfl)))) (by rfl) (by trivial))) (by intro _; rfl))) (by intro _; rfl)) (by exact (@zj _ _ _ (@zaO _ _ _ _ (@zbI _ _ _ _ _ _ _ _ _ _ _ _ PySem.F.plainAttrs_list PySem.F.slot_list_append PySem.F.type_list_append (@zaE _) (@pvx _ 10 _ _ rfl) (@za _ _ _ _ _ (@zg _ _ _ _ _ _ _ _ (@zq _) (@pvx _ 12 _ _ rfl) (@pvx _ 0 _ _ rfl)) (@zd _) (by rfl)) (by rfl) (by rfl) (by rfl) (by rfl) (by rfl)) (by rfl))))))) (by intro _; rfl)) (by exact (@zj _ _ _ (@zaO _ _ _ _ (@zbI _ _ _ _ _ _ _ _ _ _ _ _ PySem.F.plainAttrs_list PySem.F.slot_list_append PySem.F.type_list_append (@zaE _) (@pvx _ 8 _ _ rfl) (@za _ _ _ _ _ (@zM _ _ _ _ _ _ _ _ _ (@zP _) (by rfl) T.tuple_ boot_tuple (@za _ _ _ _ _ (@pvx _ 10 _ _ rfl) (@zd _) (by rfl)) (by decide) (by decide) (by rfl) (by rfl)) (@zd _) (by rfl)) (by rfl) (by rfl) (by rfl) (by rfl) (by rfl)) (by rfl))))))) (by intro _; rfl)) (by exact (@zj _ _ _ (@zB _ _ _ _ (@zM _ _ _ _ _ _ _ _ _ (@zP _) (by rfl) T.tuple_ boot_tuple (@za _ _ _ _ _ (@pvx _ 8 _ _ rfl) (@zd _) (by rfl)) (by decide) (by decide) (by rfl) (by rfl)))))))))))))))),?_⟩
  have hsl:=sizeLine_eq
  have wdl : wd rows ≤ 12:=zbH fun r hr => (hw r hr).2.1
  have ne : rows ≠ []:=fun e => by rw [e] at hn1; simp at hn1
  have wd1 : 1 ≤ wd rows:=by
   obtain ⟨r,hr,er⟩:=zbG ne
   rw [← er]; exact (hw r hr).1
  have hlen:=Paired.length hb
  have elen : ((bs.map V.ref).length : Int) = (rows.length : Int):=by rw [List.length_map,hlen]
  have rowAt : ∀ t,t < rows.length → ∃ b r,bs[t]? = some b ∧ rows[t]? = some r ∧ rows.getD t [] = r ∧ H b = some (.tup (r.map V.int)):=fun t ht => by
   have hbt : bs[t]? = some (bs[t]'(by omega)):=List.getElem?_eq_getElem (by omega)
   obtain ⟨r,hr,hrb⟩:=Paired.get hb hbt
   exact ⟨_,r,hbt,hr,by rw [List.getD_eq_getElem?_getD,hr]; rfl,hrb⟩
  refine ⟨_,rfl,pt,_,rfl,SqT.of hpt,rfl,_,_,rfl,_,_,rfl,rfl,?_⟩
  refine ⟨_,rfl,a,rfl,⟨_,SqT.of ha⟩,zaG (fs:=(zG rows).map V.int) (SqT.of ha) (by simp [hlen,zaV]) (by rw [List.length_map]; omega) (fun i u v R B hu hv hR => ?_) (fun D hD => ?_)⟩
  ·obtain ⟨b,rfl,hbi⟩:=zO hu
   obtain ⟨r,hr,hrb⟩:=Paired.get hb hbi
   unfold zG at hv
   rw [List.getElem?_map,List.getElem?_map,hr] at hv
   have hv : V.int (r.length : Int) = v:=by simpa using hv
   subst hv
   refine gY ?_
   refine ⟨_,rfl,b,_,rfl,.inr (SqT.of hrb),?_⟩
   rw [List.length_map]
   exact hR
  refine ⟨D,zG rows,rfl,SqL.of zc,by unfold zG; simpa using ne,fun M hM hM' => ?_⟩
  have eM : M = (wd rows : Int):=zfR (fun e => absurd e (by unfold zG; simpa using ne)) fun _ => ⟨hM,fun a ha => by rw [if_pos rfl]; exact hM' a ha⟩
  subst eM
  have s0:=zb (o:=.lst ((zG rows).map V.int)) hD
  generalize upd H D (.lst ((zG rows).map V.int)) = H0 at s0 ⊢
  refine ⟨_,rfl,_,rfl,_,rfl,p,x,wd rows,rfl,p5,p97,x0,x1,wd1,by omega,fun l1 H1 hl1 s1 h1 => ?_⟩
  refine ⟨_,rfl,_,rfl,_,rfl,a,_,rfl,.inr (SqT.of ((s0.trans s1) _ _ ha)),?_⟩
  rw [elen]
  refine ⟨p,y,rows.length,rfl,p5,p97,y0,y1,hn1,by omega,fun l2 H2 hl2 s2 h2 => ?_⟩
  have h1:=s2 _ _ h1
  have s02:=(s0.trans s1).trans s2
  refine ⟨Nat.zero_le _,fun F hF => ?_⟩
  refine ⟨_,rfl,a,_,rfl,.inr (SqT.of (s02.trans (zb hF) _ _ ha)),?_⟩
  rw [elen]
  have e1 : (rows.length : Int).toNat = rows.length:=by omega
  refine ⟨_,rfl,by omega,by omega,zT (lo:=0) (n:=(rows.length : Int).toNat) (fun j σ H' => ∃ (e9 e10 e11 e12 e13 e14 : Option V),σ = [some (.int p),some (.ref a),some (.ref pt),some (.int x),some (.int y),some (.int (wd rows : Int)),some (.ref l1),some (.ref l2),some (.ref F),e9,e10,e11,e12,e13,e14] ∧ zx H2 H' ∧ ∃ us : List Addr,H' F = some (.lst (us.map V.ref)) ∧ zae H' us ((mvd p x y rows).take j)) ⟨none,none,none,none,none,none,rfl,zb hF,[],zc,.nil⟩ ?_ ?_⟩
  ·rintro j σ H3 hj ⟨e9,e10,e11,e12,e13,e14,rfl,s3,us,h3F,hus⟩
   have hj : j < rows.length:=by omega
   rw [show ((0 : Int) + (j : Int)) = (j : Int) from Int.zero_add _]
   have hz : us.length = j:=by rw [Paired.length hus,List.length_take,show (mvd p x y rows).length = rows.length from zv _ _ _]; omega
   refine ⟨Nat.zero_le _,fun L hL => ?_⟩
   have FL : F ≠ L:=zo h3F hL
   have e5 : (wd rows : Int).toNat = wd rows:=by omega
   refine ⟨_,rfl,_,rfl,by omega,by omega,zT (lo:=0) (n:=(wd rows : Int).toNat) (fun i σ H' => ∃ (e11 e12 e13 e14 : Option V),σ = [some (.int p),some (.ref a),some (.ref pt),some (.int x),some (.int y),some (.int (wd rows : Int)),some (.ref l1),some (.ref l2),some (.ref F),some (.int (j : Int)),some (.ref L),e11,e12,e13,e14] ∧ zx H3 H' ∧ H' L = some (.lst (((List.range i).map fun i => mv x y rows.length (wd rows) (cu rows) j i % p).map V.int))) ⟨e11,e12,e13,e14,rfl,zb hL,zc⟩ ?_ ?_⟩
   ·rintro i σ H4 hi ⟨e11,e12,e13,e14,rfl,s4,h4L⟩
    have hi : i < wd rows:=by omega
    rw [show ((0 : Int) + (i : Int)) = (i : Int) from Int.zero_add _]
    have sA:=(s02.trans s3).trans s4
    have s24:=s3.trans s4
    refine ⟨_,rfl,_,rfl,a,_,rfl,.inr (SqT.of (sA _ _ ha)),?_⟩
    rw [elen]
    have e3 : ((rows.length : Int) - (j : Int)).toNat = rows.length - j:=by omega
    refine ⟨(j : Int),(rows.length : Int),rfl,⟨by omega,by omega,by omega,by omega⟩,zT (lo:=(j : Int)) (n:=((rows.length : Int) - (j : Int)).toNat) (fun m σ H' => H' = H4 ∧ ∃ (e13 e14 : Option V),σ = [some (.int p),some (.ref a),some (.ref pt),some (.int x),some (.int y),some (.int (wd rows : Int)),some (.ref l1),some (.ref l2),some (.ref F),some (.int (j : Int)),some (.ref L),some (.int (i : Int)),some (.int (sm m fun m => sm ((rows.getD (j + m) []).length - i) fun k => lmT p x y rows j i (j + m) (i + k))),e13,e14]) ⟨rfl,e13,e14,rfl⟩ ?_ ?_⟩
    ·rintro m σ H5 hm ⟨rfl,e13,e14,rfl⟩
     rw [show ((j : Int) + (m : Int)) = ((j + m : Nat) : Int) by omega]
     have ht : j + m < rows.length:=by omega
     obtain ⟨b,r,hbt,hr,hg,hrb⟩:=rowAt (j + m) ht
     have hrw:=hw r (List.mem_of_getElem? hr)
     have hrl:=zbB (List.mem_of_getElem? hr)
     have hat : atI (bs.map V.ref) ((j + m : Nat) : Int) = some (.ref b):=zal (by rw [List.getElem?_map,hbt]; rfl)
     have h5b:=sA _ _ hrb
     refine ⟨_,rfl,_,rfl,_,rfl,a,_,_,_,rfl,rfl,SqT.of (sA _ _ ha),hat,b,_,rfl,.inr (SqT.of h5b),?_⟩
     rw [List.length_map]
     refine ⟨(i : Int),(r.length : Int),rfl,⟨by omega,by omega,by omega,by omega⟩,zT (lo:=(i : Int)) (n:=((r.length : Int) - (i : Int)).toNat) (fun k σ H' => H' = H5 ∧ ∃ (e14 : Option V),σ = [some (.int p),some (.ref a),some (.ref pt),some (.int x),some (.int y),some (.int (wd rows : Int)),some (.ref l1),some (.ref l2),some (.ref F),some (.int (j : Int)),some (.ref L),some (.int (i : Int)),some (.int ((sm m fun m => sm ((rows.getD (j + m) []).length - i) fun k => lmT p x y rows j i (j + m) (i + k)) + sm k fun k => lmT p x y rows j i (j + m) (i + k))),some (.int ((j + m : Nat) : Int)),e14]) ⟨rfl,e14,by rw [show (sm 0 fun k => lmT p x y rows j i (j + m) (i + k)) = 0 from rfl,Int.add_zero]; rfl⟩ ?_ ?_⟩
     ·rintro k σ H6 hk ⟨rfl,e14,rfl⟩
      rw [show ((i : Int) + (k : Int)) = ((i + k : Nat) : Int) by omega]
      have hik : i + k < r.length:=by omega
      have c0:=hrw.2.2 (r[i + k]'hik) (List.getElem_mem hik)
      have ec : cu rows (j + m) (i + k) = r[i + k]'hik:=by unfold cu; rw [hg]; exact zbp (List.getElem?_eq_getElem hik)
      have hat2 : atI (r.map V.int) ((i + k : Nat) : Int) = some (.int (cu rows (j + m) (i + k))):=zal (by rw [List.getElem?_map,List.getElem?_eq_getElem hik,ec]; rfl)
      have hat3 : atI ((zbn p x (wd rows)).map V.int) (((i + k : Nat) : Int) - (i : Int)) = some (.int (x ^ (i + k - i) % p)):=by
       rw [show (((i + k : Nat) : Int) - (i : Int)) = ((i + k - i : Nat) : Int) by omega]
       refine zal ?_
       unfold zbn
       rw [List.getElem?_map,List.getElem?_map,List.getElem?_range (by omega)]
       rfl
      have hat4 : atI ((zbn p y rows.length).map V.int) (((j + m : Nat) : Int) - (j : Int)) = some (.int (y ^ (j + m - j) % p)):=by
       rw [show (((j + m : Nat) : Int) - (j : Int)) = ((j + m - j : Nat) : Int) by omega]
       refine zal ?_
       unfold zbn
       rw [List.getElem?_map,List.getElem?_map,List.getElem?_range (by omega)]
       rfl
      have g1:=zdY (j + m) (by omega) j (by omega)
      have g2:=zdY (i + k) (by omega) i (by omega)
      have g30:=Int.emod_nonneg (x ^ (i + k - i)) (show p ≠ 0 by omega)
      have g31:=Int.emod_lt_of_pos (x ^ (i + k - i)) (show 0 < p by omega)
      have g40:=Int.emod_nonneg (y ^ (j + m - j)) (show p ≠ 0 by omega)
      have g41:=Int.emod_lt_of_pos (y ^ (j + m - j)) (show 0 < p by omega)
      refine ⟨_,rfl,_,rfl,_,rfl,a,_,_,_,rfl,rfl,SqT.of (sA _ _ ha),hat,_,rfl,b,_,_,_,rfl,rfl,SqT.of h5b,hat2,?_⟩
      refine ⟨_,rfl,_,rfl,j + m,j,rfl,by omega,by omega,_,_,rfl,rfl,.inl ⟨by omega,by omega⟩,?_⟩
      refine ⟨_,rfl,_,rfl,i + k,i,rfl,by omega,by omega,_,_,rfl,rfl,.inr ⟨by omega,by omega⟩,?_⟩
      refine ⟨_,rfl,_,rfl,_,rfl,_,_,rfl,rfl,l1,_,_,_,rfl,rfl,SqL.of (s24 _ _ h1),hat3,_,_,rfl,rfl,.inr ⟨by omega,by omega⟩,?_⟩
      refine ⟨_,rfl,_,rfl,_,rfl,_,_,rfl,rfl,l2,_,_,_,rfl,rfl,SqL.of (s24 _ _ h2),hat4,_,_,rfl,rfl,.inr ⟨by omega,by omega⟩,_,_,rfl,rfl,?_⟩
      refine ⟨rfl,some (.int ((i + k : Nat) : Int)),?_⟩
      rw [show (sm (k + 1) fun k => lmT p x y rows j i (j + m) (i + k)) = (sm k fun k => lmT p x y rows j i (j + m) (i + k)) + lmT p x y rows j i (j + m) (i + k) from rfl,← Int.add_assoc]
      rfl
     ·rintro σ H6 ⟨rfl,e14,rfl⟩
      refine ⟨rfl,some (.int ((j + m : Nat) : Int)),e14,?_⟩
      rw [show ((r.length : Int) - (i : Int)).toNat = (rows.getD (j + m) []).length - i by rw [hg]; omega]
      rfl
    ·rintro σ H5 ⟨rfl,e13,e14,rfl⟩
     rw [e3]
     refine ⟨_,rfl,.inl ⟨rfl,_,SqL.of h4L⟩,_,rfl,_,rfl,_,_,rfl,rfl,by omega,L,_,_,rfl,rfl,h4L,by rw [List.length_map,List.length_map,List.length_range]; omega,?_⟩
     refine ⟨_,_,_,_,rfl,zQ s4 hL,?_⟩
     have em:=(zhl (p:=p) (x:=x) (y:=y) hj hi).mod_eq
     rw [zc]
     show some (HO.lst (_ ++ [V.int (_ % p)])) = _
     rw [em,List.range_succ,List.map_append,List.map_append]
     rfl
   ·rintro σ H4 ⟨e11,e12,e13,e14,rfl,s4,h4L⟩
    rw [e5] at h4L
    refine ⟨_,rfl,.inl ⟨rfl,_,SqL.of (s4 _ _ h3F)⟩,_,rfl,L,_,rfl,.inl ⟨SqL.of h4L,fun D hD => ?_⟩⟩
    have h4F:=s4 _ _ h3F
    have DF : F ≠ D:=zo h4F hD
    refine ⟨F,_,_,rfl,rfl,by rw [zk DF]; exact h4F,by rw [List.length_map]; omega,?_⟩
    refine ⟨_,_,_,_,_,_,rfl,zQ ((s3.trans s4).trans (zb hD)) hF,us ++ [D],by rw [zc,List.map_append]; rfl,?_⟩
    have hr : (mvd p x y rows)[j]? = some ((List.range (wd rows)).map fun i => mv x y rows.length (wd rows) (cu rows) j i % p):=zap hj
    rw [take_snoc hr]
    exact Paired.snoc ((hus.same (s4.trans (zb hD))).off (by rw [zk DF]; exact h4F)) (by rw [zk DF.symm]; exact zc)
  ·rintro σ H3 ⟨e9,e10,e11,e12,e13,e14,rfl,s3,us,h3F,hus⟩
   rw [e1,List.take_of_length_le (by rw [show (mvd p x y rows).length = rows.length from zv _ _ _]; exact Nat.le_refl _)] at hus
   refine ⟨_,rfl,F,_,rfl,.inl ⟨SqL.of h3F,fun l hl => ?_⟩⟩
   have sf:=s02.trans s3
   exact q l us _ (sf.free hl) (sf.trans (zb hl)) zc (hus.same (zb hl))
end
end My
end
section
set_option maxHeartbeats 3999000
namespace My
open PySem L2 PyProof.Rows
section
variable {P : Program} {w : World} {K : PySem.W.Frag} {mg : Str → Option Value} {base : Heap} {t : Adr}
def wts (ts : List (Int × Int)) : List Int:=ts.map fun q => q.1 + q.2
theorem zbX (ts : List (Int × Int)) : (wts ts).length = ts.length:=by simp [wts]
def zcX (K : PySem.W.Frag) : Sp:=fun vs H Q _ => ∃ (p : Int) (a pt : Addr) (x y : Int) (bs : List Addr) (rows : List (List Int)),vs = [.int p,.ref a,.ref pt] ∧ 5 ≤ p ∧ p ≤ 97 ∧ 0 ≤ x ∧ x < p ∧ 0 ≤ y ∧ y < p ∧ H a = some (.tup (bs.map V.ref)) ∧ zae H bs rows ∧ H pt = some (.tup [.int x,.int y]) ∧ rows.length ≤ 100 ∧ (∀ r ∈ rows,r.length ≤ 100) ∧
 ∀ (M : Int) (H' : Hp),zx H H' → (wts (z0 (mvd p x y rows) rows.length) = [] → M = 0) → (wts (z0 (mvd p x y rows) rows.length) ≠ [] → M ∈ wts (z0 (mvd p x y rows) rows.length) ∧ ∀ z ∈ wts (z0 (mvd p x y rows) rows.length),M ≤ z) → Q (.int M) H'
theorem zcY : FnScope ["p","curve","point"] ["p","curve","point"] (zh zai):=⟨rfl,rfl,rfl,by decide +kernel,rfl,by decide +kernel,by decide +kernel⟩
theorem zcZ {fd : FuncData} (T : Txt K mg t) (F : Fun K "weight_at" "weight_at" zai t.weight_at fd) : FnOk P w K mg base CX0 4 t.weight_at fd ["p","curve","point"] (zcX K):=by
 obtain ⟨fd_terms_of,F_terms_of,b_terms_of⟩:=T.f_terms_of
 have G_terms_of:=zbN (P:=P) (w:=w) (base:=base) T F_terms_of
 obtain ⟨fd_moved,F_moved,b_moved⟩:=T.f_moved
 have G_moved:=zdx (P:=P) (w:=w) (base:=base) T F_moved
 refine F.ok zcY (fun vs H Q E h => ?_) (fun cdv A outer s H vs Q E hr h => ?_)
 ·obtain ⟨p,a,pt,x,y,bs,rows,rfl,_⟩:=h
  rfl
 ·obtain ⟨p,a,pt,x,y,bs,rows,rfl,p5,p97,x0,x1,y0,y1,ha,hb,hpt,hn,hw,q⟩:=h
  refine ⟨_,(@zj _ _ _ (@zB _ _ _ _ (@zdT _ false _ _ _ _ _ _ _ _ _ _ _ rfl boot_min rfl T.min_ (@ze _ _ _ _) (@zL _ _ _ _ _ _ _ _ _ _ _ _ _ (CompSc.of (N':=["i","j"]) (ix:=[none,none]) (zh zai) ["p","curve","point"] rfl rfl (by decide +kernel)) rfl (@zb2 _ _ _ _ (@z3 _ _ _ rfl (@z3 _ _ _ rfl (@zbv _)))) (@zax _ _ _ _ (@zm _ _ _ _ _ _ _ _ _ _ _ _ _ _ _ _ G_terms_of (hr.mono (by decide)) rfl T.m_terms_of F_terms_of.kp b_terms_of .nil (@zH _) (@za _ _ _ _ _ (@zm _ _ _ _ _ _ _ _ _ _ _ _ _ _ _ _ G_moved (hr.mono (by decide)) rfl T.m_moved F_moved.kp b_moved .nil (@zH _) (@za _ _ _ _ _ (@pvx _ 0 _ _ rfl) (@za _ _ _ _ _ (@pvx _ 1 _ _ rfl) (@za _ _ _ _ _ (@pvx _ 2 _ _ rfl) (@zd _) (by rfl)) (by rfl)) (by rfl)) (by decide) (by rfl) (by rfl)) (@zd _) (by rfl)) (by decide) (by rfl) (by rfl))) (fun _ _ _ _ => (@zaR _ (K) _ _ _ (2) _ rfl rfl (@zn _ _ _ _ _ (@zi _ _ (0) _ (show (["i","j"] : List Str).Nodup by decide +kernel) rfl (Or.inl rfl) (by trivial)) (@zn _ _ _ _ _ (@zi _ _ (1) _ (show (["i","j"] : List Str).Nodup by decide +kernel) rfl (Or.inl rfl) (by trivial)) (@zW _) (by rfl)) (by rfl)) (by rfl) (by rfl))) (fun _ _ _ _ => (@zI _)) (fun _ _ _ _ => (@zg _ _ _ _ _ _ _ _ (@zu _) (@pvx _ 0 _ _ rfl) (@pvx _ 1 _ _ rfl))) (by intro _; rfl)) (by decide) (by decide)))),?_⟩
  have hsl:=sizeLine_eq
  have el : (mvd p x y rows).length = rows.length:=zv _ _ _
  have ew : ∀ r ∈ mvd p x y rows,r.length ≤ 100:=fun r hr => by rw [z7 r hr]; exact zbH hw
  refine ⟨_,rfl,_,rfl,_,rfl,p,a,pt,x,y,bs,rows,rfl,p5,p97,x0,x1,y0,y1,ha,hb,hpt,hn,hw,fun l0 ls0 H0 hl0 s0 h0 g0 => ?_⟩
  refine ⟨l0,ls0,mvd p x y rows,rfl,h0,g0,by omega,ew,fun l ts H1 hl s1 h1l hpt => ?_⟩
  rw [el] at hpt
  have hlen:=Paired.length hpt
  have hl2:=zaM ew rows.length
  refine ⟨l,rfl,⟨_,SqL.of h1l⟩,zbf (fs:=(wts (z0 (mvd p x y rows) rows.length)).map V.int) (SqL.of h1l) (by rw [List.length_map,List.length_map,zbX,hlen]) (by rw [List.length_map]; omega) (fun i x y R B hx hy hR => ?_) (fun D hD => ?_)⟩
  ·obtain ⟨b,rfl,hbi⟩:=zO hx
   obtain ⟨⟨u,v⟩,hq,hT⟩:=Paired.get hpt hbi
   unfold wts at hy
   rw [List.getElem?_map,List.getElem?_map,hq] at hy
   have hy : V.int (u + v) = y:=by simpa using hy
   subst hy
   refine gY2 (SqT.of hT) ?_
   exact ⟨_,rfl,_,rfl,_,_,rfl,rfl,hR⟩
  ·exact ⟨D,_,rfl,SqL.of zc,fun M h0 h1 => q M _ ((s0.trans s1).trans (zb hD)) h0 fun hne => ⟨(h1 hne).1,fun x hx => by have:=(h1 hne).2 x hx; rwa [if_neg (by decide)] at this⟩⟩
end
end My
end
section
set_option maxHeartbeats 3999000
namespace My
open PySem L2 PyProof.Rows
section
variable {P : Program} {w : World} {K : PySem.W.Frag} {mg : Str → Option Value} {base : Heap} {t : Adr}
theorem zew (l m : List (Int × Int)) : wts (l ++ m) = wts l ++ wts m:=by simp [wts]
def zdz (K : PySem.W.Frag) : Sp:=fun vs H Q _ => ∃ (p : Int) (a pt : Addr) (x y : Int) (bs : List Addr) (rows : List (List Int)),vs = [.int p,.ref a,.ref pt] ∧ 5 ≤ p ∧ p ≤ 97 ∧ 0 ≤ x ∧ x < p ∧ 0 ≤ y ∧ y < p ∧ H a = some (.tup (bs.map V.ref)) ∧ zae H bs rows ∧ H pt = some (.tup [.int x,.int y]) ∧ 1 ≤ rows.length ∧ rows.length ≤ 12 ∧ (∀ r ∈ rows,1 ≤ r.length ∧ r.length ≤ 12 ∧ ∀ v ∈ r,0 ≤ v ∧ v < p) ∧ z0 (mvd p x y rows) rows.length ≠ [] ∧
 ∀ (M : Int) (H' : Hp),zx H H' → M ∈ wts (z0 (mvd p x y rows) rows.length) → (∀ z ∈ wts (z0 (mvd p x y rows) rows.length),M ≤ z) → Q (.int M) H'
theorem zaj : FnScope ["p","curve","point","moved_one","found","j","line"] ["p","curve","point"] (zh zaw):=⟨rfl,rfl,rfl,by decide +kernel,rfl,by decide +kernel,by decide +kernel⟩
theorem zdA {fd : FuncData} (T : Txt K mg t) (F : Fun K "_law_weight" "_law_weight" zaw t.l_weight fd) : FnOk P w K mg base CX0 3 t.l_weight fd ["p","curve","point"] (zdz K):=by
 obtain ⟨fd_l_moved,F_l_moved,b_l_moved⟩:=T.f_l_moved
 have G_l_moved:=zca (P:=P) (w:=w) (base:=base) T F_l_moved
 refine F.ok zaj (fun vs H Q E h => ?_) (fun cdv A outer s H vs Q E hr h => ?_)
 ·obtain ⟨p,a,pt,x,y,bs,rows,rfl,_⟩:=h
  rfl
 ·obtain ⟨p,a,pt,x,y,bs,rows,rfl,p5,p97,x0,x1,y0,y1,ha,hb,hpt,hn1,hn,hw,hne,q⟩:=h
  refine ⟨_,(@zf _ _ _ _ _ (@zl _ _ (3) _ _ _ _ zaj.nd rfl (Or.inl rfl) (@zm _ _ _ _ _ _ _ _ _ _ _ _ _ _ _ _ G_l_moved (hr.mono (by decide)) rfl T.m_l_moved F_l_moved.kp b_l_moved .nil (@zH _) (@za _ _ _ _ _ (@pvx _ 0 _ _ rfl) (@za _ _ _ _ _ (@pvx _ 1 _ _ rfl) (@za _ _ _ _ _ (@pvx _ 2 _ _ rfl) (@zd _) (by rfl)) (by rfl)) (by rfl)) (by decide) (by rfl) (by rfl)) (by rfl) (by trivial)) (by exact (@zf _ _ _ _ _ (@zl _ _ (4) _ _ _ _ zaj.nd rfl (Or.inl rfl) (@zad _ _ _ _ (@zd _)) (by rfl) (by trivial)) (by exact (@zf _ _ _ _ _ (@zZ _ _ _ _ _ _ _ _ PassesOwn.never rfl (@zaF _ _ _ _ _ _ _ _ rfl T.enumerate_ (@za _ _ _ _ _ (@pvx _ 3 _ _ rfl) (@zd _) (by rfl)) (by rfl)) (@zaZ _ _ _ _ _ _ rfl (@zn _ _ _ _ _ (@zi _ _ (5) _ zaj.nd rfl (Or.inr rfl) (by trivial)) (@zn _ _ _ _ _ (@zi _ _ (6) _ zaj.nd rfl (Or.inl rfl) (by trivial)) (@zW _) (by rfl)) (by rfl)) (by rfl) (by rfl)) (@zj _ _ _ (@zaO _ _ _ _ (@zbI _ _ _ _ _ _ _ _ _ _ _ _ PySem.F.plainAttrs_list PySem.F.slot_list_extend PySem.F.type_list_extend (@zcs _) (@pvx _ 4 _ _ rfl) (@za _ _ _ _ _ (@zL _ _ _ _ _ _ _ _ _ _ _ _ _ (CompSc.of (N':=["i","number","j"]) (ix:=[none,none,some 5]) (zh zaw) ["p","curve","point","moved_one","found","j","line"] rfl rfl (by decide +kernel)) rfl (@zb2 _ _ _ _ (@z3 _ _ _ rfl (@z3 _ _ _ rfl (@zbv _)))) (@zaF _ _ _ _ _ _ _ _ rfl T.enumerate_ (@za _ _ _ _ _ (@pvx _ 6 _ _ rfl) (@zd _) (by rfl)) (by rfl)) (fun _ _ _ _ => (@zaR _ (K) _ _ _ (2) _ rfl rfl (@zn _ _ _ _ _ (@zi _ _ (0) _ (show (["i","number","j"] : List Str).Nodup by decide +kernel) rfl (Or.inl rfl) (by trivial)) (@zn _ _ _ _ _ (@zi _ _ (1) _ (show (["i","number","j"] : List Str).Nodup by decide +kernel) rfl (Or.inl rfl) (by trivial)) (@zW _) (by rfl)) (by rfl)) (by rfl) (by rfl))) (fun _ _ _ _ => (@zb0 _ _ _ (@zR _ _ _ _ _ _ _ _ (@zck _) (@pvx _ 1 _ _ rfl) (@ze _ _ _ _) (z6 _)))) (fun _ _ _ _ => (@zg _ _ _ _ _ _ _ _ (@zu _) (@pvx _ 0 _ _ rfl) (@pvx _ 2 _ _ rfl))) (by intro _; rfl)) (@zd _) (by rfl)) (by rfl) (by rfl) (by rfl) (by rfl) (by rfl)) (by rfl))) (by intro _; rfl)) (by exact (@zj _ _ _ (@zB _ _ _ _ (@zp _ _ _ _ _ _ _ _ _ (@zeP _ rfl) (by rfl) T.min_ boot_min (@za _ _ _ _ _ (@pvx _ 4 _ _ rfl) (@zd _) (by rfl)) (by decide) (by decide) (by rfl) (by rfl)))))))))),?_⟩
  have hsl:=sizeLine_eq
  have em : (mvd p x y rows).length = rows.length:=zv _ _ _
  have ew : ∀ r ∈ mvd p x y rows,r.length ≤ 100:=fun r hr => by rw [z7 r hr]; exact Nat.le_trans (zbH fun r hr => (hw r hr).2.1) (by decide)
  refine ⟨_,rfl,_,rfl,_,rfl,p,a,pt,x,y,bs,rows,rfl,p5,p97,x0,x1,y0,y1,ha,hb,hpt,hn1,hn,hw,fun a0 bs0 H0 ha0 s0 ha hb => ?_⟩
  generalize mvd p x y rows = rows1 at *
  have hn : rows.length = rows1.length:=em.symm
  rw [hn] at hne q
  have hw:=ew
  have hlen:=Paired.length hb
  have hn12 : rows1.length ≤ 12:=by omega
  refine ⟨Nat.zero_le _,fun S hS => ?_⟩
  refine ⟨_,rfl,a0,_,rfl,SqT.of ((zb hS) _ _ ha),zfi (n:=rows1.length) (fun m σ H' => ∃ e3 e4 : Option V,σ = [some (.int p),some (.ref a),some (.ref pt),some (.ref a0),some (.ref S),e3,e4] ∧ zx H0 H' ∧ H' S = some (.lst ((wts (z0 rows1 m)).map V.int))) ⟨none,none,rfl,zb hS,zc⟩ ?_ ?_ ?_ ?_⟩
  ·rintro m σ H1 hm ⟨e3,e4,rfl,s1,h1⟩
   exact ⟨_,.ref (bs0[m]'(by omega)),SqT.of (s1 _ _ ha),by rw [List.getElem?_map,List.getElem?_eq_getElem (by omega)]; rfl⟩
  ·rintro σ H1 ⟨e3,e4,rfl,s1,h1⟩
   exact ⟨_,SqT.of (s1 _ _ ha),by rw [List.length_map]; omega⟩
  ·rintro m y σ H1 H2 hm ⟨e3,e4,rfl,s1,h1⟩ ⟨T,v,hT,rfl,rfl,hv⟩
   obtain ⟨b,rfl,hbm⟩:=zO (hv _ (SqT.of (s1 _ _ ha)))
   obtain ⟨r,hr,hrb⟩:=Paired.get hb hbm
   have hrl:=hw r (List.mem_of_getElem? hr)
   have er : rows1.getD m [] = r:=by simp [List.getD,hr]
   refine ⟨T,_,rfl,SqT.of zc,rfl,_,_,rfl,_,_,rfl,rfl,?_⟩
   have sT:=s1.trans (zb (o:=.tup [.int m,.ref b]) hT)
   have h2:=(zb (o:=.tup [.int m,.ref b]) hT) _ _ h1
   generalize upd H1 T (.tup [.int m,.ref b]) = H2 at sT h2 ⊢
   have h2b:=sT _ _ hrb
   refine ⟨_,rfl,.inl ⟨rfl,_,SqL.of h2⟩,_,rfl,b,_,rfl,SqT.of h2b,z5 (n:=r.length) (fun j ys H' => ys = (wts (trm m r j)).map V.int ∧ zx H2 H') ⟨rfl,fun _ _ e => e⟩ ?_ ?_ ?_ ?_⟩
   ·rintro j ys H3 hj ⟨rfl,s3⟩
    exact ⟨_,.int (r[j]'hj),SqT.of (s3 _ _ h2b),by rw [List.getElem?_map,List.getElem?_eq_getElem hj]; rfl⟩
   ·rintro ys H3 ⟨rfl,s3⟩
    exact ⟨_,SqT.of (s3 _ _ h2b),by rw [List.length_map]; omega⟩
   ·rintro j z ys H3 H4 hj ⟨rfl,s3⟩ ⟨T',v',hT',rfl,rfl,hv'⟩
    obtain ⟨x,rfl,hx⟩:=zan (hv' _ (SqT.of (s3 _ _ h2b)))
    have hgx : gl r j = x:=zbp hx
    have sT':=s3.trans (zb (o:=.tup [.int j,.int x]) hT')
    have l2:=zbl m r j
    refine ⟨T',_,rfl,SqT.of zc,rfl,_,_,rfl,_,_,rfl,rfl,?_⟩
    generalize upd H3 T' (.tup [.int j,.int x]) = H4 at sT' ⊢
    refine ⟨_,rfl,rfl,_,rfl,?_⟩
    refine zbE (fun hx0 => ?_) (fun hx0 => ?_)
    ·have hx0 : x ≠ 0:=by simpa using hx0
     refine ⟨_,rfl,_,rfl,_,_,rfl,rfl,by rw [List.length_map,zbX]; omega,?_,sT'⟩
     rw [zaL,if_pos (by rw [hgx]; exact hx0),zew,List.map_append]
     rfl
    ·have hx0 : x = 0:=by simpa using hx0
     refine ⟨?_,sT'⟩
     rw [zaL,if_neg (by rw [hgx,hx0]; simp)]
   ·rintro ys H3 D ⟨rfl,s3⟩ hD
    have h3S:=s3 _ _ h2
    have dS : D ≠ S:=(zo h3S hD).symm
    have l1:=zaM hw m
    have l2:=zbl m r r.length
    refine ⟨S,D,_,_,rfl,rfl,by rw [zk dS.symm]; exact h3S,zc,by rw [List.length_map,List.length_map,zbX,zbX]; omega,?_⟩
    refine ⟨_,_,rfl,zQ ((sT.trans s3).trans (zb hD)) hS,?_⟩
    rw [zc,zbk,er,zew,List.map_append]
  ·rintro σ H1 ⟨e3,e4,rfl,s1,h1⟩
   exact ⟨_,rfl,S,_,rfl,SqL.of h1,by unfold wts; simpa using hne,fun M hM hM' => q M _ (s0.trans s1) hM hM'⟩
end
end My
end
section
set_option maxHeartbeats 3999000
namespace My
open PySem L2 PyProof.Rows
section
variable {P : Program} {w : World} {K : PySem.W.Frag} {mg : Str → Option Value} {base : Heap} {t : Adr}
theorem zfU {H : Hp} {d : Nat} {x : V} (hx : zcq x = true) : EqD K H d x x true:=by
 have h:=EqD.flat (K:=K) (H:=H) (d:=d) (x:=x) (y:=x) hx hx
 have e : eqV x x = true:=by
  cases x <;> simp_all [eqV,zcq]
 rw [e] at h
 exact h
theorem zgx {H : Hp} {a b : Addr} {ms : List Int} (ha : H a = some (.tup (ms.map V.int))) (hb : H b = some (.tup (ms.map V.int))) : EqD K H 8 (.ref a) (.ref b) true:=by
 by_cases hne : a = b
 ·subst hne
  exact .same
 ·have h:=EqD.tups (K:=K) (H:=H) (d:=7) (e:=fun _ => true) hne (SqT.of ha) (SqT.of hb) fun j x y h1 h2 => by
   rw [h1] at h2
   cases h2
   obtain ⟨z,rfl,_⟩:=zan h1
   exact zfU rfl
  have e : ((List.range (min (ms.map V.int).length (ms.map V.int).length)).all (fun _ => true) && (ms.map V.int).length == (ms.map V.int).length) = true:=by simp
  rw [e] at h
  exact h
theorem zgy {H : Hp} {rs rs' : List Addr} {qs : List (List Int)} (h1 : zae H rs qs) (h2 : zae H rs' qs) : ∀ (j : Nat) x y,(rs.map V.ref)[j]? = some x → (rs'.map V.ref)[j]? = some y → EqD K H 8 x y true:=fun j x y e1 e2 => by
 obtain ⟨a,rfl,ha⟩:=zO e1
 obtain ⟨b,rfl,hb⟩:=zO e2
 obtain ⟨q,g1,g2⟩:=Paired.get h1 ha
 obtain ⟨q',g3,g4⟩:=Paired.get h2 hb
 rw [g1] at g3
 cases g3
 exact zgx g2 g4
theorem zdB {H : Hp} {Q : VK} {a b : Addr} {rs rs' : List Addr} {qs : List (List Int)} (ha : H a = some (.tup (rs.map V.ref))) (hb : H b = some (.tup (rs'.map V.ref))) (h1 : zae H rs qs) (h2 : zae H rs' qs) (q : Q (.bl false) H) : zhL K true (.ref a) (.ref b) H Q:=by
 refine ⟨a,b,_,_,rfl,rfl,.inr ⟨SqT.of ha,SqT.of hb⟩,.inr ⟨by rw [List.length_map,List.length_map,Paired.length h1,Paired.length h2],fun _ => true,zgy h1 h2,?_⟩⟩
 have : (List.range (rs.map V.ref).length).all (fun _ => true) = true:=by simp
 rw [this]
 exact q
theorem zdC {rows : List (List Int)} {j i : Nat} (hj : j < rows.length) (hi : i < (rows.getD j []).length) (h : gl (rows.getD j []) i ≠ 0) : ((i : Int),(j : Int)) ∈ z0 rows rows.length:=by
 unfold z0
 rw [List.mem_flatMap]
 refine ⟨j,List.mem_range.mpr hj,?_⟩
 unfold trm
 exact List.mem_map.mpr ⟨i,List.mem_filter.mpr ⟨List.mem_range.mpr hi,by simpa using h⟩,rfl⟩
theorem zgL {rows : List (List Int)} (h : ∃ r ∈ rows,∃ v ∈ r,v ≠ 0) : ∃ j i,j < rows.length ∧ i < (rows.getD j []).length ∧ cu rows j i ≠ 0 ∧ cu rows j i ∈ rows.getD j [] ∧ rows.getD j [] ∈ rows:=by
 obtain ⟨r,hr,v,hv,hne⟩:=h
 obtain ⟨j,hj⟩:=List.mem_iff_getElem?.mp hr
 obtain ⟨i,hi⟩:=List.mem_iff_getElem?.mp hv
 have e : rows.getD j [] = r:=by rw [List.getD_eq_getElem?_getD,hj]; rfl
 have e2 : cu rows j i = v:=by unfold cu; rw [e]; exact zbp hi
 exact ⟨j,i,(List.getElem?_eq_some_iff.mp hj).1,by rw [e]; exact (List.getElem?_eq_some_iff.mp hi).1,by rw [e2]; exact hne,by rw [e2,e]; exact hv,by rw [e]; exact hr⟩
theorem zex {rows : List (List Int)} (h : ∃ r ∈ rows,∃ v ∈ r,v ≠ 0) : z0 rows rows.length ≠ []:=by
 obtain ⟨j,i,h1,h2,h3,_⟩:=zgL h
 exact fun e => by have:=zdC h1 h2 h3; rw [e] at this; cases this
theorem zey {p x y : Int} {rows : List (List Int)} {j : Nat} (hj : j < rows.length) : (mvd p x y rows).getD j [] = (List.range (wd rows)).map fun i => mv x y rows.length (wd rows) (cu rows) j i % p:=by
 rw [List.getD_eq_getElem?_getD,show (mvd p x y rows)[j]? = _ from zap hj]
 rfl
theorem zea {p x y : Int} {rows : List (List Int)} {j i : Nat} (hj : j < rows.length) (hi : i < wd rows) : cu (mvd p x y rows) j i = mv x y rows.length (wd rows) (cu rows) j i % p:=by
 unfold cu
 rw [zey hj]
 exact zbp (by rw [List.getElem?_map,List.getElem?_range hi]; rfl)
theorem zfV {p x y : Int} {w : Nat} {rows : List (List Int)} (hg : ∀ r ∈ rows,zao p w r) (h : ∃ r ∈ rows,∃ v ∈ r,v ≠ 0) : z0 (mvd p x y rows) rows.length ≠ []:=by
 obtain ⟨j,i,h1,h2,h3,h4,h5⟩:=zgL h
 have hr:=(hg _ h5).2.2 _ h4
 have hlt:=zbB h5
 obtain ⟨t,s,ht,hs,hne⟩:=zhS (p:=p) (a:=x) (b:=y) (n:=rows.length) (w:=wd rows) (c:=cu rows) (j:=j) (i:=i) h1 (by omega) fun e => h3 (by
  have e0 : Cg p (cu rows j i) 0:=e
  exact e0.eq hr.1 hr.2 (by decide) (by omega))
 have el : (mvd p x y rows).length = rows.length:=zv _ _ _
 have:=zdC (rows:=mvd p x y rows) (j:=t) (i:=s) (by omega) (by rw [zey ht,List.length_map,List.length_range]; exact hs) (by
  show cu (mvd p x y rows) t s ≠ 0
  rw [zea ht hs]
  exact fun e => hne ((Cg.emod p _).symm.trans (Cg.of_eq e)))
 rw [el] at this
 exact fun e => by rw [e] at this; cases this
theorem zdD {p x y : Int} {rows : List (List Int)} {w : Nat} (h : ∀ r ∈ rows,r.length ≤ w) : Cg p (zah p y (rows.map (zah p x))) (vl rows.length (fun t => vl w (cu rows t) x) y):=by
 refine (zdi (n:=rows.length) (by rw [List.length_map]; exact Nat.le_refl _)).trans ?_
 rw [← zdl]
 refine zcy (Cg.refl p y) fun t ht => ?_
 have e : gl (rows.map (zah p x)) t = zah p x (rows.getD t []):=zbp (by rw [List.getElem?_map,List.getElem?_eq_getElem ht,List.getD_eq_getElem?_getD,List.getElem?_eq_getElem ht]; rfl)
 rw [e]
 refine (zdi (n:=w) (h _ (by rw [List.getD_eq_getElem?_getD,List.getElem?_eq_getElem ht]; exact List.getElem_mem ht))).trans ?_
 rw [← zdl]
 exact Cg.refl p _
theorem zfW {p a b x y : Int} {rows : List (List Int)} (hp : 0 < p) : zah p y ((mvd p a b rows).map (zah p x)) = zah p ((y + b) % p) (rows.map (zah p ((x + a) % p))):=by
 refine Cg.eq (p:=p) ?_ (zcL hp _) (zcM hp _) (zcL hp _) (zcM hp _)
 refine (zdD (w:=wd rows) fun r hr => by rw [z7 r hr]; exact Nat.le_refl _).trans (Cg.trans ?_ (zdD (w:=wd rows) fun r hr => zbB hr).symm)
 rw [show (mvd p a b rows).length = rows.length from zv _ _ _]
 refine (zcy (Cg.refl p y) (v:=fun j => vl (wd rows) (fun i => mv a b rows.length (wd rows) (cu rows) j i) x) fun t ht => zcy (Cg.refl p x) fun s hs => by rw [zea ht hs]; exact Cg.emod p _).trans ?_
 rw [zhR]
 exact zcy (Cg.emod p _).symm fun t _ => zcy (Cg.emod p _).symm fun s _ => Cg.refl p _
def zfX (w : Nat) (r : List Int) : List Int:=r ++ List.replicate (w - r.length) 0
theorem zgz {p a b : Int} {w : Nat} {rows : List (List Int)} (hn : 1 ≤ rows.length) (hg : ∀ r ∈ rows,zao p w r) : mvd p ((0 - a) % p) ((0 - b) % p) (mvd p a b rows) = rows.map (zfX (wd rows)):=by
 have e1 : rows.map (zfX (wd rows)) = rows.map (zdu p (wd rows)):=List.map_congr_left fun r hr => by
  unfold zfX zdu
  have : r.map (· % p) = r.map id:=List.map_congr_left fun v hv => Int.emod_eq_of_lt ((hg r hr).2.2 v hv).1 ((hg r hr).2.2 v hv).2
  rw [this,List.map_id]
 rw [e1,zdv fun r hr => zbB hr]
 have el : (mvd p a b rows).length = rows.length:=zv _ _ _
 have ew : wd (mvd p a b rows) = wd rows:=zeu fun e => by omega
 unfold mvd
 rw [show (zJ rows.length (wd rows) fun j i => mv a b rows.length (wd rows) (cu rows) j i % p) = mvd p a b rows from rfl,el,ew]
 refine z9 fun j i hj hi => ?_
 refine Cg.mod_eq (zes (a:=a) (b:=b) (c:=cu rows) ?_ ?_ (fun t s ht hs => by rw [zea ht hs]; exact Cg.emod p _) hj hi)
 ·refine ((Cg.refl p a).add (Cg.emod p _)).trans (Cg.of_eq (by omega))
 ·refine ((Cg.refl p b).add (Cg.emod p _)).trans (Cg.of_eq (by omega))
theorem zX : FnScope ["script","at","p","unused","places","curve","draws","k","point","found","a","b","x","y","weight","again","wide"] ["script"] (zh zaX):=⟨rfl,rfl,rfl,by decide +kernel,rfl,by decide +kernel,by decide +kernel⟩
theorem zhm {fd : FuncData} (T : Txt K mg t) (F : Fun K "law" "law" zaX t.law fd) : FnOk P w K mg base CX0 6 t.law fd ["script"] (zcP K):=by
 obtain ⟨fd_l_code,F_l_code,b_l_code⟩:=T.f_l_code
 have G_l_code:=zeV (P:=P) (w:=w) (base:=base) T F_l_code
 obtain ⟨fd_l_curve,F_l_curve,b_l_curve⟩:=T.f_l_curve
 have G_l_curve:=zd8 (P:=P) (w:=w) (base:=base) T F_l_curve
 obtain ⟨fd_l_draws,F_l_draws,b_l_draws⟩:=T.f_l_draws
 have G_l_draws:=zbs (P:=P) (w:=w) (base:=base) T F_l_draws
 obtain ⟨fd_l_whole,F_l_whole,b_l_whole⟩:=T.f_l_whole
 have G_l_whole:=zdW (P:=P) (w:=w) (base:=base) T F_l_whole
 obtain ⟨fd_size_of,F_size_of,b_size_of⟩:=T.f_size_of
 have G_size_of:=zd1 (P:=P) (w:=w) (base:=base) T F_size_of
 obtain ⟨fd_l_size,F_l_size,b_l_size⟩:=T.f_l_size
 have G_l_size:=ze2 (P:=P) (w:=w) (base:=base) T F_l_size
 obtain ⟨fd_moved,F_moved,b_moved⟩:=T.f_moved
 have G_moved:=zdx (P:=P) (w:=w) (base:=base) T F_moved
 obtain ⟨fd_l_moved,F_l_moved,b_l_moved⟩:=T.f_l_moved
 have G_l_moved:=zca (P:=P) (w:=w) (base:=base) T F_l_moved
 obtain ⟨fd_l_worth,F_l_worth,b_l_worth⟩:=T.f_l_worth
 have G_l_worth:=zd4 (P:=P) (w:=w) (base:=base) T F_l_worth
 obtain ⟨fd_weight_at,F_weight_at,b_weight_at⟩:=T.f_weight_at
 have G_weight_at:=zcZ (P:=P) (w:=w) (base:=base) T F_weight_at
 obtain ⟨fd_l_weight,F_l_weight,b_l_weight⟩:=T.f_l_weight
 have G_l_weight:=zdA (P:=P) (w:=w) (base:=base) T F_l_weight
 refine F.ok zX (fun vs H Q E h => ?_) (fun cdv A outer s H vs Q E hr h => ?_)
 ·obtain ⟨a,ns,rfl,_⟩:=h
  rfl
 ·obtain ⟨a,ns,rfl,hS,hlen,q⟩:=h
  have hu : (A.deeper (envOfC (Str.ofString "law") (zh zaX) s.heap.objs.size t.law cdv)).units + 20 < cLine:=by have:=hr.units; omega
  refine ⟨_,(@zf _ _ _ _ _ (@zZ _ _ _ _ _ _ _ _ PassesOwn.never rfl (@zS _ _ _ _ _ _ rfl T.range_ (@za _ _ _ _ _ (@ze _ _ _ _) (@zd _) (by rfl)) (by rfl)) (@zi _ _ (1) _ zX.nd rfl (Or.inl rfl) (by trivial)) (@zf _ _ _ _ _ (@zbq _ _ _ _ _ _ (@zm _ _ _ _ _ _ _ _ _ _ _ _ _ _ _ _ G_l_code (hr.mono (by decide)) rfl T.m_l_code F_l_code.kp b_l_code .nil (@zH _) (@za _ _ _ _ _ (@pvx _ 0 _ _ rfl) (by exact (@za _ _ _ _ _ (@zg _ _ _ _ _ _ _ _ (@zD _) (@ze _ _ _ _) (@pvx _ 1 _ _ rfl)) (@za _ _ _ _ _ (@ze _ _ _ _) (@za _ _ _ _ _ (@ze _ _ _ _) (@zd _) (by rfl)) (by rfl)) (by rfl))) (by rfl)) (by decide) (by rfl) (by rfl)) (@zaZ _ _ _ _ _ _ rfl (@zn _ _ _ _ _ (@zi _ _ (2) _ zX.nd rfl (Or.inl rfl) (by trivial)) (@zn _ _ _ _ _ (@zi _ _ (3) _ zX.nd rfl (Or.inl rfl) (by trivial)) (@zn _ _ _ _ _ (@zi _ _ (4) _ zX.nd rfl (Or.inl rfl) (by trivial)) (@zW _) (by rfl)) (by rfl)) (by rfl)) (by rfl) (by rfl)) (by rfl) (by rfl) (by rfl)) (by exact (@zf _ _ _ _ _ (@zl _ _ (5) _ _ _ _ zX.nd rfl (Or.inl rfl) (@zm _ _ _ _ _ _ _ _ _ _ _ _ _ _ _ _ G_l_curve (hr.mono (by decide)) rfl T.m_l_curve F_l_curve.kp b_l_curve .nil (@zH _) (@za _ _ _ _ _ (@pvx _ 0 _ _ rfl) (by exact (@za _ _ _ _ _ (@zg _ _ _ _ _ _ _ _ (@zu _) (@zg _ _ _ _ _ _ _ _ (@zD _) (@ze _ _ _ _) (@pvx _ 1 _ _ rfl)) (@ze _ _ _ _)) (by exact (@za _ _ _ _ _ (@pvx _ 2 _ _ rfl) (@za _ _ _ _ _ (@ze _ _ _ _) (@za _ _ _ _ _ (@ze _ _ _ _) (@zd _) (by rfl)) (by rfl)) (by rfl))) (by rfl))) (by rfl)) (by decide) (by rfl) (by rfl)) (by rfl) (by trivial)) (by exact (@zf _ _ _ _ _ (@zl _ _ (6) _ _ _ _ zX.nd rfl (Or.inl rfl) (@zm _ _ _ _ _ _ _ _ _ _ _ _ _ _ _ _ G_l_draws (hr.mono (by decide)) rfl T.m_l_draws F_l_draws.kp b_l_draws .nil (@zH _) (@za _ _ _ _ _ (@pvx _ 0 _ _ rfl) (by exact (@za _ _ _ _ _ (@zg _ _ _ _ _ _ _ _ (@zu _) (@zg _ _ _ _ _ _ _ _ (@zD _) (@ze _ _ _ _) (@pvx _ 1 _ _ rfl)) (@ze _ _ _ _)) (@za _ _ _ _ _ (@ze _ _ _ _) (@za _ _ _ _ _ (@ze _ _ _ _) (@zd _) (by rfl)) (by rfl)) (by rfl))) (by rfl)) (by decide) (by rfl) (by rfl)) (by rfl) (by trivial)) (by exact (@zf _ _ _ _ _ (@zl _ _ (7) _ _ _ _ zX.nd rfl (Or.inl rfl) (@zg _ _ _ _ _ _ _ _ (@zu _) (@ze _ _ _ _) (@zg _ _ _ _ _ _ _ _ (@zq _) (@zC _ _ _ _ _ _ _ (@zr _) (@pvx _ 6 _ _ rfl) (@ze _ _ _ _) (fun _ _ => rfl)) (@ze _ _ _ _))) (by rfl) (by trivial)) (by exact (@zf _ _ _ _ _ (@zaY _ _ _ _ _ _ _ _ (@PW.pt _ _ _ (@ze7 _ _ _ _ _ _ _ (@zR _ _ _ _ _ _ _ _ (@zck _) (@zm _ _ _ _ _ _ _ _ _ _ _ _ _ _ _ _ G_size_of (hr.mono (by decide)) rfl T.m_size_of F_size_of.kp b_size_of .nil (@zH _) (@za _ _ _ _ _ (@pvx _ 7 _ _ rfl) (@za _ _ _ _ _ (@pvx _ 5 _ _ rfl) (@zd _) (by rfl)) (by rfl)) (by decide) (by rfl) (by rfl)) (@zm _ _ _ _ _ _ _ _ _ _ _ _ _ _ _ _ G_l_size (hr.mono (by decide)) rfl T.m_l_size F_l_size.kp b_l_size .nil (@zH _) (@za _ _ _ _ _ (@pvx _ 7 _ _ rfl) (@za _ _ _ _ _ (@pvx _ 5 _ _ rfl) (@zd _) (by rfl)) (by rfl)) (by decide) (by rfl) (by rfl)) (z6 _)) (@zdF _ _ _ _ (@zdG _ _ _ _ (@zdE _ _ _ (@zm _ _ _ _ _ _ _ _ _ _ _ _ _ _ _ _ G_l_whole (hr.mono (by decide)) rfl T.m_l_whole F_l_whole.kp b_l_whole .nil (@zH _) (@za _ _ _ _ _ (@zm _ _ _ _ _ _ _ _ _ _ _ _ _ _ _ _ G_size_of (hr.mono (by decide)) rfl T.m_size_of F_size_of.kp b_size_of .nil (@zH _) (@za _ _ _ _ _ (@pvx _ 7 _ _ rfl) (@za _ _ _ _ _ (@pvx _ 5 _ _ rfl) (@zd _) (by rfl)) (by rfl)) (by decide) (by rfl) (by rfl)) (@zd _) (by rfl)) (by decide) (by rfl) (by rfl)) (by intro _; rfl)))))) (@zj _ _ _ (@zB _ _ _ _ (@zcg _ _ _ _))) (@zab _)) (by exact (@zj _ _ _ (@zZ _ _ _ _ _ _ _ _ PassesOwn.never rfl (@zax _ _ _ _ (@zad _ _ _ _ (@za _ _ _ _ _ (@zaA _ _ _ _ _ (@za _ _ _ _ _ (@ze _ _ _ _) (@za _ _ _ _ _ (@ze _ _ _ _) (@zd _) (by rfl)) (by rfl))) (@za _ _ _ _ _ (@zaA _ _ _ _ _ (@za _ _ _ _ _ (@zg _ _ _ _ _ _ _ _ (@zq _) (@zC _ _ _ _ _ _ _ (@zr _) (@pvx _ 6 _ _ rfl) (@ze _ _ _ _) (fun _ _ => rfl)) (@pvx _ 2 _ _ rfl)) (@za _ _ _ _ _ (@zg _ _ _ _ _ _ _ _ (@zq _) (@zC _ _ _ _ _ _ _ (@zr _) (@pvx _ 6 _ _ rfl) (@ze _ _ _ _) (fun _ _ => rfl)) (@pvx _ 2 _ _ rfl)) (@zd _) (by rfl)) (by rfl))) (@za _ _ _ _ _ (@zaA _ _ _ _ _ (@za _ _ _ _ _ (@zg _ _ _ _ _ _ _ _ (@zq _) (@zC _ _ _ _ _ _ _ (@zr _) (@pvx _ 6 _ _ rfl) (@ze _ _ _ _) (fun _ _ => rfl)) (@pvx _ 2 _ _ rfl)) (@za _ _ _ _ _ (@ze _ _ _ _) (@zd _) (by rfl)) (by rfl))) (@zd _) (by rfl)) (by rfl)) (by rfl)))) (@zi _ _ (8) _ zX.nd rfl (Or.inl rfl) (by trivial)) (@zf _ _ _ _ _ (@zl _ _ (9) _ _ _ _ zX.nd rfl (Or.inl rfl) (@zm _ _ _ _ _ _ _ _ _ _ _ _ _ _ _ _ G_moved (hr.mono (by decide)) rfl T.m_moved F_moved.kp b_moved .nil (@zH _) (@za _ _ _ _ _ (@pvx _ 2 _ _ rfl) (@za _ _ _ _ _ (@pvx _ 5 _ _ rfl) (@za _ _ _ _ _ (@pvx _ 8 _ _ rfl) (@zd _) (by rfl)) (by rfl)) (by rfl)) (by decide) (by rfl) (by rfl)) (by rfl) (by trivial)) (by exact (@zf _ _ _ _ _ (@zaY _ _ _ _ _ _ _ _ (@PW.pt _ _ _ (@ze7 _ _ _ _ _ _ _ (@zdG _ _ _ _ (@zdE _ _ _ (@zp _ _ _ _ _ _ _ _ _ (@za6 _) (by rfl) T.isinstance_ boot_isinstance (@za _ _ _ _ _ (@pvx _ 9 _ _ rfl) (@za _ _ _ _ _ (@zcC _ _ (.ty "tuple") _ _ rfl T.tuple_ boot_tuple rfl (by decide) (by decide)) (@zd _) (by rfl)) (by rfl)) (by decide) (by decide) (by rfl) (by rfl)) (by intro _; rfl))) (@zdF _ _ _ _ (@zR _ _ _ _ _ _ _ _ (@zfo _ hu) (@pvx _ 9 _ _ rfl) (@zm _ _ _ _ _ _ _ _ _ _ _ _ _ _ _ _ G_l_moved (hr.mono (by decide)) rfl T.m_l_moved F_l_moved.kp b_l_moved .nil (@zH _) (@za _ _ _ _ _ (@pvx _ 2 _ _ rfl) (@za _ _ _ _ _ (@pvx _ 5 _ _ rfl) (@za _ _ _ _ _ (@pvx _ 8 _ _ rfl) (@zd _) (by rfl)) (by rfl)) (by rfl)) (by decide) (by rfl) (by rfl)) (z6 _))))) (@zj _ _ _ (@zB _ _ _ _ (@zcg _ _ _ _))) (@zab _)) (by exact (@zf _ _ _ _ _ (@zbq _ _ _ _ _ _ (@pvx _ 8 _ _ rfl) (@zaZ _ _ _ _ _ _ rfl (@zn _ _ _ _ _ (@zi _ _ (10) _ zX.nd rfl (Or.inl rfl) (by trivial)) (@zn _ _ _ _ _ (@zi _ _ (11) _ zX.nd rfl (Or.inl rfl) (by trivial)) (@zW _) (by rfl)) (by rfl)) (by rfl) (by rfl)) (by rfl) (by rfl) (by rfl)) (by exact (@zf _ _ _ _ _ (@zZ _ _ _ _ _ _ _ _ PassesOwn.never rfl (@zax _ _ _ _ (@zad _ _ _ _ (@za _ _ _ _ _ (@zaA _ _ _ _ _ (@za _ _ _ _ _ (@zg _ _ _ _ _ _ _ _ (@zq _) (@zC _ _ _ _ _ _ _ (@zr _) (@pvx _ 6 _ _ rfl) (@ze _ _ _ _) (fun _ _ => rfl)) (@pvx _ 2 _ _ rfl)) (@za _ _ _ _ _ (@zg _ _ _ _ _ _ _ _ (@zq _) (@zC _ _ _ _ _ _ _ (@zr _) (@pvx _ 6 _ _ rfl) (@ze _ _ _ _) (fun _ _ => rfl)) (@pvx _ 2 _ _ rfl)) (@zd _) (by rfl)) (by rfl))) (@za _ _ _ _ _ (@zaA _ _ _ _ _ (@za _ _ _ _ _ (@zg _ _ _ _ _ _ _ _ (@zq _) (@zC _ _ _ _ _ _ _ (@zr _) (@pvx _ 6 _ _ rfl) (@ze _ _ _ _) (fun _ _ => rfl)) (@pvx _ 2 _ _ rfl)) (@za _ _ _ _ _ (@zg _ _ _ _ _ _ _ _ (@zq _) (@zC _ _ _ _ _ _ _ (@zr _) (@pvx _ 6 _ _ rfl) (@ze _ _ _ _) (fun _ _ => rfl)) (@pvx _ 2 _ _ rfl)) (@zd _) (by rfl)) (by rfl))) (@zd _) (by rfl)) (by rfl)))) (@zaZ _ _ _ _ _ _ rfl (@zn _ _ _ _ _ (@zi _ _ (12) _ zX.nd rfl (Or.inl rfl) (by trivial)) (@zn _ _ _ _ _ (@zi _ _ (13) _ zX.nd rfl (Or.inl rfl) (by trivial)) (@zW _) (by rfl)) (by rfl)) (by rfl) (by rfl)) (@zj _ _ _ (@zaY _ _ _ _ _ _ _ _ (@zR _ _ _ _ _ _ _ _ (@zck _) (@zm _ _ _ _ _ _ _ _ _ _ _ _ _ _ _ _ G_l_worth (hr.mono (by decide)) rfl T.m_l_worth F_l_worth.kp b_l_worth .nil (@zH _) (@za _ _ _ _ _ (@pvx _ 2 _ _ rfl) (by exact (@za _ _ _ _ _ (@pvx _ 9 _ _ rfl) (@za _ _ _ _ _ (@pvx _ 12 _ _ rfl) (@za _ _ _ _ _ (@pvx _ 13 _ _ rfl) (@zd _) (by rfl)) (by rfl)) (by rfl))) (by rfl)) (by decide) (by rfl) (by rfl)) (@zm _ _ _ _ _ _ _ _ _ _ _ _ _ _ _ _ G_l_worth (hr.mono (by decide)) rfl T.m_l_worth F_l_worth.kp b_l_worth .nil (@zH _) (@za _ _ _ _ _ (@pvx _ 2 _ _ rfl) (by exact (@za _ _ _ _ _ (@pvx _ 5 _ _ rfl) (@za _ _ _ _ _ (@zg _ _ _ _ _ _ _ _ (@zq _) (@zg _ _ _ _ _ _ _ _ (@zu _) (@pvx _ 12 _ _ rfl) (@pvx _ 10 _ _ rfl)) (@pvx _ 2 _ _ rfl)) (@za _ _ _ _ _ (@zg _ _ _ _ _ _ _ _ (@zq _) (@zg _ _ _ _ _ _ _ _ (@zu _) (@pvx _ 13 _ _ rfl) (@pvx _ 11 _ _ rfl)) (@pvx _ 2 _ _ rfl)) (@zd _) (by rfl)) (by rfl)) (by rfl))) (by rfl)) (by decide) (by rfl) (by rfl)) (z6 _)) (@zj _ _ _ (@zB _ _ _ _ (@zcg _ _ _ _))) (@zab _))) (by intro _; rfl)) (by exact (@zf _ _ _ _ _ (@zl _ _ (14) _ _ _ _ zX.nd rfl (Or.inl rfl) (@zm _ _ _ _ _ _ _ _ _ _ _ _ _ _ _ _ G_weight_at (hr.mono (by decide)) rfl T.m_weight_at F_weight_at.kp b_weight_at .nil (@zH _) (@za _ _ _ _ _ (@pvx _ 2 _ _ rfl) (@za _ _ _ _ _ (@pvx _ 5 _ _ rfl) (@za _ _ _ _ _ (@pvx _ 8 _ _ rfl) (@zd _) (by rfl)) (by rfl)) (by rfl)) (by decide) (by rfl) (by rfl)) (by rfl) (by trivial)) (by exact (@zf _ _ _ _ _ (@zaY _ _ _ _ _ _ _ _ (@PW.pt _ _ _ (@ze7 _ _ _ _ _ _ _ (@zdG _ _ _ _ (@zdE _ _ _ (@zm _ _ _ _ _ _ _ _ _ _ _ _ _ _ _ _ G_l_whole (hr.mono (by decide)) rfl T.m_l_whole F_l_whole.kp b_l_whole .nil (@zH _) (@za _ _ _ _ _ (@pvx _ 14 _ _ rfl) (@zd _) (by rfl)) (by decide) (by rfl) (by rfl)) (by intro _; rfl))) (@zdF _ _ _ _ (@zR _ _ _ _ _ _ _ _ (@zck _) (@pvx _ 14 _ _ rfl) (@zm _ _ _ _ _ _ _ _ _ _ _ _ _ _ _ _ G_l_weight (hr.mono (by decide)) rfl T.m_l_weight F_l_weight.kp b_l_weight .nil (@zH _) (@za _ _ _ _ _ (@pvx _ 2 _ _ rfl) (@za _ _ _ _ _ (@pvx _ 5 _ _ rfl) (@za _ _ _ _ _ (@pvx _ 8 _ _ rfl) (@zd _) (by rfl)) (by rfl)) (by rfl)) (by decide) (by rfl) (by rfl)) (z6 _))))) (@zj _ _ _ (@zB _ _ _ _ (@zcg _ _ _ _))) (@zab _)) (by exact (@zf _ _ _ _ _ (@zl _ _ (15) _ _ _ _ zX.nd rfl (Or.inl rfl) (@zm _ _ _ _ _ _ _ _ _ _ _ _ _ _ _ _ G_moved (hr.mono (by decide)) rfl T.m_moved F_moved.kp b_moved .nil (@zH _) (@za _ _ _ _ _ (@pvx _ 2 _ _ rfl) (@za _ _ _ _ _ (@pvx _ 9 _ _ rfl) (@za _ _ _ _ _ (@zaA _ _ _ _ _ (@za _ _ _ _ _ (@zg _ _ _ _ _ _ _ _ (@zq _) (@zg _ _ _ _ _ _ _ _ (@zas _) (@ze _ _ _ _) (@pvx _ 10 _ _ rfl)) (@pvx _ 2 _ _ rfl)) (@za _ _ _ _ _ (@zg _ _ _ _ _ _ _ _ (@zq _) (@zg _ _ _ _ _ _ _ _ (@zas _) (@ze _ _ _ _) (@pvx _ 11 _ _ rfl)) (@pvx _ 2 _ _ rfl)) (@zd _) (by rfl)) (by rfl))) (@zd _) (by rfl)) (by rfl)) (by rfl)) (by decide) (by rfl) (by rfl)) (by rfl) (by trivial)) (by exact (@zf _ _ _ _ _ (@zl _ _ (16) _ _ _ _ zX.nd rfl (Or.inr rfl) (@zp _ _ _ _ _ _ _ _ _ (@zaH _ rfl) (by rfl) T.max_ boot_max (@za _ _ _ _ _ (@zL _ _ _ _ _ _ _ _ _ _ _ _ _ (CompSc.of (N':=["line"]) (ix:=[none]) (zh zaX) ["script","at","p","unused","places","curve","draws","k","point","found","a","b","x","y","weight","again","wide"] rfl rfl (by decide +kernel)) rfl (@zY _ _ rfl) (@zbC _ _ _ _ (@pvx _ 5 _ _ rfl)) (fun _ _ _ _ => (@zi _ _ (0) _ (show (["line"] : List Str).Nodup by decide +kernel) rfl (Or.inl rfl) (by trivial))) (fun _ _ _ _ => (@zI _)) (fun _ _ _ _ => (@zp _ _ _ _ _ _ _ _ _ (@zU _ (K) rfl) (by rfl) T.len_ boot_len (@za _ _ _ _ _ (@pvx _ 0 _ _ rfl) (@zd _) (by rfl)) (by decide) (by decide) (by rfl) (by rfl))) (by intro _; rfl)) (@zd _) (by rfl)) (by decide) (by decide) (by rfl) (by rfl)) (by rfl) (by trivial)) (by exact (@zj _ _ _ (@zaY _ _ _ _ _ _ _ _ (@zR _ _ _ _ _ _ _ _ (@zfo _ hu) (@pvx _ 15 _ _ rfl) (@zM _ _ _ _ _ _ _ _ _ (@zP _) (by rfl) T.tuple_ boot_tuple (@za _ _ _ _ _ (@zL _ _ _ _ _ _ _ _ _ _ _ _ _ (CompSc.of (N':=["line","wide"]) (ix:=[none,some 16]) (zh zaX) ["script","at","p","unused","places","curve","draws","k","point","found","a","b","x","y","weight","again","wide"] rfl rfl (by decide +kernel)) rfl (@zY _ _ rfl) (@zbC _ _ _ _ (@pvx _ 5 _ _ rfl)) (fun _ _ _ _ => (@zi _ _ (0) _ (show (["line","wide"] : List Str).Nodup by decide +kernel) rfl (Or.inl rfl) (by trivial))) (fun _ _ _ _ => (@zI _)) (fun _ _ _ _ => (@zg _ _ _ _ _ _ _ _ zgw (@pvx _ 0 _ _ rfl) (@zg _ _ _ _ _ _ _ _ (@zgp _) (@zaA _ _ _ _ _ (@za _ _ _ _ _ (@ze _ _ _ _) (@zd _) (by rfl))) (@zg _ _ _ _ _ _ _ _ (@zas _) (@pvx _ 1 _ _ rfl) (@zp _ _ _ _ _ _ _ _ _ (@zU _ (K) rfl) (by rfl) T.len_ boot_len (@za _ _ _ _ _ (@pvx _ 0 _ _ rfl) (@zd _) (by rfl)) (by decide) (by decide) (by rfl) (by rfl)))))) (by intro _; rfl)) (@zd _) (by rfl)) (by decide) (by decide) (by rfl) (by rfl)) (z6 _)) (@zj _ _ _ (@zB _ _ _ _ (@zcg _ _ _ _))) (@zab _))))))))))))))))))) (by intro _; rfl))))))))))))) (by intro _; rfl)) (by exact (@zj _ _ _ (@zB _ _ _ _ (@zcg _ _ _ _))))),?_⟩
  have hsl:=sizeLine_eq
  refine ⟨2,rfl,by decide,by decide,?_⟩
  refine zT (lo:=0) (n:=2) (fun i σ H' => ∃ (e1 e2 e3 e4 e5 e6 e7 e8 e9 e10 e11 e12 e13 e14 e15 e16 : Option V),σ = [some (.ref a),e1,e2,e3,e4,e5,e6,e7,e8,e9,e10,e11,e12,e13,e14,e15,e16] ∧ zx H H') ⟨none,none,none,none,none,none,none,none,none,none,none,none,none,none,none,none,rfl,fun _ _ e => e⟩ ?_ ?_
  ·rintro i σ H0 hi ⟨e1,e2,e3,e4,e5,e6,e7,e8,e9,e10,e11,e12,e13,e14,e15,e16,rfl,s0⟩
   refine ⟨_,rfl,_,rfl,_,_,rfl,rfl,.inl ⟨by decide,by decide⟩,a,ns,4 * (0 + (i : Int)),5,16,rfl,s0.seq hS,hlen,by omega,by omega,by decide,by decide,by decide,by decide,fun c tt p kI pl H1 hc1 s1 co h1c h1t => ?_⟩
   have rp:=zcw co.pr
   have p0 : 0 < p:=by omega
   have sA1:=s0.trans s1
   refine ⟨c,_,rfl,SqT.of h1c,rfl,_,_,rfl,_,_,rfl,_,_,rfl,rfl,?_⟩
   refine ⟨_,rfl,_,rfl,_,_,rfl,rfl,.inl ⟨by decide,by decide⟩,_,_,rfl,rfl,_,rfl,a,ns,4 * (0 + (i : Int)) + 1,p,9,12,rfl,sA1.seq hS,hlen,by omega,by omega,by omega,by omega,by decide,by decide,by decide,by decide,fun cv ls rows H2 hcv s2 h2 hT n1 n9 hg hne => ?_⟩
   have sA2:=sA1.trans s2
   refine ⟨_,rfl,_,rfl,_,_,rfl,rfl,.inl ⟨by decide,by decide⟩,_,_,rfl,rfl,a,ns,4 * (0 + (i : Int)) + 3,12,27720,rfl,sA2.seq hS,hlen,by omega,by omega,by decide,by decide,by decide,by decide,fun dl ds H3 hdl s3 ok h3 => ?_⟩
   have sA3:=sA2.trans s3
   have dAt : ∀ i : Int,0 ≤ i → i < 12 → ∃ d,atI (ds.map V.int) i = some (.int d) ∧ 0 ≤ d ∧ d < 27720:=fun i h0 h1 => zdy ok h0 h1
   obtain ⟨d0,hd0,r0⟩:=dAt 0 (by decide) (by decide)
   have hT3:=hT.same s3
   have h3c:=s3 _ _ h2
   have hl100 : ∀ r ∈ rows,r.length ≤ 100:=fun r hr => Nat.le_trans (hg r hr).2.1 (by decide)
   have hn100 : rows.length ≤ 100:=by omega
   refine ⟨_,rfl,dl,_,_,_,rfl,rfl,SqL.of h3,hd0,_,_,rfl,rfl,by omega,_,_,rfl,rfl,?_⟩
   have k0:=Int.emod_nonneg d0 (show (4 : Int) ≠ 0 by decide)
   have k4:=Int.emod_lt_of_pos d0 (show 0 < (4 : Int) by decide)
   refine ⟨_,rfl,_,rfl,2 + d0 % 4,cv,ls,rows,rfl,by omega,by omega,h3c,hT3,hn100,hl100,fun M1 H4 s4 _ z1 => ?_⟩
   have znz : szs (2 + d0 % 4) (z0 rows rows.length) ≠ []:=by
    unfold szs
    simpa using zex hne
   have z1:=z1 znz
   refine ⟨_,rfl,_,rfl,2 + d0 % 4,cv,ls,rows,rfl,by omega,by omega,s4 _ _ h3c,hT3.same s4,hn100,hl100,zex hne,fun M2 H5 s5 m1 m2 => ?_⟩
   have eM : M1 = M2:=by
    have q1:=z1.2 _ m1
    have q2:=m2 _ z1.1
    omega
   subst eM
   have sA5:=(sA3.trans s4).trans s5
   have s35:=s4.trans s5
   refine ⟨rfl,_,rfl,?_⟩
   refine zbE (fun hc => absurd hc (by simp)) (fun _ => ?_)
   refine ⟨_,rfl,_,rfl,2 + d0 % 4,cv,ls,rows,rfl,by omega,by omega,s35 _ _ h3c,hT3.same s35,hn100,hl100,fun M3 H6 s6 _ _ => ?_⟩
   refine ⟨M3,rfl,_,rfl,zfg ?_⟩
   have sA6:=sA5.trans s6
   have s36:=s35.trans s6
   have hT6:=hT3.same s36
   have h6c:=s36 _ _ h3c
   have h6d:=s36 _ _ h3
   obtain ⟨d1,hd1,_⟩:=dAt 1 (by decide) (by decide)
   obtain ⟨d2,hd2,_⟩:=dAt 2 (by decide) (by decide)
   obtain ⟨d3,hd3,_⟩:=dAt 3 (by decide) (by decide)
   have em : ∀ z : Int,0 ≤ z % p ∧ z % p < p:=fun z => ⟨Int.emod_nonneg _ (by omega),Int.emod_lt_of_pos _ p0⟩
   refine ⟨by show 2 ≤ sizeLine; omega,fun t1 ht1 => ?_⟩
   have u1:=zb (o:=.tup [.int 0,.int 0]) ht1
   have v1 : upd H6 t1 (.tup [.int 0,.int 0]) t1 = some (.tup [.int 0,.int 0]):=zc
   generalize upd H6 t1 (.tup [.int 0,.int 0]) = H7 at u1 v1 ⊢
   refine ⟨_,rfl,dl,_,_,_,rfl,rfl,SqL.of (u1 _ _ h6d),hd1,_,rfl,_,_,rfl,rfl,by omega,_,rfl,dl,_,_,_,rfl,rfl,SqL.of (u1 _ _ h6d),hd2,_,rfl,_,_,rfl,rfl,by omega,by show 2 ≤ sizeLine; omega,fun t2 ht2 => ?_⟩
   have u2:=u1.trans (zb (o:=.tup [.int (d1 % p),.int (d2 % p)]) ht2)
   have v12:=(zb (o:=.tup [.int (d1 % p),.int (d2 % p)]) ht2) _ _ v1
   have v2 : upd H7 t2 (.tup [.int (d1 % p),.int (d2 % p)]) t2 = some (.tup [.int (d1 % p),.int (d2 % p)]):=zc
   generalize upd H7 t2 (.tup [.int (d1 % p),.int (d2 % p)]) = H8 at u2 v12 v2 ⊢
   refine ⟨_,rfl,dl,_,_,_,rfl,rfl,SqL.of (u2 _ _ h6d),hd3,_,rfl,_,_,rfl,rfl,by omega,by show 2 ≤ sizeLine; omega,fun t3 ht3 => ?_⟩
   have w3:=zb (o:=.tup [.int (d3 % p),.int 0]) ht3
   have v3 : upd H8 t3 (.tup [.int (d3 % p),.int 0]) t3 = some (.tup [.int (d3 % p),.int 0]):=zc
   have u3:=u2.trans w3
   have v13:=w3 _ _ v12
   have v23:=w3 _ _ v2
   generalize upd H8 t3 (.tup [.int (d3 % p),.int 0]) = H9 at u3 v13 v23 v3 ⊢
   refine ⟨by show 3 ≤ sizeLine; omega,fun PL hPL => ?_⟩
   have wL:=zb (o:=.lst [.ref t1,.ref t2,.ref t3]) hPL
   have vL : upd H9 PL (.lst [.ref t1,.ref t2,.ref t3]) PL = some (.lst [.ref t1,.ref t2,.ref t3]):=zc
   have v1:=wL _ _ v13
   have v2:=wL _ _ v23
   have v3:=wL _ _ v3
   have u4:=u3.trans wL
   generalize upd H9 PL (.lst [.ref t1,.ref t2,.ref t3]) = HA at u4 v1 v2 v3 vL ⊢
   have sAA:=sA6.trans u4
   have s3A:=s36.trans u4
   have hTA:=hT3.same s3A
   have hAc:=s3A _ _ h3c
   have hAd:=s3A _ _ h3
   refine ⟨PL,rfl,⟨_,SqL.of vL⟩,zbZ (K:=K) (a:=PL) (xs:=[.ref t1,.ref t2,.ref t3]) (fun m σ H' => ∃ (e1 e3 e4 e7 e8 e9 e10 e11 e12 e13 e14 e15 e16 : Option V),σ = [some (.ref a),e1,some (.int p),e3,e4,some (.ref cv),some (.ref dl),e7,e8,e9,e10,e11,e12,e13,e14,e15,e16] ∧ zx HA H') ⟨_,_,_,_,_,_,_,_,_,_,_,_,_,rfl,fun _ _ e => e⟩ ?_ ?_ ?_⟩
   ·rintro m σ H' _ ⟨e1,e3,e4,e7,e8,e9,e10,e11,e12,e13,e14,e15,e16,rfl,s⟩
    exact SqL.of (s _ _ vL)
   ·rintro m pv σ HB hm ⟨e1,e3,e4,e7,e8,e9,e10,e11,e12,e13,e14,e15,e16,rfl,sB⟩
    obtain ⟨pt,px,py,rfl,hpt,px0,px1,py0,py1⟩ : ∃ pt px py,pv = .ref pt ∧ HA pt = some (.tup [.int px,.int py]) ∧ 0 ≤ px ∧ px < p ∧ 0 ≤ py ∧ py < p:=by
     match m,hm with
     | 0,hm => cases hm; exact ⟨t1,0,0,rfl,v1,by decide,p0,by decide,p0⟩
     | 1,hm => cases hm; exact ⟨t2,_,_,rfl,v2,(em d1).1,(em d1).2,(em d2).1,(em d2).2⟩
     | 2,hm => cases hm; exact ⟨t3,_,_,rfl,v3,(em d3).1,(em d3).2,by decide,p0⟩
     | _ + 3,hm => simp at hm
    have hTB:=hTA.same sB
    have hBc:=sB _ _ hAc
    have hBd:=sB _ _ hAd
    have hBp:=sB _ _ hpt
    refine ⟨_,rfl,_,rfl,_,rfl,p,cv,pt,px,py,ls,rows,rfl,by omega,by omega,px0,px1,py0,py1,hBc,hTB,hBp,hn100,hl100,fun fd fls HC hfd sC hCf hCT => ?_⟩
    have hgr : ∀ r ∈ rows,1 ≤ r.length ∧ r.length ≤ 12 ∧ ∀ v ∈ r,0 ≤ v ∧ v < p:=fun r hr => hg r hr
    refine ⟨_,rfl,_,_,_,_,rfl,.tup hCf,rfl,_,rfl,zfg ?_⟩
    refine ⟨_,rfl,_,rfl,_,rfl,_,rfl,p,cv,pt,px,py,ls,rows,rfl,by omega,by omega,px0,px1,py0,py1,sC _ _ hBc,hTB.same sC,sC _ _ hBp,n1,by omega,hgr,fun gd gls HD hgd sD hDg hDT => ?_⟩
    have hDf:=sD _ _ hCf
    have hDF:=hCT.same sD
    refine zdB hDf hDg hDF hDT ⟨_,rfl,zfg ?_⟩
    have sBD:=sC.trans sD
    have hDp:=sBD _ _ hBp
    have hDd:=sBD _ _ hBd
    refine ⟨_,rfl,pt,_,rfl,SqT.of hDp,rfl,_,_,rfl,_,_,rfl,rfl,?_⟩
    obtain ⟨d4,hd4,_⟩:=dAt 4 (by decide) (by decide)
    obtain ⟨d5,hd5,_⟩:=dAt 5 (by decide) (by decide)
    obtain ⟨d6,hd6,_⟩:=dAt 6 (by decide) (by decide)
    obtain ⟨d7,hd7,_⟩:=dAt 7 (by decide) (by decide)
    refine ⟨_,rfl,dl,_,_,_,rfl,rfl,SqL.of hDd,hd4,_,rfl,_,_,rfl,rfl,by omega,_,rfl,dl,_,_,_,rfl,rfl,SqL.of hDd,hd5,_,rfl,_,_,rfl,rfl,by omega,by show 2 ≤ sizeLine; omega,fun x1 hx1 => ?_⟩
    have a1:=zb (o:=.tup [.int (d4 % p),.int (d5 % p)]) hx1
    have b1 : upd HD x1 (.tup [.int (d4 % p),.int (d5 % p)]) x1 = some (.tup [.int (d4 % p),.int (d5 % p)]):=zc
    generalize upd HD x1 (.tup [.int (d4 % p),.int (d5 % p)]) = HE at a1 b1 ⊢
    refine ⟨_,rfl,dl,_,_,_,rfl,rfl,SqL.of (a1 _ _ hDd),hd6,_,rfl,_,_,rfl,rfl,by omega,_,rfl,dl,_,_,_,rfl,rfl,SqL.of (a1 _ _ hDd),hd7,_,rfl,_,_,rfl,rfl,by omega,by show 2 ≤ sizeLine; omega,fun x2 hx2 => ?_⟩
    have a2:=zb (o:=.tup [.int (d6 % p),.int (d7 % p)]) hx2
    have b2 : upd HE x2 (.tup [.int (d6 % p),.int (d7 % p)]) x2 = some (.tup [.int (d6 % p),.int (d7 % p)]):=zc
    have b1:=a2 _ _ b1
    have a2:=a1.trans a2
    generalize upd HE x2 (.tup [.int (d6 % p),.int (d7 % p)]) = HF at a2 b1 b2 ⊢
    refine ⟨by show 2 ≤ sizeLine; omega,fun XL hXL => ?_⟩
    have a3:=zb (o:=.lst [.ref x1,.ref x2]) hXL
    have bL : upd HF XL (.lst [.ref x1,.ref x2]) XL = some (.lst [.ref x1,.ref x2]):=zc
    have b1:=a3 _ _ b1
    have b2:=a3 _ _ b2
    have a3:=a2.trans a3
    generalize upd HF XL (.lst [.ref x1,.ref x2]) = HG at a3 b1 b2 bL ⊢
    have sBG:=sBD.trans a3
    refine ⟨XL,rfl,⟨_,SqL.of bL⟩,zbZ (K:=K) (a:=XL) (xs:=[.ref x1,.ref x2]) (fun m σ H' => ∃ (e1 e3 e4 e7 e12 e13 e14 e15 e16 : Option V),σ = [some (.ref a),e1,some (.int p),e3,e4,some (.ref cv),some (.ref dl),e7,some (.ref pt),some (.ref fd),some (.int px),some (.int py),e12,e13,e14,e15,e16] ∧ zx HG H') ⟨_,_,_,_,_,_,_,_,_,rfl,fun _ _ e => e⟩ ?_ ?_ ?_⟩
    ·rintro m σ H' _ ⟨e1,e3,e4,e7,e12,e13,e14,e15,e16,rfl,s⟩
     exact SqL.of (s _ _ bL)
    ·rintro m xv σ HI hm ⟨e1,e3,e4,e7,e12,e13,e14,e15,e16,rfl,sI⟩
     obtain ⟨xt,x,y,rfl,hxt,x0,x1,y0,y1⟩ : ∃ xt x y,xv = .ref xt ∧ HG xt = some (.tup [.int x,.int y]) ∧ 0 ≤ x ∧ x < p ∧ 0 ≤ y ∧ y < p:=by
      match m,hm with
      | 0,hm => cases hm; exact ⟨x1,_,_,rfl,b1,(em d4).1,(em d4).2,(em d5).1,(em d5).2⟩
      | 1,hm => cases hm; exact ⟨x2,_,_,rfl,b2,(em d6).1,(em d6).2,(em d7).1,(em d7).2⟩
      | _ + 2,hm => simp at hm
     refine ⟨xt,_,rfl,SqT.of (sI _ _ hxt),rfl,_,_,rfl,_,_,rfl,rfl,?_⟩
     have sDI:=a3.trans sI
     have sBI:=sBD.trans sDI
     refine ⟨_,rfl,_,rfl,_,rfl,_,rfl,p,fd,x,y,fls,mvd p px py rows,rfl,by omega,by omega,x0,x1,y0,y1,sDI _ _ hDf,hDF.same sDI,by rw [show (mvd p px py rows).length = rows.length from zv _ _ _]; omega,fun HJ sJ => ?_⟩
     refine ⟨_,rfl,_,rfl,_,rfl,_,rfl,_,_,rfl,rfl,_,rfl,_,_,rfl,rfl,by omega,_,rfl,_,rfl,_,_,rfl,rfl,_,rfl,_,_,rfl,rfl,by omega,p,cv,(x + px) % p,(y + py) % p,ls,rows,rfl,by omega,by omega,(em _).1,(em _).2,(em _).1,(em _).2,(sBI.trans sJ) _ _ hBc,hTB.same (sBI.trans sJ),by omega,fun HK sK => ?_⟩
     rw [zfW p0]
     refine ⟨rfl,_,rfl,?_⟩
     refine zbE (fun hc => absurd hc (by simp)) (fun _ => ?_)
     exact ⟨_,_,_,_,_,_,_,_,_,rfl,(sI.trans sJ).trans sK⟩
    ·rintro σ HI ⟨e1,e3,e4,e7,e12,e13,e14,e15,e16,rfl,sI⟩
     have sBI:=sBG.trans sI
     have sDI:=a3.trans sI
     refine ⟨_,rfl,_,rfl,_,rfl,p,cv,pt,px,py,ls,rows,rfl,by omega,by omega,px0,px1,py0,py1,sBI _ _ hBc,hTB.same sBI,sBI _ _ hBp,hn100,hl100,fun M1 HJ sJ _ z1 => ?_⟩
     have znz : wts (z0 (mvd p px py rows) rows.length) ≠ []:=by
      unfold wts
      simpa using zfV hg hne
     have z1:=z1 znz
     refine ⟨_,rfl,M1,rfl,_,rfl,zfg ?_⟩
     have sBJ:=sBI.trans sJ
     refine ⟨_,rfl,_,rfl,_,rfl,_,rfl,p,cv,pt,px,py,ls,rows,rfl,by omega,by omega,px0,px1,py0,py1,sBJ _ _ hBc,hTB.same sBJ,sBJ _ _ hBp,n1,by omega,hgr,zfV hg hne,fun M2 HK sK m1 m2 => ?_⟩
     have eM : M1 = M2:=by
      have q1:=z1.2 _ m1
      have q2:=m2 _ z1.1
      omega
     subst eM
     refine ⟨rfl,_,rfl,?_⟩
     refine zbE (fun hc => absurd hc (by simp)) (fun _ => ?_)
     have sBK:=sBJ.trans sK
     have sDK:=(sDI.trans sJ).trans sK
     refine ⟨_,rfl,_,rfl,_,rfl,_,_,rfl,rfl,_,rfl,_,_,rfl,rfl,by omega,_,rfl,_,_,rfl,rfl,_,rfl,_,_,rfl,rfl,by omega,by show 2 ≤ sizeLine; omega,fun nt hnt => ?_⟩
     have aN:=zb (o:=.tup [.int ((0 - px) % p),.int ((0 - py) % p)]) hnt
     have bN : upd HK nt (.tup [.int ((0 - px) % p),.int ((0 - py) % p)]) nt = some (.tup [.int ((0 - px) % p),.int ((0 - py) % p)]):=zc
     generalize upd HK nt (.tup [.int ((0 - px) % p),.int ((0 - py) % p)]) = HL at aN bN ⊢
     have sDL:=sDK.trans aN
     have sBL:=sBK.trans aN
     refine ⟨p,fd,nt,(0 - px) % p,(0 - py) % p,fls,mvd p px py rows,rfl,by omega,by omega,(em _).1,(em _).2,(em _).1,(em _).2,sDL _ _ hDf,hDF.same sDL,bN,by rw [show (mvd p px py rows).length = rows.length from zv _ _ _]; omega,fun r hr => by rw [z7 r hr]; exact zbH hl100,fun ag als HM hag sM hMa hMT => ?_⟩
     rw [zgz n1 hg] at hMT
     have sBM:=sBL.trans sM
     have hMc:=sBM _ _ hBc
     have hTM:=hTB.same sBM
     have hlen:=Paired.length hTM
     have rne : rows ≠ []:=fun e => by rw [e] at n1; simp at n1
     refine ⟨_,rfl,cv,rfl,⟨_,SqT.of hMc⟩,zaG (fs:=(zG rows).map V.int) (SqT.of hMc) (by simp [hlen,zaV]) (by rw [List.length_map]; omega) (fun i u v R B hu hv hR => ?_) (fun D hD => ?_)⟩
     ·obtain ⟨b,rfl,hbi⟩:=zO hu
      obtain ⟨r,hr,hrb⟩:=Paired.get hTM hbi
      unfold zG at hv
      rw [List.getElem?_map,List.getElem?_map,hr] at hv
      have hv : V.int (r.length : Int) = v:=by simpa using hv
      subst hv
      refine gY ?_
      refine ⟨_,rfl,b,_,rfl,.inr (SqT.of hrb),?_⟩
      rw [List.length_map]
      exact hR
     refine ⟨D,zG rows,rfl,SqL.of zc,by unfold zG; simpa using rne,fun M hM hM' => ?_⟩
     have eW : M = (wd rows : Int):=zfR (fun e => absurd e (by unfold zG; simpa using rne)) fun _ => ⟨hM,fun a ha => by rw [if_pos rfl]; exact hM' a ha⟩
     subst eW
     have aD:=zb (o:=.lst ((zG rows).map V.int)) hD
     generalize upd HM D (.lst ((zG rows).map V.int)) = HN at aD ⊢
     have hTN:=hTM.same aD
     have hNc:=aD _ _ hMc
     have wdl:=zbH hl100
     refine ⟨_,rfl,_,rfl,cv,rfl,⟨_,SqT.of hNc⟩,z5 (n:=rows.length) (fun m ys H' => zx HN H' ∧ ∃ us : List Addr,ys = us.map V.ref ∧ zae H' us ((rows.take m).map (zfX (wd rows)))) ⟨fun _ _ e => e,[],rfl,.nil⟩ ?_ ?_ ?_ ?_⟩
     ·rintro m ys H7 hm ⟨s7,_⟩
      exact ⟨_,.ref (ls[m]'(by omega)),SqT.of (s7 _ _ hNc),by rw [List.getElem?_map,List.getElem?_eq_getElem (by omega)]; rfl⟩
     ·rintro ys H7 ⟨s7,_⟩
      exact ⟨_,SqT.of (s7 _ _ hNc),by rw [List.length_map]; omega⟩
     ·rintro m z ys H7 H8 hm ⟨s7,us,rfl,hus⟩ ⟨rfl,hx⟩
      obtain ⟨b,rfl,hbm⟩:=zO (hx _ (SqT.of (s7 _ _ hNc)))
      obtain ⟨r,hr,hrb⟩:=Paired.get hTN hbm
      have hz : us.length = m:=by rw [Paired.length hus,List.length_map,List.length_take]; omega
      have hrl:=hg r (List.mem_of_getElem? hr)
      have hrw:=zbB (List.mem_of_getElem? hr)
      have h7b:=s7 _ _ hrb
      refine gY ?_
      refine ⟨_,rfl,by show 1 ≤ sizeLine; omega,fun z hz0 => ?_⟩
      have az:=zb (o:=.tup [V.int 0]) hz0
      refine ⟨_,rfl,_,rfl,b,_,rfl,.inr (SqT.of (az _ _ h7b)),_,_,rfl,rfl,?_⟩
      have elr : (r.map V.int).length = r.length:=List.length_map ..
      rw [elr]
      have ek : ((wd rows : Int) - (r.length : Int)).toNat = wd rows - r.length:=by omega
      refine ⟨z,_,_,rfl,rfl,zc,by simp,by omega,by omega,by rw [ek]; show 1 * (wd rows - r.length) ≤ sizeLine; have:=hrl.1; omega,fun zz H9 s9 h9 => ?_⟩
      rw [ek,List.flatten_replicate_singleton] at h9
      have a9:=az.trans s9
      refine ⟨b,zz,_,_,rfl,rfl,a9 _ _ h7b,h9,fun e => ?_,by rw [List.length_map,List.length_replicate]; omega,fun W HW sW hW => ?_⟩
      ·have:=hrl.1
       have e2 : r.length = 0:=by rw [← List.length_map (f:=V.int),e]; rfl
       omega
      refine ⟨by first | omega | (rw [List.length_map]; omega),(s7.trans a9).trans sW,us ++ [W],by simp,?_⟩
      rw [take_snoc hr,List.map_append]
      refine Paired.snoc (hus.same (a9.trans sW)) ?_
      rw [hW]
      unfold zfX
      rw [List.map_append,List.map_replicate]
     ·rintro ys H7 D ⟨s7,us,rfl,hus⟩ hD
      rw [List.take_of_length_le (Nat.le_refl _)] at hus
      refine ⟨D,_,rfl,.inl ⟨SqL.of zc,fun l hl => ?_⟩⟩
      have aE:=(zb (o:=.lst (us.map V.ref)) hD).trans (zb (o:=.tup (us.map V.ref)) hl)
      have sNE:=(aD.trans s7).trans aE
      refine zdB (sNE _ _ hMa) zc (hMT.same sNE) (hus.same aE) ⟨_,rfl,zfg ?_⟩
      exact ⟨_,_,_,_,_,_,_,_,_,_,_,_,_,rfl,(sB.trans sBM).trans sNE⟩
   ·rintro σ H' ⟨e1,e3,e4,e7,e8,e9,e10,e11,e12,e13,e14,e15,e16,rfl,s⟩
    exact ⟨_,_,_,_,_,_,_,_,_,_,_,_,_,_,_,_,rfl,sAA.trans s⟩
  ·rintro σ H1 ⟨e1,e2,e3,e4,e5,e6,e7,e8,e9,e10,e11,e12,e13,e14,e15,e16,rfl,s1⟩
   exact q _
end
end My
end
section
set_option maxHeartbeats 3999000
namespace My
open PySem L2 PyProof.Rows
structure Dn (K : PySem.W.Frag) (x : Str) (st : Stmt) (f : Addr) (fd : FuncData) : Prop where
 a : PySem.W.nsIn K mainGlobals x = some (some (.ref f))
 f : Fun K x x st f fd
theorem zaa {K : PySem.W.Frag} {x : Str} {st : Stmt} {f : Addr} {od an : Option Addr} {sl : Array (Option Value)} {oc kV dc pm cd ct : Value} (a : PySem.W.nsIn K mainGlobals x = some (some (.ref f))) (l : K.lookup f = some ⟨oc,od,.func (PySem.W.fnOf x x (zay st) (zam st) (zh st) .none kV dc pm an cd ct),sl⟩) (c : PySem.W.codeIn K cd x = true) (k : PySem.W.keepIn K (.ref f) = true) : Dn K x st f (PySem.W.fnOf x x (zay st) (zam st) (zh st) .none kV dc pm an cd ct):=⟨a,zff l c k⟩
theorem zhn {l : PySem.W.OpenLaw} {w : World} {K : PySem.W.Frag} {h : Heap} {mg : Str → Option Value} {fa fl : Addr} (X : K.In h) (G : h.Ns mainGlobals mg) (hfa : mg "law" = some (.ref fa))
  {od an : Option Addr} {sl : Array (Option Value)} {oc kV dc pm cd ct : Value} (d_width_of : ∃ f fd,Dn K "width_of" zau f fd) (d_filled : ∃ f fd,Dn K "filled" za8 f fd) (d_terms_of : ∃ f fd,Dn K "terms_of" zav f fd) (d_turned : ∃ f fd,Dn K "turned" za9 f fd) (d_raised : ∃ f fd,Dn K "raised" zba f fd) (d_size_of : ∃ f fd,Dn K "size_of" zaI f fd) (d_moved : ∃ f fd,Dn K "moved" zby f fd) (d_weight_at : ∃ f fd,Dn K "weight_at" zai f fd) (d_l_cell : ∃ f fd,Dn K "_law_cell" zbz f fd) (d_l_draws : ∃ f fd,Dn K "_law_draws" zbg f fd) (d_l_whole : ∃ f fd,Dn K "_law_whole" zbh f fd) (d_l_code : ∃ f fd,Dn K "_law_code" zbb f fd) (d_l_value : ∃ f fd,Dn K "_law_value" zbi f fd) (d_l_powers : ∃ f fd,Dn K "_law_powers" zaT f fd) (d_l_curve : ∃ f fd,Dn K "_law_curve" zaq f fd) (d_l_choose : ∃ f fd,Dn K "_law_choose" zaU f fd) (d_l_moved : ∃ f fd,Dn K "_law_moved" zaJ f fd) (d_l_weight : ∃ f fd,Dn K "_law_weight" zaw f fd) (d_l_worth : ∃ f fd,Dn K "_law_worth" zaK f fd) (d_l_size : ∃ f fd,Dn K "_law_size" zbc f fd)
  (al : PySem.W.nsIn K mainGlobals "law" = some (some (.ref fl))) (ll : K.lookup fl = some ⟨oc,od,.func (PySem.W.fnOf "law" "law" (zay zaX) (zam zaX) (zh zaX) .none kV dc pm an cd ct),sl⟩) (cl : PySem.W.codeIn K cd "law" = true) (kl : PySem.W.keepIn K (.ref fl) = true) (z_len : PySem.W.nsIn K mainGlobals "len" = some none) (z_range : PySem.W.nsIn K mainGlobals "range" = some none) (z_list : PySem.W.nsIn K mainGlobals "list" = some none) (z_tuple : PySem.W.nsIn K mainGlobals "tuple" = some none) (z_min : PySem.W.nsIn K mainGlobals "min" = some none) (z_max : PySem.W.nsIn K mainGlobals "max" = some none) (z_isinstance : PySem.W.nsIn K mainGlobals "isinstance" = some none) (z_zip : PySem.W.nsIn K mainGlobals "zip" = some none) (z_enumerate : PySem.W.nsIn K mainGlobals "enumerate" = some none) (z_reversed : PySem.W.nsIn K mainGlobals "reversed" = some none) (z_int : PySem.W.nsIn K mainGlobals "int" = some none) (z_bool : PySem.W.nsIn K mainGlobals "bool" = some none) :
  ∃ fd : FuncData,(∀ (s : Shared) (v : Value),BindsTo s fd ⟨[v],[]⟩ [("script",v)]) ∧ ∀ base : Heap,K.In base → base.Ns mainGlobals mg → FnOk l.prog w K mg base CX0 6 fa fd ["script"] (zcP K):=by
 cases hfa.symm.trans (PySem.W.mg_of X G al)
 obtain ⟨f_width_of,fd_width_of,D_width_of⟩:=d_width_of
 have b_width_of:=D_width_of.f.binds (ps:=["curve"]) fun _ _ _ _ _ _ us hl => match us,hl with | [_],_ => rfl
 obtain ⟨f_filled,fd_filled,D_filled⟩:=d_filled
 have b_filled:=D_filled.f.binds (ps:=["p","curve"]) fun _ _ _ _ _ _ us hl => match us,hl with | [_,_],_ => rfl
 obtain ⟨f_terms_of,fd_terms_of,D_terms_of⟩:=d_terms_of
 have b_terms_of:=D_terms_of.f.binds (ps:=["curve"]) fun _ _ _ _ _ _ us hl => match us,hl with | [_],_ => rfl
 obtain ⟨f_turned,fd_turned,D_turned⟩:=d_turned
 have b_turned:=D_turned.f.binds (ps:=["lines","width"]) fun _ _ _ _ _ _ us hl => match us,hl with | [_,_],_ => rfl
 obtain ⟨f_raised,fd_raised,D_raised⟩:=d_raised
 have b_raised:=D_raised.f.binds (ps:=["p","lines","by"]) fun _ _ _ _ _ _ us hl => match us,hl with | [_,_,_],_ => rfl
 obtain ⟨f_size_of,fd_size_of,D_size_of⟩:=d_size_of
 have b_size_of:=D_size_of.f.binds (ps:=["k","curve"]) fun _ _ _ _ _ _ us hl => match us,hl with | [_,_],_ => rfl
 obtain ⟨f_moved,fd_moved,D_moved⟩:=d_moved
 have b_moved:=D_moved.f.binds (ps:=["p","curve","point"]) fun _ _ _ _ _ _ us hl => match us,hl with | [_,_,_],_ => rfl
 obtain ⟨f_weight_at,fd_weight_at,D_weight_at⟩:=d_weight_at
 have b_weight_at:=D_weight_at.f.binds (ps:=["p","curve","point"]) fun _ _ _ _ _ _ us hl => match us,hl with | [_,_,_],_ => rfl
 obtain ⟨f_l_cell,fd_l_cell,D_l_cell⟩:=d_l_cell
 have b_l_cell:=D_l_cell.f.binds (ps:=["script","k"]) fun _ _ _ _ _ _ us hl => match us,hl with | [_,_],_ => rfl
 obtain ⟨f_l_draws,fd_l_draws,D_l_draws⟩:=d_l_draws
 have b_l_draws:=D_l_draws.f.binds (ps:=["script","k","many","base"]) fun _ _ _ _ _ _ us hl => match us,hl with | [_,_,_,_],_ => rfl
 obtain ⟨f_l_whole,fd_l_whole,D_l_whole⟩:=d_l_whole
 have b_l_whole:=D_l_whole.f.binds (ps:=["found"]) fun _ _ _ _ _ _ us hl => match us,hl with | [_],_ => rfl
 obtain ⟨f_l_code,fd_l_code,D_l_code⟩:=d_l_code
 have b_l_code:=D_l_code.f.binds (ps:=["script","at","most_k","most_n"]) fun _ _ _ _ _ _ us hl => match us,hl with | [_,_,_,_],_ => rfl
 obtain ⟨f_l_value,fd_l_value,D_l_value⟩:=d_l_value
 have b_l_value:=D_l_value.f.binds (ps:=["p","polynomial","x"]) fun _ _ _ _ _ _ us hl => match us,hl with | [_,_,_],_ => rfl
 obtain ⟨f_l_powers,fd_l_powers,D_l_powers⟩:=d_l_powers
 have b_l_powers:=D_l_powers.f.binds (ps:=["p","x","many"]) fun _ _ _ _ _ _ us hl => match us,hl with | [_,_,_],_ => rfl
 obtain ⟨f_l_curve,fd_l_curve,D_l_curve⟩:=d_l_curve
 have b_l_curve:=D_l_curve.f.binds (ps:=["script","at","p","high","wide"]) fun _ _ _ _ _ _ us hl => match us,hl with | [_,_,_,_,_],_ => rfl
 obtain ⟨f_l_choose,fd_l_choose,D_l_choose⟩:=d_l_choose
 have b_l_choose:=D_l_choose.f.binds (ps:=["many","few"]) fun _ _ _ _ _ _ us hl => match us,hl with | [_,_],_ => rfl
 obtain ⟨f_l_moved,fd_l_moved,D_l_moved⟩:=d_l_moved
 have b_l_moved:=D_l_moved.f.binds (ps:=["p","curve","point"]) fun _ _ _ _ _ _ us hl => match us,hl with | [_,_,_],_ => rfl
 obtain ⟨f_l_weight,fd_l_weight,D_l_weight⟩:=d_l_weight
 have b_l_weight:=D_l_weight.f.binds (ps:=["p","curve","point"]) fun _ _ _ _ _ _ us hl => match us,hl with | [_,_,_],_ => rfl
 obtain ⟨f_l_worth,fd_l_worth,D_l_worth⟩:=d_l_worth
 have b_l_worth:=D_l_worth.f.binds (ps:=["p","curve","x","y"]) fun _ _ _ _ _ _ us hl => match us,hl with | [_,_,_,_],_ => rfl
 obtain ⟨f_l_size,fd_l_size,D_l_size⟩:=d_l_size
 have b_l_size:=D_l_size.f.binds (ps:=["k","curve"]) fun _ _ _ _ _ _ us hl => match us,hl with | [_,_],_ => rfl
 have T : Txt K mg ⟨f_width_of,f_filled,f_terms_of,f_turned,f_raised,f_size_of,f_moved,f_weight_at,f_l_cell,f_l_draws,f_l_whole,f_l_code,f_l_value,f_l_powers,f_l_curve,f_l_choose,f_l_moved,f_l_weight,f_l_worth,f_l_size,fa⟩:=⟨PySem.W.mg_none_of X G z_len,PySem.W.mg_none_of X G z_range,PySem.W.mg_none_of X G z_list,PySem.W.mg_none_of X G z_tuple,PySem.W.mg_none_of X G z_min,PySem.W.mg_none_of X G z_max,PySem.W.mg_none_of X G z_isinstance,PySem.W.mg_none_of X G z_zip,PySem.W.mg_none_of X G z_enumerate,PySem.W.mg_none_of X G z_reversed,PySem.W.mg_none_of X G z_int,PySem.W.mg_none_of X G z_bool,PySem.W.mg_of X G D_width_of.a,PySem.W.mg_of X G D_filled.a,PySem.W.mg_of X G D_terms_of.a,PySem.W.mg_of X G D_turned.a,PySem.W.mg_of X G D_raised.a,PySem.W.mg_of X G D_size_of.a,PySem.W.mg_of X G D_moved.a,PySem.W.mg_of X G D_weight_at.a,PySem.W.mg_of X G D_l_cell.a,PySem.W.mg_of X G D_l_draws.a,PySem.W.mg_of X G D_l_whole.a,PySem.W.mg_of X G D_l_code.a,PySem.W.mg_of X G D_l_value.a,PySem.W.mg_of X G D_l_powers.a,PySem.W.mg_of X G D_l_curve.a,PySem.W.mg_of X G D_l_choose.a,PySem.W.mg_of X G D_l_moved.a,PySem.W.mg_of X G D_l_weight.a,PySem.W.mg_of X G D_l_worth.a,PySem.W.mg_of X G D_l_size.a,⟨_,D_width_of.f,b_width_of⟩,⟨_,D_filled.f,b_filled⟩,⟨_,D_terms_of.f,b_terms_of⟩,⟨_,D_turned.f,b_turned⟩,⟨_,D_raised.f,b_raised⟩,⟨_,D_size_of.f,b_size_of⟩,⟨_,D_moved.f,b_moved⟩,⟨_,D_weight_at.f,b_weight_at⟩,⟨_,D_l_cell.f,b_l_cell⟩,⟨_,D_l_draws.f,b_l_draws⟩,⟨_,D_l_whole.f,b_l_whole⟩,⟨_,D_l_code.f,b_l_code⟩,⟨_,D_l_value.f,b_l_value⟩,⟨_,D_l_powers.f,b_l_powers⟩,⟨_,D_l_curve.f,b_l_curve⟩,⟨_,D_l_choose.f,b_l_choose⟩,⟨_,D_l_moved.f,b_l_moved⟩,⟨_,D_l_weight.f,b_l_weight⟩,⟨_,D_l_worth.f,b_l_worth⟩,⟨_,D_l_size.f,b_l_size⟩⟩
 have FL:=zff (st:=zaX) ll cl kl
 exact ⟨PySem.W.fnOf "law" "law" (zay zaX) (zam zaX) (zh zaX) .none kV dc pm an cd ct,fun s v => .of_eq rfl,fun base _ _ => zhm T FL⟩
theorem walk {l : PySem.W.OpenLaw} {q : Program} {loose : List Str} {XP : (Str → Option Value) → Heap → Prop} {YP : World → Heap → Prop} {d : DefRec} {K : Params → PySem.W.Frag} (hn : l.most = some 63) (hdf : d.params.defaults = []) (hY : ∀ (w : World) (h : Heap),YP w h → (K w.params).In h)
  (F : ∀ (w : World) (mg : Str → Option Value) (fa : Addr) (h : Heap),(K w.params).In h → h.Ns mainGlobals mg → mg d.name = some (.ref fa) → ∃ fd : FuncData,(∀ (s : Shared) (u : Value),BindsTo s fd ⟨[u],[]⟩ [("script",u)]) ∧ ∀ base : Heap,(K w.params).In base → base.Ns mainGlobals mg → FnOk l.prog w (K w.params) mg base CX0 6 fa fd ["script"] (zcP (K w.params))) : PySem.W.WalkO q loose XP YP l.row.toRowW d [] (fun f vs => PySem.call f vs) :=
 L2.zgd (n:=63) (k:=6) (x:="script") (CX:=fun _ => CX0) (sp:=fun w => zcP (K w.params)) hn (by decide) hdf ⟨rfl,by decide,by decide⟩ hY F (fun _ _ a ns hl _ hS => ⟨a,ns,rfl,hS,hl,fun _ => rfl⟩) fun _ _ _ _ _ z => z
end My
open PySem PySem.W
open PyProof.Rows
set_option maxHeartbeats 0 in
theorem PySem.Challenge.cw_slipcurve_k09_curves_moved_holds : PySem.Challenge.rw_slipcurve_k09_curves_moved.Holds := by
 w_on; o_law; k_head; (case hw => w_witness2)
 k_fill
 refine My.walk (l:=PySem.Challenge.rw_slipcurve_k09_curves_moved) rfl rfl (fun w h Y => PySem.W.kIn_of Y) ?F
 case F =>
  intro w mg fa h KX G hmg
  refine' My.zhn KX G hmg ⟨_,_,My.zaa ?a_width_of ?l_width_of ?c_width_of ?k_width_of⟩ ⟨_,_,My.zaa ?a_filled ?l_filled ?c_filled ?k_filled⟩ ⟨_,_,My.zaa ?a_terms_of ?l_terms_of ?c_terms_of ?k_terms_of⟩ ⟨_,_,My.zaa ?a_turned ?l_turned ?c_turned ?k_turned⟩ ⟨_,_,My.zaa ?a_raised ?l_raised ?c_raised ?k_raised⟩ ⟨_,_,My.zaa ?a_size_of ?l_size_of ?c_size_of ?k_size_of⟩ ⟨_,_,My.zaa ?a_moved ?l_moved ?c_moved ?k_moved⟩ ⟨_,_,My.zaa ?a_weight_at ?l_weight_at ?c_weight_at ?k_weight_at⟩ ⟨_,_,My.zaa ?a_l_cell ?l_l_cell ?c_l_cell ?k_l_cell⟩ ⟨_,_,My.zaa ?a_l_draws ?l_l_draws ?c_l_draws ?k_l_draws⟩ ⟨_,_,My.zaa ?a_l_whole ?l_l_whole ?c_l_whole ?k_l_whole⟩ ⟨_,_,My.zaa ?a_l_code ?l_l_code ?c_l_code ?k_l_code⟩ ⟨_,_,My.zaa ?a_l_value ?l_l_value ?c_l_value ?k_l_value⟩ ⟨_,_,My.zaa ?a_l_powers ?l_l_powers ?c_l_powers ?k_l_powers⟩ ⟨_,_,My.zaa ?a_l_curve ?l_l_curve ?c_l_curve ?k_l_curve⟩ ⟨_,_,My.zaa ?a_l_choose ?l_l_choose ?c_l_choose ?k_l_choose⟩ ⟨_,_,My.zaa ?a_l_moved ?l_l_moved ?c_l_moved ?k_l_moved⟩ ⟨_,_,My.zaa ?a_l_weight ?l_l_weight ?c_l_weight ?k_l_weight⟩ ⟨_,_,My.zaa ?a_l_worth ?l_l_worth ?c_l_worth ?k_l_worth⟩ ⟨_,_,My.zaa ?a_l_size ?l_l_size ?c_l_size ?k_l_size⟩ ?al ?ll ?cl ?kl ?z_len ?z_range ?z_list ?z_tuple ?z_min ?z_max ?z_isinstance ?z_zip ?z_enumerate ?z_reversed ?z_int ?z_bool
  (case a_width_of => k_is); (case l_width_of => k_is); (case c_width_of => k_is); (case k_width_of => k_is)
  (case a_filled => k_is); (case l_filled => k_is); (case c_filled => k_is); (case k_filled => k_is)
  (case a_terms_of => k_is); (case l_terms_of => k_is); (case c_terms_of => k_is); (case k_terms_of => k_is)
  (case a_turned => k_is); (case l_turned => k_is); (case c_turned => k_is); (case k_turned => k_is)
  (case a_raised => k_is); (case l_raised => k_is); (case c_raised => k_is); (case k_raised => k_is)
  (case a_size_of => k_is); (case l_size_of => k_is); (case c_size_of => k_is); (case k_size_of => k_is)
  (case a_moved => k_is); (case l_moved => k_is); (case c_moved => k_is); (case k_moved => k_is)
  (case a_weight_at => k_is); (case l_weight_at => k_is); (case c_weight_at => k_is); (case k_weight_at => k_is)
  (case a_l_cell => k_is); (case l_l_cell => k_is); (case c_l_cell => k_is); (case k_l_cell => k_is)
  (case a_l_draws => k_is); (case l_l_draws => k_is); (case c_l_draws => k_is); (case k_l_draws => k_is)
  (case a_l_whole => k_is); (case l_l_whole => k_is); (case c_l_whole => k_is); (case k_l_whole => k_is)
  (case a_l_code => k_is); (case l_l_code => k_is); (case c_l_code => k_is); (case k_l_code => k_is)
  (case a_l_value => k_is); (case l_l_value => k_is); (case c_l_value => k_is); (case k_l_value => k_is)
  (case a_l_powers => k_is); (case l_l_powers => k_is); (case c_l_powers => k_is); (case k_l_powers => k_is)
  (case a_l_curve => k_is); (case l_l_curve => k_is); (case c_l_curve => k_is); (case k_l_curve => k_is)
  (case a_l_choose => k_is); (case l_l_choose => k_is); (case c_l_choose => k_is); (case k_l_choose => k_is)
  (case a_l_moved => k_is); (case l_l_moved => k_is); (case c_l_moved => k_is); (case k_l_moved => k_is)
  (case a_l_weight => k_is); (case l_l_weight => k_is); (case c_l_weight => k_is); (case k_l_weight => k_is)
  (case a_l_worth => k_is); (case l_l_worth => k_is); (case c_l_worth => k_is); (case k_l_worth => k_is)
  (case a_l_size => k_is); (case l_l_size => k_is); (case c_l_size => k_is); (case k_l_size => k_is)
  (case al => k_is); (case ll => k_is); (case cl => k_is); (case kl => k_is)
  (case z_len => k_is); (case z_range => k_is); (case z_list => k_is); (case z_tuple => k_is); (case z_min => k_is); (case z_max => k_is); (case z_isinstance => k_is); (case z_zip => k_is); (case z_enumerate => k_is); (case z_reversed => k_is); (case z_int => k_is); (case z_bool => k_is)
#print axioms PySem.Challenge.cw_slipcurve_k09_curves_moved_holds
end