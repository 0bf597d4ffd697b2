import PyProof.Rows.All
import Wide.All
import OpenK.AllK
import Wide.FinOn
import Lean
import PyProof.EqAt
import PyProof.EqKinds
import KE.KDictOf
import PyProof.AttrMissHeap
import PyProof.Rows.MinMaxN
import PyProof.ListMulRoad
import KE.KUnpackStar
import KE.KIntText
import PyProof.CallStr
import KE.KDictSum
import KE.KSortTup
import PyProof.Walk
import PyProof.Rows.SortRuns
import PyProof.Rows.ChunkEnd
import PyProof.Rows.Range3
import PyProof.Rows.SeqGen
import PyProof.ConsumeWalk
import PyProof.ListRange
import PyProof.NeKinds
import PyProof.TupleCall
import PySem.Challenge.RW_slipcurve_k17_papers_found
local macro_rules | `(tactic| trivial)=>`(tactic| first | exact .inl rfl | exact .inr rfl | assumption)
set_option Elab.async false
set_option linter.all false
set_option maxRecDepth 100000
namespace L2
open PySem PySem.Spec PyProof.Rows
abbrev Key:=Sum Int Str
def ze2:Key→Value→Bool
 | .inl k,v=>Value.isInt k v
 | .inr x,v=>Value.isStrOf x v
def znX (w:World):Key→Int
 | .inl k=>hashInt k
 | .inr x=>hashStr w x
theorem zan:∀ {k:Key} {v:Value},ze2 k v=true→(∃ i t,k=Sum.inl i∧v=Value.int i t)∨(∃ x t,k=Sum.inr x∧v=Value.str x t)
 | .inl i,v,h=>by
  obtain⟨t,e⟩:=Value.isInt_shape (k:=i) (v:=v) h
  exact .inl ⟨i,t,rfl,e⟩
 | .inr x,v,h=>by
  obtain⟨t,e⟩:=Value.isStrOf_shape (x:=x) (v:=v) h
  exact .inr ⟨x,t,rfl,e⟩
theorem zin (i:Int) (t:Tok):ze2 (.inl i) (.int i t)=true:=by simp [ze2,Value.isInt]
theorem zio (x:Str) (t:Tok):ze2 (.inr x) (.str x t)=true:=by simp [ze2,Value.isStrOf]
theorem zmo (a b:Int):decide ((Sum.inl a:Key)=Sum.inl b)=(a == b):=by
 by_cases e:a=b
 ·subst e; simp
 ·have h:¬ (Sum.inl a:Key)=Sum.inl b:=fun q=>e (Sum.inl.inj q)
  rw [decide_eq_false h]
  exact (beq_eq_false_iff_ne.mpr e).symm
theorem zmp (a b:Str):decide ((Sum.inr a:Key)=Sum.inr b)=decide (a=b):=by
 by_cases e:a=b
 ·subst e; simp
 ·have h:¬ (Sum.inr a:Key)=Sum.inr b:=fun q=>e (Sum.inr.inj q)
  rw [decide_eq_false h,decide_eq_false e]
theorem zmq (a:Int) (b:Str):decide ((Sum.inl a:Key)=Sum.inr b)=false:=decide_eq_false (fun q=>nomatch q)
theorem zmr (a:Str) (b:Int):decide ((Sum.inr a:Key)=Sum.inl b)=false:=decide_eq_false (fun q=>nomatch q)
def zay (prog:Program) (w:World):PySem.KeyKind prog w Key where
 is:=ze2
 hash:=znX w
 inj:=fun v a b ha hb=>by
  rcases zan ha with ⟨i,t,rfl,rfl⟩ | ⟨x,t,rfl,rfl⟩
  ·rcases zan hb with ⟨j,u,rfl,e⟩ | ⟨y,u,rfl,e⟩
   ·injection e with e1 _; rw [e1]
   ·exact nomatch e
  ·rcases zan hb with ⟨j,u,rfl,e⟩ | ⟨y,u,rfl,e⟩
   ·exact nomatch e
   ·injection e with e1 _; rw [e1]
 byValue:=fun k v h=>by
  rcases zan h with ⟨i,t,rfl,rfl⟩ | ⟨x,t,rfl,rfl⟩ <;> rfl
 pyHash:=fun hv h=>by
  rcases zan hv with ⟨i,t,rfl,rfl⟩ | ⟨x,t,rfl,rfl⟩
  ·exact wpAny_pyHash_int h
  ·exact wpAny_pyHash_str h
 eqBool:=fun hu hv h=>by
  rcases zan hu with ⟨i,t,rfl,rfl⟩ | ⟨x,t,rfl,rfl⟩
  ·rcases zan hv with ⟨j,u,rfl,rfl⟩ | ⟨y,u,rfl,rfl⟩
   ·rw [zmo] at h; exact wpAny_eqBool_int h
   ·rw [zmq] at h; exact SeqAt.EqAt.int_str i t y u _ _ _ _ h
  ·rcases zan hv with ⟨j,u,rfl,rfl⟩ | ⟨y,u,rfl,rfl⟩
   ·rw [zmr] at h; exact SeqAt.EqAt.str_int x t j u _ _ _ _ h
   ·rw [zmp] at h; exact wpAny_eqBool_str h
 «strs»:=fun k x t v h=>by
  rcases zan h with ⟨i,u,rfl,e⟩ | ⟨y,u,rfl,e⟩
  ·exact nomatch e
  ·injection e with e1 _
   subst e1
   cases v <;> rfl
theorem zgd (prog:Program) (w:World) (i:Int) (t:Tok):(zay prog w).is (.inl i) (.int i t)=true:=zin i t
theorem zge (prog:Program) (w:World) (x:Str) (t:Tok):(zay prog w).is (.inr x) (.str x t)=true:=zio x t
inductive V where
 | non | bl (b:Bool) | int (i:Int) | str (x:Str) | byt (b:Array UInt8) | flt (b:UInt64) | ref (a:Addr) | ty (n:String)
 deriving DecidableEq
def RelV:V→Value→Prop
 | .non,u=>u=Value.none
 | .bl b,u=>u=Value.bool b
 | .int i,u=>∃ t,u=Value.int i t
 | .str x,u=>∃ t,u=Value.str x t
 | .byt b,u=>∃ t,u=Value.bytes b t
 | .flt b,u=>∃ t,u=Value.float b t
 | .ref a,u=>u=Value.ref a
 | .ty n,u=>u=Value.type n
abbrev zK:List V→List Value→Prop:=Paired RelV
theorem zK.length {xs:List V} {us:List Value} (r:zK xs us):xs.length=us.length:=Paired.length r
theorem zK.get:∀ {xs:List V} {us:List Value} {i:Nat} {x:V},zK xs us→xs[i]? = some x→∃ u,us[i]? = some u∧RelV x u
 | _,_,_,_,.nil,e=>by simp at e
 | _,_,0,_,.cons r _,e=>by simp at e; subst e; exact⟨_,rfl,r⟩
 | _,_,i+1,x,.cons _ t,e=>by
  obtain⟨u,h1,h2⟩:=zK.get (i:=i) (x:=x) t (by simpa using e)
  exact⟨u,by simpa using h1,h2⟩
theorem zK.set {x:V} {u:Value} (r:RelV x u):∀ {xs:List V} {us:List Value} (i:Nat),zK xs us→zK (xs.set i x) (us.set i u)
 | _,_,_,.nil=>.nil
 | _,_,0,.cons _ t=>.cons r t
 | _,_,i+1,.cons q t=>.cons q (zK.set r i t)
theorem zK.append:∀ {xs ys:List V} {us ws:List Value},zK xs us→zK ys ws→zK (xs++ys) (us++ws)
 | _,_,_,_,.nil,s=>s
 | _,_,_,_,.cons r t,s=>.cons r (zK.append t s)
theorem zK.take:∀ {xs:List V} {us:List Value} (n:Nat),zK xs us→zK (xs.take n) (us.take n)
 | _,_,0,_=>.nil
 | _,_,_+1,.nil=>.nil
 | _,_,n+1,.cons r t=>.cons r (zK.take n t)
theorem zK.drop:∀ {xs:List V} {us:List Value} (n:Nat),zK xs us→zK (xs.drop n) (us.drop n)
 | _,_,0,r=>r
 | _,_,_+1,.nil=>.nil
 | _,_,n+1,.cons _ t=>zK.drop n t
def zfs:Option V→Option Value→Prop
 | some v,some u=>RelV v u
 | none,none=>True
 | _,_=>False
def KV {κ:Type}:List (κ×V)→List (κ×Value)→Prop:=Paired fun (p:κ×V) (q:κ×Value)=>p.1=q.1∧RelV p.2 q.2
def kV:Key→V
 | .inl i=>.int i
 | .inr x=>.str x
inductive HO where
 | lst (xs:List V)
 | tup (xs:List V)
 | dK (kvs:List (Key×V)) | dT (kvs:List (List Key×V))
 | set (S:Int→Bool) (n:Nat)
 | ins (C dx:Addr) (fs:List (Str×V))
 | own (x:Addr)
 | xd (fs:List (Str×V))
 | met (f x:Addr)
 | rng (lo hi:Int)
 | frz (o:Obj) (u:HO)
 | tbl (ps:Array Value)
 | ext (φ:Heap→Prop)
abbrev Hp:=Addr→Option HO
def upd (H:Hp) (a:Addr) (o:HO):Hp:=fun b=>if b=a then some o else H b
theorem zc {H:Hp} {a:Addr} {o:HO}:upd H a o a=some o:=by unfold upd; rw [if_pos rfl]
theorem zl {H:Hp} {a b:Addr} {o:HO} (h:b≠a):upd H a o b=H b:=by unfold upd; rw [if_neg h]
theorem zhQ {H:Hp} {a:Addr} {o u:HO}:upd (upd H a o) a u=upd H a u:=by
 funext b; unfold upd; split <;> rfl
theorem znm {H:Hp} {a b:Addr} {o u:HO} (h:H a=some o) (h':H b=some u) (d:o≠u):a≠b:=by
 intro e; subst e; rw [h] at h'; exact d (Option.some.inj h')
theorem zq {H:Hp} {a b:Addr} {o:HO} (h:H a=some o) (h':H b=none):a≠b:=by
 intro e; subst e; rw [h] at h'; cases h'
section
variable (P:Program) (w:World)
def zab (H:Hp) (h:Heap) (a:Addr):HO→Prop
 | .lst xs=>xs.length≤sizeLine∧∃ (its:List Value) (n:Nat),zK xs its∧h.get? a=some { cls:=.type "list",data:=.seq its.toArray n }
 | .tup xs=>xs.length≤sizeLine∧∃ its:List Value,zK xs its∧IsTup h a its.toArray
 | .dK kvs=>kvs.length≤sizeLine∧(a == sysModules)=false∧∃ vs,KV kvs vs∧h.DictOf (zay P w) a vs
 | .dT kvs=>kvs.length≤sizeLine∧(a == sysModules)=false∧∃ xs:List (List Key×Addr×Value),
   Paired (fun (p:List Key×V) (q:List Key×Addr×Value)=>p.1=q.1∧H q.2.1=some (.tup (p.1.map kV))∧RelV p.2 q.2.2) kvs xs ∧
   ∃ o es ep,h.get? a=some o∧o.ExactDict∧o.data = .dict es ep∧es.toList=xs.map (entryOfKey (tupleKind (zay P w)))∧(xs.map (·.1)).Nodup
 | .set S n=>h.SetOf (intKind P w) a S n
 | .ins C dx fs=>H dx=some (.own a)∧fs.length≤1000∧dx≠a∧h.get? a=some (PySem.W.instObj C dx) ∧
   ∃ mA,h.Ns1 dx mA∧(∀ f,zfs (fs.lookup f) (mA f))∧PySem.Within mA (fs.map (·.1))
 | .own _=>∃ o,h.get? a=some o
 | .xd fs=>∃ mA,h.Ns1 a mA∧∀ f,zfs (fs.lookup f) (mA f)
 | .rng lo hi=>∃ t u v,h.get? a=some { cls:=.type "range",data:=.fields #[.int lo t,.int hi u,.int 1 v] }
 | .frz o u=>h.get? a=some o∧zab H h a u
 | .tbl ps=>h.get? a=some { cls:=.none,data:=.fields ps }
 | .met f x=>h.get? a=some (PySem.W.methodObj (.ref f) (.ref x))
 | .ext φ=>φ h∧(∃ o,h.get? a=some o)∧∀ h1 h2:Heap,φ h1→(∀ o,h1.get? a=some o→h2.get? a=some o)→φ h2
def HOk (H:Hp) (h:Heap):Prop:=∀ a o,H a=some o→zab P w H h a o
end
section
variable {P:Program} {w:World} {H H':Hp} {h h':Heap} {a:Addr} {o:HO}
theorem zab.lt (x:zab P w H h a o):a < h.objs.size:=by
 cases o with
 | lst xs=>obtain⟨_,_,_,_,e⟩:=x; exact Heap.lt_size e
 | tup xs=>obtain⟨_,_,_,p⟩:=x; exact p.lt
 | dK kvs=>obtain⟨_,_,_,_,o,_,_,e,_⟩:=x; exact Heap.lt_size e
 | dT kvs=>obtain⟨_,_,_,_,o,_,_,e,_⟩:=x; exact Heap.lt_size e
 | set S n=>obtain⟨o,_,_,_,e,_⟩:=x; exact Heap.lt_size e
 | ins C dx fs=>obtain⟨_,_,_,e,_⟩:=x; exact Heap.lt_size e
 | own y=>obtain⟨_,e⟩:=x; exact Heap.lt_size e
 | xd fs=>obtain⟨_,⟨_,_,_,e,_⟩,_⟩:=x; exact Heap.lt_size e
 | rng lo hi=>obtain⟨_,_,_,e⟩:=x; exact Heap.lt_size e
 | frz ob u=>obtain⟨e,_⟩:=x; exact Heap.lt_size e
 | tbl ps=>exact Heap.lt_size (show h.get? a=some _ from x)
 | met f y=>exact Heap.lt_size (show h.get? a=some _ from x)
 | ext φ=>obtain⟨_,⟨_,e⟩,_⟩:=x; exact Heap.lt_size e
theorem Paired.mapP {α β:Type} {F G:α→β→Prop}:∀ {l₁:List α} {l₂:List β},Paired F l₁ l₂→(∀ a b,F a b→G a b)→Paired G l₁ l₂
 | _,_,.nil,_=>.nil
 | _,_,.cons r t,f=>.cons (f _ _ r) (Paired.mapP t f)
theorem zab.stay (x:zab P w H h a o) (k:∀ b u,(b=a∨H b=some (.own a))→h.get? b=some u→h'.get? b=some u)
  (ho:∀ b,H b=some (.own a)→H' b=some (.own a)) (ht:∀ b xs,H b=some (.tup xs)→H' b=some (.tup xs)):zab P w H' h' a o:=by
 induction o with
 | lst xs=>obtain⟨z,its,n,r,e⟩:=x; exact⟨z,its,n,r,k _ _ (.inl rfl) e⟩
 | tup xs=>obtain⟨z,its,r,ob,e,c⟩:=x; exact⟨z,its,r,ob,k _ _ (.inl rfl) e,c⟩
 | dK kvs=>obtain⟨z,y,vs,r,ob,es,ep,e,c⟩:=x; exact⟨z,y,vs,r,ob,es,ep,k _ _ (.inl rfl) e,c⟩
 | dT kvs =>
  obtain⟨z,y,xs,r,ob,es,ep,e,c⟩:=x
  exact⟨z,y,xs,Paired.mapP r fun p q z=>⟨z.1,ht _ _ z.2.1,z.2.2⟩,ob,es,ep,k _ _ (.inl rfl) e,c⟩
 | set S n=>obtain⟨ob,es,ep,t,e,c⟩:=x; exact⟨ob,es,ep,t,k _ _ (.inl rfl) e,c⟩
 | ins C dx fs =>
  obtain⟨d,z,ne,e,mA,⟨od,es,ep,e2,c⟩,r⟩:=x
  exact⟨ho _ d,z,ne,k _ _ (.inl rfl) e,mA,⟨od,es,ep,k _ _ (.inr d) e2,c⟩,r⟩
 | own y=>obtain⟨ob,e⟩:=x; exact⟨ob,k _ _ (.inl rfl) e⟩
 | xd fs=>obtain⟨mA,⟨od,es,ep,e,c⟩,r⟩:=x; exact⟨mA,⟨od,es,ep,k _ _ (.inl rfl) e,c⟩,r⟩
 | rng lo hi=>obtain⟨t,u,v,e⟩:=x; exact⟨t,u,v,k _ _ (.inl rfl) e⟩
 | frz ob u ih=>obtain⟨e,q⟩:=x; exact⟨k _ _ (.inl rfl) e,ih q⟩
 | tbl ps =>
  have e:h.get? a=some { cls:=.none,data:=.fields ps }:=x
  show h'.get? a=some { cls:=.none,data:=.fields ps }
  exact k a _ (.inl rfl) e
 | met f y =>
  have e:h.get? a=some (PySem.W.methodObj (.ref f) (.ref y)):=x
  show h'.get? a=some (PySem.W.methodObj (.ref f) (.ref y))
  exact k a _ (.inl rfl) e
 | ext φ=>obtain⟨p,⟨o,e⟩,st⟩:=x; exact⟨st _ _ p fun o q=>k _ _ (.inl rfl) q,⟨o,k _ _ (.inl rfl) e⟩,st⟩
theorem HOk.lt (x:HOk P w H h) (e:H a=some o):a < h.objs.size:=(x a o e).lt
theorem HOk.fresh (x:HOk P w H h) (e:h.objs.size≤a):H a=none:=by
 cases q:H a with
 | none=>rfl
 | some u=>exact absurd (Nat.lt_of_lt_of_le (x.lt q) e) (Nat.lt_irrefl _)
theorem HOk.kept (x:HOk P w H h) (k:∀ b u,h.get? b=some u→h'.get? b=some u):HOk P w H h':=fun a o e =>
 (x a o e).stay (fun b u _ q=>k b u q) (fun _ q=>q) fun _ _ q=>q
theorem HOk.laid (x:HOk P w H h) (k:∀ b u,h.get? b=some u→h'.get? b=some u) (hp:h.objs.size≤a) (new:zab P w (upd H a o) h' a o):HOk P w (upd H a o) h':=fun b u e=>by
 have hn:=x.fresh hp
 by_cases hb:b=a
 ·subst hb; rw [zc] at e; cases e; exact new
 ·rw [zl hb] at e
  exact (x b u e).stay (fun c v _ q=>k c v q) (fun c q=>by rw [zl (zq q hn)]; exact q) fun c xs q=>by rw [zl (zq q hn)]; exact q
end
def Rd (H:Hp) (a:Addr) (u:HO):Prop:=H a=some u∨∃ o,H a=some (.frz o u)
theorem Rd.ok {P:Program} {w:World} {H:Hp} {h:Heap} {a:Addr} {u:HO} (r:Rd H a u) (x:HOk P w H h):zab P w H h a u:=by
 rcases r with r | ⟨o,r⟩
 ·exact x a u r
 ·obtain⟨_,q⟩:=x a _ r
  exact q
def Mut:Option HO→Prop
 | some (.lst _)=>True
 | some (.dK _)=>True
 | some (.dT _)=>True
 | some (.set _ _)=>True
 | some (.ins _ _ _)=>True
 | some (.ext _)=>True
 | _=>False
section
variable {P:Program} {w:World} {H:Hp} {h h':Heap} {x e:Addr} {o':HO}
theorem HOk.write (ok:HOk P w H h) (mu:Mut (H x)) (he:e=x∨H e=some (.own x)) (k:∀ b u,b≠e→h.get? b=some u→h'.get? b=some u) (heo:∃ u,h'.get? e=some u)
  (new:zab P w (upd H x o') h' x o'):HOk P w (upd H x o') h':=fun b u q=>by
 have nown:∀ c y,H c=some (.own y)→c≠x:=fun c y r z=>by subst z; rw [r] at mu; exact mu
 have ntup:∀ c xs,H c=some (.tup xs)→c≠x:=fun c xs r z=>by subst z; rw [r] at mu; exact mu
 by_cases hb:b=x
 ·subst hb; rw [zc] at q; cases q; exact new
 ·rw [zl hb] at q
  by_cases hbe:b=e
  ·have q':H b=some (.own x):=by
    rcases he with z | z
    ·exact absurd (hbe.trans z) hb
    ·rw [hbe]; exact z
   rw [q] at q'; cases q'
   obtain⟨v,hv⟩:=heo
   exact⟨v,by rw [hbe]; exact hv⟩
  ·refine (ok b u q).stay (fun c v hc r=>k c v ?_ r) (fun c r=>by rw [zl (nown c b r)]; exact r) fun c xs r=>by rw [zl (ntup c xs r)]; exact r
   rcases hc with rfl | hc
   ·exact hbe
   ·rintro rfl
    rcases he with z | z
    ·exact nown c b hc z
    ·rw [hc] at z; cases z; exact hb rfl
end
structure Un (fs ex:List Addr) (H H':Hp) (h h':Heap):Prop where
 keep:∀ b o,h.get? b=some o→H b=none→b∉fs→b∉ex→h'.get? b=some o
 slot:∀ b o,h.get? b=some o→H b=none→b∈fs→b∉ex→∃ sl,h'.get? b=some { o with slots:=sl }
 free:∀ b o,h.get? b=some o→H b=none→b∉ex→H' b=none
 there:∀ b o,h.get? b=some o→b∉ex→∃ o',h'.get? b=some o'
 tups:∀ b xs,H b=some (.tup xs)→H' b=some (.tup xs)
 frzs:∀ b o u,H b=some (.frz o u)→H' b=some (.frz o u)
 tbls:∀ b ps,H b=some (.tbl ps)→∃ more,H' b=some (.tbl (ps++more))
section
variable {fs fs' ex ex':List Addr} {H H1 H2:Hp} {h h1 h2 h':Heap} {a x e:Addr} {o:HO}
theorem Un.any (u:Un fs ex H H1 h h1) {b:Addr} {ob:Obj} (q:h.get? b=some ob) (n:H b=none) (hx:b∉ex):∃ sl,h1.get? b=some { ob with slots:=sl }:=by
 by_cases hb:b∈fs
 ·exact u.slot b ob q n hb hx
 ·exact⟨ob.slots,u.keep b ob q n hb hx⟩
theorem Un.kept (k:∀ b u,h.get? b=some u→h'.get? b=some u):Un fs ex H H h h' :=
 ⟨fun b ob q _ _ _=>k b ob q,fun b ob q _ _ _=>⟨ob.slots,k b ob q⟩,fun _ _ _ n _=>n,fun b ob q _=>⟨ob,k b ob q⟩,fun _ _ q=>q,fun _ _ _ q=>q,fun _ ps q=>⟨#[],by rw [q]; simp⟩⟩
theorem Un.refl:Un fs ex H H h h:=Un.kept fun _ _ q=>q
theorem Un.laid (k:∀ b u,h.get? b=some u→h'.get? b=some u) (hp:h.objs.size≤a) (hn:H a=none):Un fs ex H (upd H a o) h h' where
 keep:=fun b u q _ _ _=>k b u q
 slot:=fun b u q _ _ _=>⟨u.slots,k b u q⟩
 free:=fun b u q n _=>by rw [zl (Nat.ne_of_lt (Nat.lt_of_lt_of_le (Heap.lt_size q) hp))]; exact n
 there:=fun b u q _=>⟨u,k b u q⟩
 tups:=fun b xs q=>by rw [zl (zq q hn)]; exact q
 frzs:=fun b u xs q=>by rw [zl (zq q hn)]; exact q
 tbls:=fun b ps q=>⟨#[],by rw [zl (zq q hn),q]; simp⟩
theorem Un.write (mu:Mut (H x)) (he:e=x∨H e=some (.own x)) (k:∀ b u,b≠e→h.get? b=some u→h'.get? b=some u) (heo:∃ u,h'.get? e=some u):Un fs ex H (upd H x o) h h':=by
 have hx:∀ b,H b=none→b≠x:=fun b n z=>by subst z; rw [n] at mu; exact mu
 have hb:∀ b,H b=none→b≠e:=fun b n z=>by
  subst z
  rcases he with r | r
  ·exact hx b n r
  ·rw [n] at r; cases r
 have hm:∀ b u,H b=some u→¬ Mut (some u)→b≠x:=fun b u q nm z=>by subst z; rw [q] at mu; exact nm mu
 refine⟨fun b u q n _ _=>k b u (hb b n) q,fun b u q n _ _=>⟨u.slots,k b u (hb b n) q⟩,fun b u q n _=>by rw [zl (hx b n)]; exact n,fun b u q _=>?_,
  fun b xs q=>by rw [zl (hm b _ q fun z=>z)]; exact q,fun b u xs q=>by rw [zl (hm b _ q fun z=>z)]; exact q,fun b ps q=>⟨#[],by rw [zl (hm b _ q fun z=>z),q]; simp⟩⟩
 by_cases hbe:b=e
 ·subst hbe; exact heo
 ·exact⟨u,k b u hbe q⟩
end
def trk (h:Heap) (H:Hp):List Addr:=(List.range h.objs.size).filter fun a=>(H a).isSome
def zft (h:Heap) (H:Hp):Heap:=PySem.W.hideAll h (trk h H)
theorem ziq (h:Heap) (H:Hp):(zft h H).objs.size=h.objs.size:=PySem.W.hideAll_size _ _
theorem zjp {h:Heap} {H:Hp} {b:Addr} {o:Obj} (e:h.get? b=some o) (n:H b=none):(zft h H).get? b=some o :=
 PySem.W.hideAll_get _ e fun hm=>by
  have q:(H b).isSome=true:=(List.mem_filter.mp hm).2
  rw [n] at q; simp at q
theorem zk3 {h:Heap} {H:Hp} {b:Addr} {o:Obj} (e:(zft h H).get? b=some o):h.get? b=some o∧H b=none:=by
 have e':h.get? b=some o:=PySem.W.of_hideAll (trk h H) e
 refine⟨e',?_⟩
 cases q:H b with
 | none=>rfl
 | some x =>
  have hm:b∈trk h H:=List.mem_filter.mpr ⟨List.mem_range.mpr (Heap.lt_size e'),by simp [q]⟩
  have z:(zft h H).get? b=none:=PySem.W.hideAll_none (trk h H) hm
  rw [z] at e; cases e
structure Mod (K:PySem.W.Frag) (mg:Str→Option Value) (base:Heap):Prop where
 kin:K.In base
 glob:base.Ns mainGlobals mg
 blt:∃ mb,base.Ns builtinsNs mb∧∀ x:Str,x≠"__name__"→mb x=bootBuiltins x
 nolimit:base.NoLimit
structure Cx where
 prog:Program
 w:World
 K:PySem.W.Frag
 mg:Str→Option Value
 base:Heap
 A:Around
 N:List Str
 s₀:Shared
 H₀:Hp
 env:Env
 outer:List Env
 stack:List Env
 ex:List Addr
 fn:Str→Bool
 calm:Bool
 pn:List (Addr×Obj)
 xe:Value→Shared→Prop
def frs (l:List Env):List Addr:=l.filterMap (·.frame)
abbrev Cx.fs (X:Cx):List Addr:=frs X.outer
def Vis (sc:Scope) (x:Str):Prop:=sc.names.lookup x=some .local∨sc.names.lookup x=some .cell∨sc.names.lookup x=some .free
def Loc (sc:Scope) (x:Str):Prop:=sc.names.lookup x=some .local∨sc.names.lookup x=some .cell
def Look (env:Env) (h:Heap) (m:Str→Option Value) (x:Str) (u:Value):Prop :=
 (env.kindOf x=some .local∧m x=some u)∨((env.kindOf x=some .cell∨env.kindOf x=some .free)∧∃ c,env.cells.lookup x=some c∧h.IsCell c (some u))
structure Cx.Ok (X:Cx):Prop where
 mod:Mod X.K X.mg X.base
 kind:X.env.scope.kind = .function
 glob:X.env.globals=mainGlobals
 blt:X.env.builtins=builtinsNs
 above:X.s₀.heap.objs.size≤X.env.locals
 inj:∀ x y c,X.env.cells.lookup x=some c→X.env.cells.lookup y=some c→x=y
 has:∀ x,(X.env.kindOf x=some .cell∨X.env.kindOf x=some .free)→∃ c,X.env.cells.lookup x=some c
 cab:∀ x c,X.fn x=true→X.env.cells.lookup x=some c→X.s₀.heap.objs.size≤c
 hd:X.calm=true→X.A.handled=none
 frames:X.A.frames=some X.stack
 stk:X.stack=X.outer∨(X.stack=X.env :: X.outer∧X.env.frame=some X.env.locals)
 exf:∀ b∈X.ex,b≠X.env.locals∧∀ x c,X.env.cells.lookup x=some c→c≠b
 bs:∀ b o,X.base.get? b=some o→X.s₀.heap.get? b=some o∧X.H₀ b=none
 bsz:X.base.objs.size≤X.s₀.heap.objs.size
 noex:∀ b o,X.base.get? b=some o→b∉X.ex
 exfs:∀ b∈X.ex,b∉X.fs
 funs:X.s₀.heap.FunFrames X.base X.outer
 frf:∀ b∈X.fs,X.H₀ b=none
structure Inv (X:Cx) (pins:List (Addr×Obj)) (σ:List (Option V)) (H:Hp) (s:Shared):Prop where
 ok:X.Ok
 os:s.os=X.s₀.os
 bare:AllBare s.gens
 base:Un X.fs X.ex X.H₀ H X.s₀.heap s.heap
 loc:∃ m,s.heap.Ns X.env.locals m∧∀ (i:Nat) (x:Str) (v:V),X.N[i]? = some x→σ[i]? = some (some v)→Vis X.env.scope x→∃ u,RelV v u∧Look X.env s.heap m x u
 cell:∀ x c,X.env.cells.lookup x=some c→∃ v,s.heap.IsCell c v
 free:H X.env.locals=none
 freeC:∀ x c,X.env.cells.lookup x=some c→H c=none
 pin:∀ p∈X.pn++pins,s.heap.get? p.1=some p.2∧H p.1=none∧p.1≠X.env.locals∧p.1∉X.fs∧∀ v,p.2.data≠.cell v
 hok:HOk X.prog X.w H s.heap
 len:σ.length=X.N.length
section
variable {X:Cx} {pins:List (Addr×Obj)} {σ:List (Option V)} {H H':Hp} {s:Shared} {h':Heap}
theorem Cx.Ok.nofr (ok:X.Ok) {b:Addr} {o:Obj} (e:X.base.get? b=some o):b∉X.fs:=fun hb=>by
 have:=(ok.funs.mem hb).1
 rw [e] at this; cases this
theorem Inv.bs (I:Inv X pins σ H s):∀ b o,X.base.get? b=some o→s.heap.get? b=some o∧H b=none:=fun b o e =>
 ⟨I.base.keep b o (I.ok.bs b o e).1 (I.ok.bs b o e).2 (I.ok.nofr e) (I.ok.noex b o e),I.base.free b o (I.ok.bs b o e).1 (I.ok.bs b o e).2 (I.ok.noex b o e)⟩
theorem Inv.bk (I:Inv X pins σ H s):∀ b o,X.base.get? b=some o→s.heap.get? b=some o:=fun b o e=>(I.bs b o e).1
theorem Inv.mod (I:Inv X pins σ H s):Mod X.K X.mg X.base:=I.ok.mod
theorem Inv.kIn (I:Inv X pins σ H s):X.K.In s.heap:=I.ok.mod.kin.keeps I.bk
theorem Inv.lt (I:Inv X pins σ H s):X.env.locals < s.heap.objs.size:=let ⟨_,hn,_⟩:=I.loc; hn.lt
theorem Inv.sz (I:Inv X pins σ H s):X.s₀.heap.objs.size≤s.heap.objs.size:=Nat.le_trans I.ok.above (Nat.le_of_lt I.lt)
theorem Inv.nofs (I:Inv X pins σ H s) {a:Addr} (h:s.heap.objs.size≤a):a∉X.fs:=fun hb=>by
 obtain⟨_,o,ho,_⟩:=I.ok.funs.mem hb
 exact absurd (Nat.lt_of_lt_of_le (Heap.lt_size ho) (Nat.le_trans I.sz h)) (Nat.lt_irrefl _)
theorem Inv.cne (I:Inv X pins σ H s):∀ x c,X.env.cells.lookup x=some c→c≠X.env.locals:=fun x c e z=>by
 obtain⟨v,o,ho,hd⟩:=I.cell x c e
 obtain⟨m,⟨o',es,ep,ho',hd',_⟩,_⟩:=I.loc
 rw [z,ho'] at ho; cases ho; rw [hd'] at hd; cases hd
theorem Inv.funs (I:Inv X pins σ H s):s.heap.FunFrames X.base X.outer:=by
 have all:∀ (l:List Env),(∀ b∈frs l,b∈X.fs)→X.s₀.heap.FunFrames X.base l→s.heap.FunFrames X.base l:=by
  intro l
  induction l with
  | nil=>intro _ _; trivial
  | cons env r ih =>
   intro hs hl
   obtain⟨hk,⟨L,o,hf,hn,ho,hd⟩,hr⟩:=hl
   have hL:L∈X.fs:=hs L (by unfold frs; rw [List.filterMap_cons,hf]; exact List.mem_cons_self)
   obtain⟨sl,e⟩:=I.base.slot L o ho (I.ok.frf L hL) hL fun z=>I.ok.exfs L z hL
   exact⟨hk,⟨L,_,hf,hn,e,hd⟩,ih (fun b hb=>hs b (by unfold frs; rw [List.filterMap_cons,hf]; exact List.mem_cons_of_mem _ hb)) hr⟩
 exact all X.outer (fun _ hb=>hb) I.ok.funs
theorem Inv.stack (I:Inv X pins σ H s):s.heap.FunFrames X.base X.stack:=by
 rcases I.ok.stk with e | ⟨e,hf⟩
 ·rw [e]; exact I.funs
 ·rw [e]
  obtain⟨m,hn,_⟩:=I.loc
  refine .cons (by rw [I.ok.kind]; decide) hf hn ?_ I.funs
  exact Heap.get?_none_of_le (Nat.le_trans I.ok.bsz I.ok.above)
theorem Inv.stkSub (I:Inv X pins σ H s):∀ b∈frs X.stack,b∈X.env.locals :: X.fs:=fun b hb=>by
 rcases I.ok.stk with e | ⟨e,hf⟩
 ·rw [e] at hb; exact List.mem_cons_of_mem _ hb
 ·rw [e] at hb
  unfold frs at hb
  rw [List.filterMap_cons,hf] at hb
  exact hb
theorem Inv.stkFree (I:Inv X pins σ H s):∀ b∈frs X.stack,H b=none:=fun b hb=>by
 rcases List.mem_cons.mp (I.stkSub b hb) with e | hb
 ·rw [e]; exact I.free
 ·obtain⟨_,o,ho,_⟩:=I.ok.funs.mem hb
  exact I.base.free b o ho (I.ok.frf b hb) fun z=>I.ok.exfs b z hb
theorem Inv.step {g':Array GenState} {t':Nat} {d':Drawn} {ch:List Addr} (I:Inv X pins σ H s)
  (hch:∀ b∈ch,(b∈X.ex∨X.s₀.heap.objs.size≤b)∧b≠X.env.locals∧(∀ x c,X.env.cells.lookup x=some c→c≠b)∧∀ p∈X.pn++pins,p.1≠b)
  (keep:∀ b o,b≠X.env.locals→b∉X.fs→b∉ch→s.heap.get? b=some o→H b=none→h'.get? b=some o)
  (slot:∀ b o,b≠X.env.locals→b∈X.fs→b∉ch→s.heap.get? b=some o→H b=none→∃ sl,h'.get? b=some { o with slots:=sl }) (free:∀ b o,b∉ch→s.heap.get? b=some o→H b=none→H' b=none)
  (there:∀ b o,b∉ch→s.heap.get? b=some o→∃ o',h'.get? b=some o')
  (tups:∀ b xs,H b=some (.tup xs)→H' b=some (.tup xs)) (frzs:∀ b o u,H b=some (.frz o u)→H' b=some (.frz o u)) (tbls:∀ b ps,H b=some (.tbl ps)→∃ more,H' b=some (.tbl (ps++more)))
  (ns:∀ m,s.heap.Ns X.env.locals m→h'.Ns X.env.locals m) (hok:HOk X.prog X.w H' h') (hg:AllBare g') :
  Inv X pins σ H' { s with heap:=h',gens:=g',drawn:=d',toks:=t' }:=by
 have neL:∀ b o,X.s₀.heap.get? b=some o→b≠X.env.locals:=fun b o e=>Nat.ne_of_lt (Nat.lt_of_lt_of_le (Heap.lt_size e) I.ok.above)
 have neC:∀ b o,X.s₀.heap.get? b=some o→b∉X.ex→b∉ch:=fun b o e hx hb=>by
  rcases (hch b hb).1 with z | z
  ·exact hx z
  ·exact absurd (Nat.lt_of_lt_of_le (Heap.lt_size e) z) (Nat.lt_irrefl _)
 have cellK:∀ x c,X.env.cells.lookup x=some c→∀ v,s.heap.IsCell c v→h'.IsCell c v:=fun x c e v ⟨o,ho,hd⟩=>by
  have nch:c∉ch:=fun z=>(hch c z).2.2.1 x c e rfl
  by_cases hc:c∈X.fs
  ·obtain⟨sl,q⟩:=slot c o (I.cne x c e) hc nch ho (I.freeC x c e)
   exact⟨_,q,hd⟩
  ·exact⟨o,keep c o (I.cne x c e) hc nch ho (I.freeC x c e),hd⟩
 refine⟨I.ok,I.os,hg,⟨fun b o e n hb hx=>?_,fun b o e n hb hx=>?_,fun b o e n hx=>?_,fun b o e hx=>?_,fun b xs e=>tups b xs (I.base.tups b xs e),fun b o xs e=>frzs b o xs (I.base.frzs b o xs e),fun b ps e=>?_⟩,?_,fun x c e=>?_,?_,fun x c e=>?_,fun p hp=>?_,hok,I.len⟩
 ·exact keep b o (neL b o e) hb (neC b o e hx) (I.base.keep b o e n hb hx) (I.base.free b o e n hx)
 ·obtain⟨sl,e1⟩:=I.base.slot b o e n hb hx
  obtain⟨sl',e2⟩:=slot b _ (neL b o e) hb (neC b o e hx) e1 (I.base.free b o e n hx)
  exact⟨sl',e2⟩
 ·obtain⟨o',e1⟩:=I.base.there b o e hx
  exact free b o' (neC b o e hx) e1 (I.base.free b o e n hx)
 ·obtain⟨o',e1⟩:=I.base.there b o e hx
  exact there b o' (neC b o e hx) e1
 ·obtain⟨m1,e1⟩:=I.base.tbls b ps e
  obtain⟨m2,e2⟩:=tbls b _ e1
  exact⟨m1++m2,by rw [e2,Array.append_assoc]⟩
 ·obtain⟨m,hn,hl⟩:=I.loc
  refine⟨m,ns m hn,fun i x v e1 e2 e3=>?_⟩
  obtain⟨u,r,l⟩:=hl i x v e1 e2 e3
  refine⟨u,r,?_⟩
  rcases l with l | ⟨k,c,e,z⟩
  ·exact .inl l
  ·exact .inr ⟨k,c,e,cellK x c e _ z⟩
 ·obtain⟨v,z⟩:=I.cell x c e
  exact⟨v,cellK x c e v z⟩
 ·obtain⟨m,⟨o,_,_,ho,_⟩,_⟩:=I.loc
  exact free _ o (fun z=>(hch _ z).2.1 rfl) ho I.free
 ·obtain⟨v,o,ho,hd⟩:=I.cell x c e
  exact free c o (fun z=>(hch c z).2.2.1 x c e rfl) ho (I.freeC x c e)
 ·obtain⟨e,n,ne,nf,d⟩:=I.pin p hp
  have nch:p.1∉ch:=fun z=>(hch p.1 z).2.2.2 p hp rfl
  exact⟨keep p.1 p.2 ne nf nch e n,free p.1 p.2 nch e n,ne,nf,d⟩
theorem Inv.un {t':Nat} (I:Inv X pins σ H s) (u:Un X.fs [] H H' s.heap h') (hok:HOk X.prog X.w H' h'):Inv X pins σ H' { s with heap:=h',toks:=t' }:=by
 obtain⟨m,⟨o,es,ep,ho,r⟩,_⟩:=id I.loc
 obtain⟨sl,hL⟩:=u.any ho I.free (by simp)
 exact I.step (g':=s.gens) (d':=s.drawn) (ch:=[]) (fun _ z=>nomatch z) (fun b o _ hb _ e n=>u.keep b o e n hb (by simp)) (fun b o _ hb _ e n=>u.slot b o e n hb (by simp)) (fun b o _ e n=>u.free b o e n (by simp)) (fun b o _ e=>u.there b o e (by simp)) u.tups u.frzs u.tbls (fun m' hm=>by
  obtain⟨o',es',ep',ho',r'⟩:=hm
  rw [ho] at ho'; cases ho'
  exact⟨_,es',ep',hL,r'⟩) hok I.bare
theorem Inv.call {g':Array GenState} {t':Nat} {d':Drawn} {ch:List Addr} (I:Inv X pins σ H s) (u:Un (frs X.stack) ch H H' s.heap h') (hok:HOk X.prog X.w H' h') (hg:AllBare g')
  (hch:∀ b∈ch,(b∈X.ex∨X.s₀.heap.objs.size≤b)∧b≠X.env.locals∧(∀ x c,X.env.cells.lookup x=some c→c≠b)∧∀ p∈X.pn++pins,p.1≠b) :
  Inv X pins σ H' { s with heap:=h',gens:=g',drawn:=d',toks:=t' }:=by
 obtain⟨m,⟨o,es,ep,ho,r⟩,_⟩:=id I.loc
 obtain⟨sl,hL⟩:=u.any ho I.free fun z=>(hch _ z).2.1 rfl
 exact I.step (ch:=ch) hch (fun b o hL hb hc e n=>u.keep b o e n (fun z=>(List.mem_cons.mp (I.stkSub b z)).elim hL hb) hc) (fun b o _ _ hc e n=>u.any e n hc) (fun b o hc e n=>u.free b o e n hc) (fun b o hc e=>u.there b o e hc) u.tups u.frzs u.tbls (fun m' hm=>by
  obtain⟨o',es',ep',ho',r'⟩:=hm
  rw [ho] at ho'; cases ho'
  exact⟨_,es',ep',hL,r'⟩) hok hg
theorem Inv.turned {t':Nat} {it:Addr} (I:Inv X pins σ H s) (k:∀ b o,b≠it→s.heap.get? b=some o→h'.get? b=some o) (hn:H it=none) (hL:it≠X.env.locals)
  (h1:it∈X.ex∨X.s₀.heap.objs.size≤it) (h2:∀ x c,X.env.cells.lookup x=some c→c≠it) (h3:∀ p∈X.pn++pins,p.1≠it):Inv X pins σ H { s with heap:=h',toks:=t' }:=by
 have nit:∀ b u,H b=some u→b≠it:=fun b u e z=>by rw [z,hn] at e; cases e
 refine I.step (g':=s.gens) (d':=s.drawn) (ch:=[it]) (fun b hb=>?_) (fun b o _ _ hc e _=>k b o (fun z=>hc (by simp [z])) e) (fun b o _ _ hc e _=>⟨o.slots,k b o (fun z=>hc (by simp [z])) e⟩) (fun _ _ _ _ n=>n)
  (fun b o hc e=>⟨o,k b o (fun z=>hc (by simp [z])) e⟩) (fun _ _ e=>e) (fun _ _ _ e=>e) (fun b ps e=>⟨#[],by rw [e]; simp⟩) (fun m hm=>?_) (fun b u e=>?_) I.bare
 ·have e:b=it:=by simpa using hb
  subst e
  exact⟨h1,hL,h2,h3⟩
 ·obtain⟨o,es,ep,ho,r⟩:=hm
  exact⟨o,es,ep,k _ o (Ne.symm hL) ho,r⟩
 ·refine (I.hok b u e).stay (fun c v hc q=>k c v ?_ q) (fun _ q=>q) fun _ _ q=>q
  rcases hc with z | z
  ·rw [z]; exact nit b u e
  ·exact nit c _ z
theorem Inv.tok (I:Inv X pins σ H s) (t:Nat):Inv X pins σ H { s with toks:=t }:=I.un (h':=s.heap) (t':=t) Un.refl I.hok
theorem Inv.kept {t':Nat} (I:Inv X pins σ H s) (k:∀ b u,s.heap.get? b=some u→h'.get? b=some u):Inv X pins σ H { s with heap:=h',toks:=t' }:=I.un (Un.kept k) (I.hok.kept k)
theorem Inv.laid {a:Addr} {o:HO} {t':Nat} (I:Inv X pins σ H s) (k:∀ b u,s.heap.get? b=some u→h'.get? b=some u) (hp:s.heap.objs.size≤a) (new:zab X.prog X.w (upd H a o) h' a o) :
  Inv X pins σ (upd H a o) { s with heap:=h',toks:=t' }:=I.un (Un.laid k hp (I.hok.fresh hp)) (I.hok.laid k hp new)
theorem Inv.write {x e:Addr} {o:HO} {t':Nat} (I:Inv X pins σ H s) (mu:Mut (H x)) (he:e=x∨H e=some (.own x)) (k:∀ b u,b≠e→s.heap.get? b=some u→h'.get? b=some u) (heo:∃ u,h'.get? e=some u)
  (new:zab X.prog X.w (upd H x o) h' x o):Inv X pins σ (upd H x o) { s with heap:=h',toks:=t' }:=I.un (Un.write mu he k heo) (I.hok.write mu he k heo new)
theorem Inv.weak {σ':List (Option V)} (I:Inv X pins σ H s) (hl:σ'.length=σ.length) (w:∀ (i:Nat) v,σ'[i]? = some (some v)→σ[i]? = some (some v)):Inv X pins σ' H s :=
 ⟨I.ok,I.os,I.bare,I.base,let ⟨m,hn,hl'⟩:=I.loc; ⟨m,hn,fun i x v e1 e2 e3=>hl' i x v e1 (w i v e2) e3⟩,I.cell,I.free,I.freeC,I.pin,I.hok,hl.trans I.len⟩
theorem Inv.pins_of {pins':List (Addr×Obj)} (I:Inv X pins σ H s) (h:∀ p∈pins',s.heap.get? p.1=some p.2∧H p.1=none∧p.1≠X.env.locals∧p.1∉X.fs∧∀ v,p.2.data≠.cell v):Inv X pins' σ H s :=
 ⟨I.ok,I.os,I.bare,I.base,I.loc,I.cell,I.free,I.freeC,fun p hp=>(List.mem_append.mp hp).elim (fun z=>I.pin p (List.mem_append_left _ z)) (h p),I.hok,I.len⟩
theorem zec {N:List Str} (hN:N.Nodup) {i j:Nat} {x:Str} (a:N[i]? = some x) (b:N[j]? = some x):i=j:=by
 obtain⟨h1,e1⟩:=List.getElem?_eq_some_iff.mp a
 obtain⟨h2,e2⟩:=List.getElem?_eq_some_iff.mp b
 exact (List.getElem_inj hN).mp (e1.trans e2.symm)
theorem ze3 {M:Model} {A:Around} {E:Value→Shared→Prop} {i:Nat} {x:Str} {v:V} {u:Value} {Q:Unit→Shared→Prop} (I:Inv X pins σ H s) (hN:X.N.Nodup) (hi:X.N[i]? = some x) (hx:Loc X.env.scope x) (r:RelV v u)
  (h:∀ s',Inv X pins (σ.set i (some v)) H s'→(∃ a,Heap.SameBut a s.heap s'.heap∧(a=X.env.locals∨X.env.cells.lookup x=some a))→Q () s') (hf:X.fn x=true∨X.env.scope.names.lookup x=some .local:=by first | exact .inl rfl | exact .inr rfl | assumption):wpAny M A (storeName X.env x u) Q E s:=by
 obtain⟨m,hn,hl⟩:=id I.loc
 have hcls:(X.env.scope.kind == .class || (X.env.scope.kind == .module && X.env.locals != X.env.globals))=false:=by rw [I.ok.kind]; rfl
 have hiσ:i < σ.length:=by rw [I.len]; exact (List.getElem?_eq_some_iff.mp hi).1
 have cne:=I.cne
 have tracked:∀ {a:Addr} {h':Heap},(∃ o,s.heap.get? a=some o∧H a=none)→Heap.SameBut a s.heap h'→HOk X.prog X.w H h':=fun {a h'} ha hs b ob e=>by
  obtain⟨_,_,hfree⟩:=ha
  refine (I.hok b ob e).stay (fun c w' hc q=>(hs.2 c ?_).trans q) (fun _ q=>q) fun _ _ q=>q
  rintro rfl
  rcases hc with rfl | hc
  ·rw [hfree] at e; cases e
  ·rw [hfree] at hc; cases hc
 rcases hx with hk | hk
 ·refine wpAny_storeName_local hk hn (fun h' hn' hs=>?_) hcls
  obtain⟨oL,_,_,hoL,_⟩:=id hn
  refine h _ ⟨I.ok,I.os,I.bare,⟨fun b o e n hb hx=>?_,fun b o e n hb hx=>?_,I.base.free,fun b o e hx=>?_,I.base.tups,I.base.frzs,I.base.tbls⟩,⟨_,hn',fun j y v' e1 e2 e3=>?_⟩,fun y c e=>?_,I.free,I.freeC,fun p hp=>?_,tracked ⟨oL,hoL,I.free⟩ hs,by simpa using I.len⟩ ⟨_,hs,.inl rfl⟩
  ·exact (hs.2 b (Nat.ne_of_lt (Nat.lt_of_lt_of_le (Heap.lt_size e) I.ok.above))).trans (I.base.keep b o e n hb hx)
  ·obtain⟨sl,e1⟩:=I.base.slot b o e n hb hx
   exact⟨sl,(hs.2 b (Nat.ne_of_lt (Nat.lt_of_lt_of_le (Heap.lt_size e) I.ok.above))).trans e1⟩
  ·obtain⟨o',e1⟩:=I.base.there b o e hx
   exact⟨o',(hs.2 b (Nat.ne_of_lt (Nat.lt_of_lt_of_le (Heap.lt_size e) I.ok.above))).trans e1⟩
  ·by_cases hj:j=i
   ·subst hj
    rw [hi] at e1; cases e1
    rw [List.getElem?_set_self hiσ] at e2
    cases e2
    exact⟨u,r,.inl ⟨hk,by simp⟩⟩
   ·rw [List.getElem?_set_ne (Ne.symm hj)] at e2
    obtain⟨u',r',q⟩:=hl j y v' e1 e2 e3
    refine⟨u',r',?_⟩
    rcases q with ⟨k,e⟩ | ⟨k,c,e,z⟩
    ·refine .inl ⟨k,?_⟩
     have:y≠x:=fun e=>hj (zec hN e1 (e ▸ hi))
     simp [this,e]
    ·exact .inr ⟨k,c,e,z.sameBut hs (cne y c e)⟩
  ·obtain⟨w',z⟩:=I.cell y c e
   exact⟨w',z.sameBut hs (cne y c e)⟩
  ·obtain⟨e,n,ne,nf,d⟩:=I.pin p hp
   exact⟨(hs.2 p.1 ne).trans e,n,ne,nf,d⟩
 ·have hfn:X.fn x=true:=by
   rcases hf with z | z
   ·exact z
   ·rw [z] at hk; cases hk
  obtain⟨c,hc⟩:=I.ok.has x (.inl hk)
  obtain⟨w',z⟩:=I.cell x c hc
  refine wpAny_storeName_cell I.ok.kind hk hc z (fun h' hc' hs=>?_)
  obtain⟨oc,hoc,hocd⟩:=id z
  refine h { s with heap:=h' } ⟨I.ok,I.os,I.bare,⟨fun b o e n hb hx=>?_,fun b o e n hb hx=>?_,I.base.free,fun b o e hx=>?_,I.base.tups,I.base.frzs,I.base.tbls⟩,⟨m,hn.sameBut hs (Ne.symm (cne x c hc)),fun j y v' e1 e2 e3=>?_⟩,fun y c' e=>?_,I.free,I.freeC,fun p hp=>?_,tracked ⟨oc,hoc,I.freeC x c hc⟩ hs,by simpa using I.len⟩ ⟨c,hs,.inr hc⟩
  ·exact (hs.2 b (Nat.ne_of_lt (Nat.lt_of_lt_of_le (Heap.lt_size e) (I.ok.cab x c hfn hc)))).trans (I.base.keep b o e n hb hx)
  ·obtain⟨sl,e1⟩:=I.base.slot b o e n hb hx
   exact⟨sl,(hs.2 b (Nat.ne_of_lt (Nat.lt_of_lt_of_le (Heap.lt_size e) (I.ok.cab x c hfn hc)))).trans e1⟩
  ·obtain⟨o',e1⟩:=I.base.there b o e hx
   exact⟨o',(hs.2 b (Nat.ne_of_lt (Nat.lt_of_lt_of_le (Heap.lt_size e) (I.ok.cab x c hfn hc)))).trans e1⟩
  ·by_cases hj:j=i
   ·subst hj
    rw [hi] at e1; cases e1
    rw [List.getElem?_set_self hiσ] at e2
    cases e2
    exact⟨u,r,.inr ⟨.inl hk,c,hc,hc'⟩⟩
   ·rw [List.getElem?_set_ne (Ne.symm hj)] at e2
    obtain⟨u',r',q⟩:=hl j y v' e1 e2 e3
    refine⟨u',r',?_⟩
    rcases q with q | ⟨k,c',e,z'⟩
    ·exact .inl q
    ·refine .inr ⟨k,c',e,z'.sameBut hs ?_⟩
     rintro rfl
     exact hj (zec hN e1 (I.ok.inj _ _ _ e hc ▸ hi))
  ·by_cases hcc:c'=c
   ·subst hcc; exact⟨_,hc'⟩
   ·obtain⟨w2,z2⟩:=I.cell y c' e
    exact⟨w2,z2.sameBut hs hcc⟩
  ·obtain⟨e,n,ne,nf,d⟩:=I.pin p hp
   refine⟨(hs.2 p.1 ?_).trans e,n,ne,nf,d⟩
   intro q
   rw [q,hoc] at e
   have q':oc=p.2:=Option.some.inj e
   exact d w' (by rw [← q']; exact hocd)
theorem zbM {M:Model} {A:Around} {E:Value→Shared→Prop} {i:Nat} {x:Str} {v:V} {u:Value} {Q:Unit→Shared→Prop} (I:Inv X pins σ H s) (hN:X.N.Nodup) (hi:X.N[i]? = some x) (hx:Loc X.env.scope x) (r:RelV v u)
  (h:∀ s',Inv X pins (σ.set i (some v)) H s'→Q () s') (hf:X.fn x=true∨X.env.scope.names.lookup x=some .local:=by first | exact .inl rfl | exact .inr rfl | assumption):wpAny M A (storeName X.env x u) Q E s :=
 ze3 I hN hi hx r (fun s' I' _=>h s' I') hf
theorem Inv.call' {s':Shared} {ch:List Addr} (I:Inv X pins σ H s) (ho:s'.os=s.os) (u:Un (frs X.stack) ch H H' s.heap s'.heap) (hok:HOk X.prog X.w H' s'.heap) (hg:AllBare s'.gens)
  (hch:∀ b∈ch,(b∈X.ex∨X.s₀.heap.objs.size≤b)∧b≠X.env.locals∧(∀ x c,X.env.cells.lookup x=some c→c≠b)∧∀ p∈X.pn++pins,p.1≠b):Inv X pins σ H' s':=by
 obtain⟨h',g',d',t',o'⟩:=s'
 have e:o'=s.os:=ho
 subst e
 exact I.call (g':=g') (t':=t') (d':=d') u hok hg hch
end
abbrev XK:=Value→Option Addr→Hp→Prop
abbrev St:=List (Option V)
abbrev VK:=V→Hp→Prop
abbrev TE:=St→Hp→VK→Prop
abbrev TT:=St→Hp→(Bool→Hp→Prop)→Prop
abbrev TA:=St→Hp→(List V→Hp→Prop)→Prop
structure Ends where
 nx:St→Hp→Prop
 rt:VK
 bk:St→Hp→Prop:=fun _ _=>False
 ct:St→Hp→Prop:=fun _ _=>False
abbrev TS:=Ends→St→Hp→Prop
def EP (X:Cx) (pins:List (Addr×Obj)) (σ:St) (Q:VK) (u:Value) (s':Shared):Prop:=∃ v H',Inv X pins σ H' s'∧RelV v u∧Q v H'
def TP (X:Cx) (pins:List (Addr×Obj)) (σ:St) (Q:Bool→Hp→Prop) (b:Bool) (s':Shared):Prop:=∃ H',Inv X pins σ H' s'∧Q b H'
def AP (X:Cx) (pins:List (Addr×Obj)) (σ:St) (Q:List V→Hp→Prop) (us:List Value) (s':Shared):Prop:=∃ vs H',Inv X pins σ H' s'∧zK vs us∧Q vs H'
def SP (X:Cx) (pins:List (Addr×Obj)) (D:Ends) (f:Flow) (s':Shared):Prop :=
 match f with
 | .next=>∃ σ' H',Inv X pins σ' H' s'∧D.nx σ' H'
 | .brk=>∃ σ' H',Inv X pins σ' H' s'∧D.bk σ' H'
 | .cont=>∃ σ' H',Inv X pins σ' H' s'∧D.ct σ' H'
 | .ret u=>∃ v σ' H',Inv X pins σ' H' s'∧RelV v u∧D.rt v H'
def PE (X:Cx) (e:Expr) (t:TE):Prop :=
 ∀ (pins:List (Addr×Obj)) (s:Shared) (σ:St) (H:Hp) (Q:VK),Inv X pins σ H s→t σ H Q→wpAny (model X.prog X.w) X.A (eval e X.env) (EP X pins σ Q) X.xe s
def PT (X:Cx) (e:Expr) (t:TT):Prop :=
 ∀ (pins:List (Addr×Obj)) (s:Shared) (σ:St) (H:Hp) (Q:Bool→Hp→Prop),Inv X pins σ H s→t σ H Q→wpAny (model X.prog X.w) X.A (isTrue e X.env (eval e X.env)) (TP X pins σ Q) X.xe s
def PW (X:Cx) (e:Expr) (t:TT):Prop :=
 ∀ (whole:Sem Value) (pins:List (Addr×Obj)) (s:Shared) (σ:St) (H:Hp) (Q:Bool→Hp→Prop),Inv X pins σ H s→t σ H Q→wpAny (model X.prog X.w) X.A (isTrue e X.env whole) (TP X pins σ Q) X.xe s
theorem PW.pt {X:Cx} {e:Expr} {t:TT} (h:PW X e t):PT X e t:=h _
def PA (X:Cx) (es:List Expr) (t:TA):Prop :=
 ∀ (pos:Pos) (pins:List (Addr×Obj)) (s:Shared) (σ:St) (H:Hp) (Q:List V→Hp→Prop),Inv X pins σ H s→t σ H Q→wpAny (model X.prog X.w) X.A (spliced (backTo pos (starEach es X.env))) (AP X pins σ Q) X.xe s
def PS (X:Cx) (st:Stmt) (t:TS):Prop :=
 ∀ (pins:List (Addr×Obj)) (s:Shared) (σ:St) (H:Hp) (D:Ends),Inv X pins σ H s→t D σ H→wpAny (model X.prog X.w) X.A (exec st X.env) (SP X pins D) X.xe s
def PSs (X:Cx) (st:List Stmt) (t:TS):Prop :=
 ∀ (pins:List (Addr×Obj)) (s:Shared) (σ:St) (H:Hp) (D:Ends),Inv X pins σ H s→t D σ H→wpAny (model X.prog X.w) X.A (execs st X.env) (SP X pins D) X.xe s
theorem thn {α:Type} {t:Sem α} {Q Q':α→Shared→Prop} {M:Model} {A:Around} {E:Value→Shared→Prop} {s:Shared} (h:wpAny M A t Q E s) (hQ:∀ a s,Q a s→Q' a s):wpAny M A t Q' E s:=wpAny_mono h hQ fun _ _ x=>x
section
variable {X:Cx}
def znn (i:Nat):TE:=fun σ H Q=>∃ v,σ[i]? = some (some v)∧Q v H
def tC (v:V):TE:=fun _ H Q=>Q v H
theorem zms {i:Nat} {x:Str} {pos:Pos} (hN:X.N[i]? = some x) (hv:Vis X.env.scope x) (hd:(x == ("__debug__" : Str))=false:=by decide) (hcd:(x == ("__classdict__" : Str))=false:=by decide):PE X (.Name x pos) (znn i):=by
 intro pins s σ H Q I h
 obtain⟨v,e,h⟩:=h
 obtain⟨m,hn,hl⟩:=I.loc
 obtain⟨u,r,l⟩:=hl i x v hN e hv
 have fin:EP X pins σ Q u s:=⟨v,H,I,r,h⟩
 rcases l with ⟨hk,hm⟩ | ⟨hk,c,hc,hcell⟩
 ·exact wpAny_Name (wpAny_loadName_local I.ok.kind hk hn hm fin) hd
 ·rcases hk with hk | hk
  ·exact wpAny_Name (wpAny_loadName_cell I.ok.kind hk hc hcell fin) hd
  ·exact wpAny_Name (wpAny_loadName_free I.ok.kind hk hc hcell fin hcd) hd
theorem zf {i j pos}:PE X (.Constant (.int i) j pos) (tC (.int i)):=fun _ _ _ H _ I h=>wpAny_Constant_int ⟨.int i,H,I.tok _,⟨_,rfl⟩,h⟩
theorem zci {b j pos}:PE X (.Constant (.bool b) j pos) (tC (.bl b)):=fun _ _ _ H _ I h=>Constant_bool ⟨.bl b,H,I,rfl,h⟩
theorem zdt {j pos}:PE X (.Constant .none j pos) (tC .non):=fun _ _ _ H _ I h=>Constant_none ⟨.non,H,I,rfl,h⟩
theorem zdu {x j pos}:PE X (.Constant (.str x) j pos) (tC (.str x)):=fun _ _ _ H _ I h=>Calls.Constant_str ⟨.str x,H,I.tok _,⟨_,rfl⟩,h⟩
def Gl (X:Cx) (x:Str):Prop:=X.env.kindOf x=some .globalImplicit
theorem zcy {E:Value→Shared→Prop} {pins:List (Addr×Obj)} {s:Shared} {σ:St} {H:Hp} {x:Str} {u:Value} {pos:Pos} {Q:Value→Shared→Prop} (I:Inv X pins σ H s) (hg:Gl X x) (hm:X.mg x=some u) (h:Q u s)
  (hd:(x == ("__debug__" : Str))=false:=by decide):wpAny (model X.prog X.w) X.A (eval (.Name x pos) X.env) Q E s :=
 Calls.Name_function_global I.ok.kind hg (Calls.loadGlobal_global (by rw [I.ok.glob]; exact I.mod.glob.keeps I.bk) hm h) hd
theorem zba {E:Value→Shared→Prop} {pins:List (Addr×Obj)} {s:Shared} {σ:St} {H:Hp} {x:Str} {u:Value} {pos:Pos} {Q:Value→Shared→Prop} (I:Inv X pins σ H s) (hg:Gl X x) (hm:X.mg x=none) (hv:bootBuiltins x=some u) (h:Q u s)
  (hn:x≠"__name__":=by decide) (hd:(x == ("__debug__" : Str))=false:=by decide):wpAny (model X.prog X.w) X.A (eval (.Name x pos) X.env) Q E s:=by
 obtain⟨mb,h1,h2⟩:=I.mod.blt
 exact Calls.Name_function_global I.ok.kind hg (Calls.loadGlobal_builtin (by rw [I.ok.glob]; exact I.mod.glob.keeps I.bk) hm (by rw [I.ok.blt]; exact h1.keeps I.bk) ((h2 x hn).trans hv) h) hd
theorem zaU {x:Str} {v:V} {u:Value} {pos:Pos} (hg:Gl X x) (hm:X.mg x=some u) (r:RelV v u) (hd:(x == ("__debug__" : Str))=false:=by decide):PE X (.Name x pos) (tC v) :=
 fun _ _ _ H _ I h=>zcy I hg hm ⟨v,H,I,r,h⟩ hd
theorem zd4 {x:Str} {v:V} {u:Value} {pos:Pos} (hg:Gl X x) (hm:X.mg x=none) (hv:bootBuiltins x=some u) (r:RelV v u) (hn:x≠"__name__":=by decide) (hd:(x == ("__debug__" : Str))=false:=by decide):PE X (.Name x pos) (tC v) :=
 fun _ _ _ H _ I h=>zba I hg hm hv ⟨v,H,I,r,h⟩ hn hd
variable {a b:Expr} {ta tb:TE} {pos:Pos}
def tB (t:TE):TT:=fun σ H Q=>t σ H fun x H1=>∃ c,x = .bl c∧Q c H1
theorem zfu {e:Expr} {t:TE} (h:PE X e t) (he:∀ whole,isTrue e X.env whole=(do let v ← whole; standAt e.pos; holding [v] (truthy v)):=by intro _; rfl):PT X e (tB t):=by
 intro pins s σ H Q I hw
 refine isTrue_plain (thn (h pins s σ H _ I hw) fun v s1 ⟨x,H1,I1,r1,q1⟩=>?_) (he _)
 obtain⟨d,rfl,q⟩:=q1
 cases r1
 exact wpAny_truthy_bool ⟨H1,I1,q⟩
variable {tA tB':TT} {rest:List Expr}
def znY (t u:TT):TT:=fun σ H Q=>t σ H fun c H1=>if c=true then u σ H1 Q else Q false H1
def tOr (t u:TT):TT:=fun σ H Q=>t σ H fun c H1=>if c=true then Q true H1 else u σ H1 Q
def znZ (t:TT):TT:=fun σ H Q=>t σ H fun c H1=>Q (!c) H1
theorem zhR (ha:PT X a tA):PW X (.BoolOp .And [a] pos) tA:=by
 intro wh pins s σ H Q I h
 refine isTrue_and (thn (ha pins s σ H Q I h) fun c s1 e=>?_)
 cases c with
 | true=>exact isTrue_and_nil e
 | false=>exact e
theorem zfv (ha:PT X a tA):PW X (.BoolOp .Or [a] pos) tA:=by
 intro wh pins s σ H Q I h
 refine isTrue_or (thn (ha pins s σ H Q I h) fun c s1 e=>?_)
 cases c with
 | false=>exact isTrue_or_nil e
 | true=>exact e
theorem zjq (ha:PT X a tA) (hb:PW X (.BoolOp .And (b :: rest) pos) tB'):PW X (.BoolOp .And (a :: b :: rest) pos) (znY tA tB'):=by
 intro wh pins s σ H Q I h
 refine isTrue_and (thn (ha pins s σ H _ I h) fun c s1 ⟨H1,I1,q1⟩=>?_)
 cases c with
 | true=>exact hb wh pins s1 σ H1 Q I1 q1
 | false=>exact⟨H1,I1,q1⟩
theorem ze4 (ha:PT X a tA) (hb:PW X (.BoolOp .Or (b :: rest) pos) tB'):PW X (.BoolOp .Or (a :: b :: rest) pos) (tOr tA tB'):=by
 intro wh pins s σ H Q I h
 refine isTrue_or (thn (ha pins s σ H _ I h) fun c s1 ⟨H1,I1,q1⟩=>?_)
 cases c with
 | true=>exact⟨H1,I1,q1⟩
 | false=>exact hb wh pins s1 σ H1 Q I1 q1
theorem zed (ha:PT X a tA):PT X (.UnaryOp .Not a pos) (znZ tA):=by
 intro pins s σ H Q I h
 exact isTrue_not (ha pins s σ H (fun c H1=>Q (!c) H1) I h)
def zno (ta tb:TE):TE:=fun σ H Q=>ta σ H fun x H1=>∃ c,x = .bl c∧if c=true then tb σ H1 Q else Q (.bl false) H1
def znp (ta:TE):TE:=fun σ H Q=>ta σ H fun x H1=>∃ c,x = .bl c∧Q (.bl (!c)) H1
theorem zmt {op} {t:TE} (h:PE X a t):PE X (.BoolOp op [a] pos) t:=fun pins s σ H Q I hw=>BoolOp_one (h pins s σ H Q I hw)
theorem zmu (ha:PE X a ta) (hb:PE X (.BoolOp .And (b :: rest) pos) tb):PE X (.BoolOp .And (a :: b :: rest) pos) (zno ta tb):=by
 intro pins s σ H Q I h
 refine BoolOp_and (thn (ha pins s σ H _ I h) fun v s1 ⟨x,H1,I1,r1,q1⟩=>?_)
 obtain⟨c,rfl,q1⟩:=q1
 cases r1
 refine wpAny_truthy_bool ?_
 cases c with
 | true=>exact hb pins s1 σ H1 Q I1 q1
 | false=>exact⟨.bl false,H1,I1,rfl,q1⟩
theorem zmv (ha:PE X a ta):PE X (.UnaryOp .Not a pos) (znp ta):=by
 intro pins s σ H Q I h
 refine UnaryOp_ (thn (ha pins s σ H _ I h) fun v s1 ⟨x,H1,I1,r1,q1⟩=>?_)
 obtain⟨c,rfl,q1⟩:=q1
 cases r1
 exact not_of (wpAny_truthy_bool ⟨.bl (!c),H1,I1,rfl,q1⟩)
def tIf (t:TT) (ta tb:TE):TE:=fun σ H Q=>t σ H fun c H1=>if c=true then ta σ H1 Q else tb σ H1 Q
theorem zee {c:Expr} (hc:PT X c tA) (ha:PE X a ta) (hb:PE X b tb):PE X (.IfExp c a b pos) (tIf tA ta tb):=by
 intro pins s σ H Q I h
 refine wpAny_IfExp (thn (hc pins s σ H _ I h) fun d s1 ⟨H1,I1,q1⟩=>?_)
 cases d with
 | true=>exact ha pins s1 σ H1 Q I1 q1
 | false=>exact hb pins s1 σ H1 Q I1 q1
end
def SqL (K:PySem.W.Frag) (H:Hp) (a:Addr) (xs:List V):Prop :=
 Rd H a (.lst xs) ∨
  ∃ (o:Obj) (its:Array Value) (n:Nat),K.lookup a=some o∧o.cls = .type "list"∧o.dict=none∧o.data = .seq its n∧its.size≤sizeLine∧zK xs its.toList
def SqT (K:PySem.W.Frag) (H:Hp) (a:Addr) (xs:List V):Prop :=
 Rd H a (.tup xs) ∨
  ∃ (o:Obj) (its:Array Value) (n:Nat),K.lookup a=some o∧o.cls = .type "tuple"∧o.data = .seq its n∧its.size≤sizeLine∧zK xs its.toList
def zn0:Value→Option V
 | .none=>some .non
 | .bool b=>some (.bl b)
 | .int i _=>some (.int i)
 | .str x _=>some (.str x)
 | .bytes b _=>some (.byt b)
 | .float b _=>some (.flt b)
 | .ref a=>some (.ref a)
 | .type n=>some (.ty n)
 | _=>none
theorem RelV.abs {x:V} {u:Value} (r:RelV x u):zn0 u=some x:=by
 cases x with
 | non=>cases r; rfl
 | bl _=>cases r; rfl
 | int _=>obtain⟨t,rfl⟩:=r; rfl
 | str _=>obtain⟨t,rfl⟩:=r; rfl
 | byt _=>obtain⟨t,rfl⟩:=r; rfl
 | flt _=>obtain⟨t,rfl⟩:=r; rfl
 | ref _=>cases r; rfl
 | ty _=>cases r; rfl
theorem RelV.inj {x y:V} {u:Value} (r:RelV x u) (q:RelV y u):x=y:=Option.some.inj (r.abs.symm.trans q.abs)
theorem zK.inj:∀ {xs ys:List V} {us:List Value},zK xs us→zK ys us→xs=ys
 | _,_,_,.nil,.nil=>rfl
 | _,_,_,.cons r t,.cons r' t'=>by rw [r.inj r',zK.inj t t']
section
variable {X:Cx} {pins:List (Addr×Obj)} {σ:St} {H:Hp} {s:Shared} {a:Addr} {xs ys:List V}
theorem SqL.of {K:PySem.W.Frag} (h:H a=some (.lst xs)):SqL K H a xs:=.inl (.inl h)
theorem SqT.of {K:PySem.W.Frag} (h:H a=some (.tup xs)):SqT K H a xs:=.inl (.inl h)
theorem Inv.list (I:Inv X pins σ H s) (h:SqL X.K H a xs):∃ its:List Value,zK xs its∧PlainL s.heap a its.toArray∧xs.length≤sizeLine:=by
 rcases h with h | ⟨o,its,n,hk,hc,hd,hs,hz,r⟩
 ·obtain⟨z,its,n,r,e⟩:=h.ok I.hok
  exact⟨its,r,⟨_,n,e,rfl,rfl,rfl⟩,z⟩
 ·refine⟨its.toList,r,⟨o,n,I.kIn a o hk,hc,hd,by simpa using hs⟩,?_⟩
  have e:=r.length
  simp only [Array.length_toList] at e
  omega
theorem Inv.tuple (I:Inv X pins σ H s) (h:SqT X.K H a xs):∃ its:List Value,zK xs its∧IsTup s.heap a its.toArray∧xs.length≤sizeLine:=by
 rcases h with h | ⟨o,its,n,hk,hc,hs,hz,r⟩
 ·obtain⟨z,its,r,p⟩:=h.ok I.hok
  exact⟨its,r,p,z⟩
 ·refine⟨its.toList,r,⟨o,I.kIn a o hk,hc,n,by simpa using hs⟩,?_⟩
  have e:=r.length
  simp only [Array.length_toList] at e
  omega
theorem Inv.list_inj (I:Inv X pins σ H s) (h:SqL X.K H a xs) (h':SqL X.K H a ys):xs=ys:=by
 obtain⟨its,r,⟨o,n,e,_,_,d⟩,_⟩:=I.list h
 obtain⟨its',r',⟨o',n',e',_,_,d'⟩,_⟩:=I.list h'
 rw [e] at e'; cases e'
 rw [d] at d'
 injection d' with d1 _
 have:its=its':=by simpa using congrArg Array.toList d1
 subst this
 exact r.inj r'
theorem Inv.tuple_inj (I:Inv X pins σ H s) (h:SqT X.K H a xs) (h':SqT X.K H a ys):xs=ys:=by
 obtain⟨its,r,⟨o,e,_,n,d⟩,_⟩:=I.tuple h
 obtain⟨its',r',⟨o',e',_,n',d'⟩,_⟩:=I.tuple h'
 rw [e] at e'; cases e'
 rw [d] at d'
 injection d' with d1 _
 have:its=its':=by simpa using congrArg Array.toList d1
 subst this
 exact r.inj r'
end
abbrev Cx.wish (X:Cx) (E:Value→Shared→Prop):Cx:={ X with xe:=E }
abbrev Cx.nox (X:Cx):Cx:=X.wish fun _ _=>False
theorem Cx.Ok.wish {X:Cx} (ok:X.Ok) (E:Value→Shared→Prop):(X.wish E).Ok :=
 ⟨ok.mod,ok.kind,ok.glob,ok.blt,ok.above,ok.inj,ok.has,ok.cab,ok.hd,ok.frames,ok.stk,ok.exf,ok.bs,ok.bsz,ok.noex,ok.exfs,ok.funs,ok.frf⟩
theorem Cx.Ok.unwish {X:Cx} {E:Value→Shared→Prop} (ok:(X.wish E).Ok):X.Ok :=
 ⟨ok.mod,ok.kind,ok.glob,ok.blt,ok.above,ok.inj,ok.has,ok.cab,ok.hd,ok.frames,ok.stk,ok.exf,ok.bs,ok.bsz,ok.noex,ok.exfs,ok.funs,ok.frf⟩
section
variable {X:Cx} {pins:List (Addr×Obj)} {σ:St} {H:Hp} {s:Shared} {E:Value→Shared→Prop}
theorem Inv.wish (I:Inv X pins σ H s) (E:Value→Shared→Prop):Inv (X.wish E) pins σ H s:=⟨I.ok.wish E,I.os,I.bare,I.base,I.loc,I.cell,I.free,I.freeC,I.pin,I.hok,I.len⟩
theorem Inv.unwish (I:Inv (X.wish E) pins σ H s):Inv X pins σ H s:=⟨I.ok.unwish,I.os,I.bare,I.base,I.loc,I.cell,I.free,I.freeC,I.pin,I.hok,I.len⟩
theorem SP.unwish {D:Ends} {f:Flow} {s':Shared} (h:SP (X.wish E) pins D f s'):SP X pins D f s':=by
 cases f with
 | next=>obtain⟨σ',H',I,q⟩:=h; exact⟨σ',H',I.unwish,q⟩
 | brk=>obtain⟨σ',H',I,q⟩:=h; exact⟨σ',H',I.unwish,q⟩
 | cont=>obtain⟨σ',H',I,q⟩:=h; exact⟨σ',H',I.unwish,q⟩
 | ret u=>obtain⟨v,σ',H',I,r,q⟩:=h; exact⟨v,σ',H',I.unwish,r,q⟩
theorem PSs.nox {st:List Stmt} {t:TS} (h:PSs X.nox st t):PSs X st t:=fun pins s σ H D I hw =>
 wpAny_mono (h pins s σ H D (I.wish _) hw) (fun _ _ q=>q.unwish) fun _ _ z=>False.elim z
end
section
variable {X:Cx} {st:Stmt} {rest:List Stmt} {t u:TS} {e:Expr} {te:TE} {pos:Pos}
def znq:TS:=fun D σ H=>D.nx σ H
def zmw (t u:TS):TS:=fun D σ H=>t { D with nx:=u D } σ H
theorem z8:PSs X [] znq:=fun _ _ σ H _ I h=>wpAny_execs_nil ⟨σ,H,I,h⟩
theorem ze (h1:PS X st t) (h2:PSs X rest u):PSs X (st :: rest) (zmw t u):=by
 intro pins s σ H D I h
 refine wpAny_execs_cons (thn (h1 pins s σ H { D with nx:=u D } I h) fun f s1 q=>?_)
 cases f with
 | next =>
  obtain⟨σ',H',I',q⟩:=q
  exact h2 pins s1 σ' H' D I' q
 | ret v=>exact q
 | brk=>exact q
 | cont=>exact q
theorem zk (h1:PS X st t):PSs X [st] t:=by
 intro pins s σ H D I h
 refine wpAny_execs_cons (thn (h1 pins s σ H D I h) fun f s1 q=>?_)
 cases f with
 | next=>exact wpAny_execs_nil q
 | ret v=>exact q
 | brk=>exact q
 | cont=>exact q
theorem Inv.quiet {pins:List (Addr×Obj)} {σ:St} {H:Hp} {s:Shared} (I:Inv X pins σ H s):interactive X.env=false:=by simp [interactive,I.ok.kind]
def znr (te:TE):TS:=fun D σ H=>te σ H fun _ H1=>D.nx σ H1
theorem za3 (he:PE X e te) (hs:swapsWith e none pos.line X.env=pure false:=by rfl):PS X (.Expr e pos) (znr te):=by
 intro pins s σ H D I h
 exact wpAny_Expr_any (thn (he pins s σ H _ I h) fun v s1 ⟨x,H1,I1,r1,q1⟩=>⟨σ,H1,I1,q1⟩) I.quiet hs
def zn1 (te:TE):TS:=fun D σ H=>te σ H D.rt
theorem zz (he:PE X e te):PS X (.Return (some e) pos) (zn1 te):=by
 intro pins s σ H D I h
 exact wpAny_Return_some (thn (he pins s σ H _ I h) fun v s1 ⟨x,H1,I1,r1,q1⟩=>⟨x,σ,H1,I1,r1,q1⟩)
def zn2 (c:TT) (t u:TS):TS:=fun D σ H=>c σ H fun b H1=>if b=true then t D σ H1 else u D σ H1
theorem zaO {c:Expr} {a b:List Stmt} {tc:TT} (hc:PT X c tc) (ha:PSs X a t) (hb:PSs X b u):PS X (.If c a b pos) (zn2 tc t u):=by
 intro pins s σ H D I h
 refine wpAny_If (thn (hc pins s σ H _ I h) fun d s1 ⟨H1,I1,q1⟩=>?_)
 cases d with
 | true=>exact ha pins s1 σ H1 D I1 q1
 | false=>exact hb pins s1 σ H1 D I1 q1
end
abbrev TG:=V→St→Hp→(St→Hp→Prop)→Prop
abbrev TGs:=List V→St→Hp→(St→Hp→Prop)→Prop
def PG (X:Cx) (target:Expr) (t:TG):Prop :=
 ∀ (pins:List (Addr×Obj)) (s:Shared) (σ:St) (H:Hp) (v:V) (u:Value) (Q:St→Hp→Prop),Inv X pins σ H s→RelV v u→t v σ H Q →
  wpAny (model X.prog X.w) X.A (assign target X.env u) (fun _ s'=>∃ σ' H',Inv X pins σ' H' s'∧Q σ' H') X.xe s
def PGs (X:Cx) (ts:List Expr) (t:TGs):Prop :=
 ∀ (pins:List (Addr×Obj)) (s:Shared) (σ:St) (H:Hp) (vs:List V) (us:List Value) (Q:St→Hp→Prop),Inv X pins σ H s→zK vs us→t vs σ H Q →
  wpAny (model X.prog X.w) X.A (assignInOrder ((assignEach ts X.env).map (·.2)) us) (fun _ s'=>∃ σ' H',Inv X pins σ' H' s'∧Q σ' H') X.xe s
abbrev zmx:=V→V→V→Hp→(Hp→Prop)→Prop
def zns (X:Cx) (t:zmx):Prop :=
 ∀ (pins:List (Addr×Obj)) (s:Shared) (σ:St) (H:Hp) (o i v:V) (ov iv u:Value) (Q:Hp→Prop),Inv X pins σ H s→RelV o ov→RelV i iv→RelV v u→t o i v H Q →
  wpAny (model X.prog X.w) X.A (setItem ov iv u) (fun _ s'=>∃ H',Inv X pins σ H' s'∧Q H') X.xe s
abbrev TIp:=V→V→Hp→VK→Prop
def PIp (X:Cx) (op:Operator) (t:TIp):Prop :=
 ∀ (pins:List (Addr×Obj)) (s:Shared) (σ:St) (H:Hp) (x y:V) (v u:Value) (Q:VK),Inv X pins σ H s→RelV x v→RelV y u→t x y H Q →
  wpAny (model X.prog X.w) X.A (inplaceOp op v u) (EP X pins σ Q) X.xe s
section
variable {X:Cx} {pos:Pos}
def za1 (i:Nat):TG:=fun v σ H Q=>Q (σ.set i (some v)) H
theorem zg {i:Nat} {x:Str} (hN:X.N.Nodup) (hi:X.N[i]? = some x) (hx:Loc X.env.scope x) (hf:X.fn x=true∨X.env.scope.names.lookup x=some .local:=by first | exact .inl rfl | exact .inr rfl | assumption):PG X (.Name x pos) (za1 i):=by
 intro pins s σ H v u Q I r h
 exact wpAny_assign_Name (zbM I hN hi hx r (fun s' I'=>⟨_,H,I',h⟩) hf)
def zjr:TGs:=fun vs σ H Q=>vs = []∧Q σ H
def zdD (t:TG) (u:TGs):TGs:=fun vs σ H Q=>∃ v r,vs=v :: r∧t v σ H fun σ' H'=>u r σ' H' Q
theorem zB:PGs X [] zjr:=by
 intro pins s σ H vs us Q I r h
 obtain⟨e,h⟩:=h
 subst e
 cases r
 exact assignInOrder_nil ⟨σ,H,I,h⟩
theorem zj {e:Expr} {es:List Expr} {t:TG} {u:TGs} (h1:PG X e t) (h2:PGs X es u)
  (hs:(assignEach (e :: es) X.env).map (·.2)=assign e X.env :: (assignEach es X.env).map (·.2):=by rfl):PGs X (e :: es) (zdD t u):=by
 intro pins s σ H vs us Q I r h
 obtain⟨v,vr,e1,h⟩:=h
 subst e1
 cases r with
 | cons r rr =>
  rw [hs]
  refine assignInOrder_cons (thn (h1 pins s σ H _ _ _ I r h) fun _ s1 ⟨σ1,H1,I1,q1⟩=>?_)
  exact h2 pins s1 σ1 H1 _ _ Q I1 rr q1
def zir (K:PySem.W.Frag) (n:Nat) (t:TGs):TG:=fun v σ H Q=>∃ a xs,v = .ref a∧SqT K H a xs∧xs.length=n∧t xs σ H Q
theorem zaP {es:List Expr} {k:Nat} {t:TGs} {n:Nat} (hc:X.calm=true) (h:PGs X es t)
  (hn:(assignEach es X.env).length=n:=by rfl) (hst:(assignEach es X.env).findIdx? (·.1)=none:=by rfl):PG X (.Tuple es k pos) (zir X.K n t):=by
 intro pins s σ H v u Q I r hw
 obtain⟨a,xs,e1,hq,hl,hw⟩:=hw
 subst e1
 cases r
 obtain⟨its,rv,ht,hz⟩:=I.tuple hq
 refine assign_Tuple_tuple (I.ok.hd hc) ht (by simp [hn,← hl,rv.length]) hst fun h' hx=>?_
 have I1:Inv X pins σ H { s with heap:=h' }:=I.kept (t':=s.toks) fun b o e=>hx b o (Nat.ne_of_lt (Heap.lt_size e)) e
 exact h pins _ σ H xs _ Q I1 (by simpa using rv) hw
def zn3 (to ti:TE) (t:zmx):TG:=fun v σ H Q=>to σ H fun o H1=>ti σ H1 fun i H2=>t o i v H2 fun H3=>Q σ H3
theorem zef {o i:Expr} {to ti:TE} {t:zmx} (ho:PE X o to) (hi:PE X i ti) (hs:zns X t)
  (ha:∀ v,assign (.Subscript o i pos) X.env v=(do
   let ov ← holding [v] (eval o X.env)
   let iv ← holding [v,ov] (eval i X.env)
   standAt pos
   holding [v,ov,iv] (setItem ov iv v)
   release [v,ov,iv] []):=by intro _; rfl):PG X (.Subscript o i pos) (zn3 to ti t):=by
 intro pins s σ H v u Q I r h
 rw [ha]
 refine wpAny_bind (wpAny_holding (thn (ho pins s σ H _ I h) fun ov s1 ⟨x,H1,I1,r1,q1⟩=>?_))
 refine wpAny_bind (wpAny_holding (thn (hi pins s1 σ H1 _ I1 q1) fun iv s2 ⟨y,H2,I2,r2,q2⟩=>?_))
 refine wpAny_bind (wpAny_standAt (wpAny_bind (wpAny_holding (thn (hs pins s2 σ H2 x y v ov iv u _ I2 r1 r2 r q2) fun _ s3 ⟨H3,I3,q3⟩=>?_))))
 exact wpAny_release ⟨σ,H3,I3,q3⟩
def zfw (te:TE) (g:TG):TS:=fun D σ H=>te σ H fun x H1=>g x σ H1 D.nx
theorem zaX {tg e:Expr} {te:TE} {g:TG} (he:PE X e te) (hg:PG X tg g) (hs:swapsWithSole [tg] e pos.line X.env=pure false:=by rfl) (hw:swappedStores [tg] e X.env=pure none:=by rfl)
  (h1:(assignEach [tg] X.env).map (·.2) = [assign tg X.env]:=by rfl):PS X (.Assign [tg] e pos) (zfw te g):=by
 intro pins s σ H D I h
 refine wpAny_Assign_stores (thn (he pins s σ H _ I h) fun v s1 ⟨x,H1,I1,r1,q1⟩=>?_) hs hw
 rw [h1]
 exact thn (hg pins s1 σ H1 x v _ I1 r1 q1) fun _ s2 q=>q
theorem zm {i:Nat} {x:Str} {e:Expr} {te:TE} {pos':Pos} (hN:X.N.Nodup) (hi:X.N[i]? = some x) (hx:Loc X.env.scope x) (he:PE X e te) (hs:swapsWith e (some (.Name x pos')) pos.line X.env=pure false:=by rfl) (hf:X.fn x=true∨X.env.scope.names.lookup x=some .local:=by first | exact .inl rfl | exact .inr rfl | assumption) :
  PS X (.Assign [.Name x pos'] e pos) (zfw te (za1 i)):=by
 intro pins s σ H D I h
 refine wpAny_Assign_Name (thn (he pins s σ H _ I h) fun v s1 ⟨y,H1,I1,r1,q1⟩=>?_) hs
 exact zbM I1 hN hi hx r1 (fun s2 I2=>⟨_,H1,I2,q1⟩) hf
def zn4 (i:Nat) (te:TE) (ti:TIp):TS:=fun D σ H=>∃ x,σ[i]? = some (some x)∧te σ H fun y H1=>ti x y H1 fun z H2=>D.nx (σ.set i (some z)) H2
theorem zg7 {i:Nat} {x:Str} {e:Expr} {te:TE} {op:Operator} {ti:TIp} {pos':Pos} (hN:X.N.Nodup) (hi:X.N[i]? = some x) (hx:Loc X.env.scope x) (he:PE X e te) (ho:PIp X op ti) (hf:X.fn x=true∨X.env.scope.names.lookup x=some .local:=by first | exact .inl rfl | exact .inr rfl | assumption) :
  PS X (.AugAssign (.Name x pos') op e pos) (zn4 i te ti):=by
 intro pins s σ H D I h
 obtain⟨v,e1,h⟩:=h
 obtain⟨m,hn,hl⟩:=I.loc
 have vis:Vis X.env.scope x:=by rcases hx with k | k; exact .inl k; exact .inr (.inl k)
 obtain⟨u,r,l⟩:=hl i x v hi e1 vis
 refine wpAny_AugAssign_Name ?_
 have go:wpAny (model X.prog X.w) X.A (eval e X.env) (fun w s₂=>wpAny (model X.prog X.w) X.A (inplaceOp op u w) (fun r s₃=>wpAny (model X.prog X.w) X.A (storeName X.env x r) (fun _=>SP X pins D .next) X.xe s₃) X.xe s₂) X.xe s:=by
  refine thn (he pins s σ H _ I h) fun w s1 ⟨y,H1,I1,r1,q1⟩=>?_
  refine thn (ho pins s1 σ H1 v y u w _ I1 r r1 q1) fun z s2 ⟨zv,H2,I2,r2,q2⟩=>?_
  exact zbM I2 hN hi hx r2 (fun s3 I3=>⟨_,H2,I3,q2⟩) hf
 rcases l with ⟨hk,hm⟩ | ⟨hk,c,hc,hcell⟩
 ·exact wpAny_loadName_local I.ok.kind hk hn hm go
 ·rcases hk with hk | hk
  ·exact wpAny_loadName_cell I.ok.kind hk hc hcell go
  ·rcases hx with k | k
   ·have:X.env.scope.names.lookup x=some .free:=hk
    rw [k] at this; cases this
   ·have:X.env.scope.names.lookup x=some .free:=hk
    rw [k] at this; cases this
def zjs (c:TT) (tb:TS):TS:=fun D σ H=>∃ W:Nat→St→Hp→Prop,(∃ m,W m σ H)∧∀ m σ H,W m σ H →
 c σ H fun b H1=>if b=true then ∃ N:St→Hp→Prop,(∀ σ' H',N σ' H'→∃ m',m' < m∧W m' σ' H')∧tb { D with nx:=N,ct:=N,bk:=D.nx } σ H1 else D.nx σ H1
theorem zeg {c:Expr} {body:List Stmt} {tc:TT} {tb:TS} (hp:PassesOwn (model X.prog X.w) X.A X.env X.xe) (hc:PT X c tc) (hb:PSs X body tb):PS X (.While c body [] pos) (zjs tc tb):=by
 intro pins s σ H D I h
 obtain⟨W,⟨m0,w0⟩,turn⟩:=h
 refine wpAny_While (codeAny_whileLoop (fun n s'=>∃ σ' H',Inv X pins σ' H' s'∧W n σ' H') ?_ m0 ⟨σ,H,I,w0⟩)
 rintro n s1 ⟨σ1,H1,I1,w1⟩
 refine wpAny_passesOwn hp (thn (hc pins s1 σ1 H1 _ I1 (turn n σ1 H1 w1)) fun b s2 ⟨H2,I2,q2⟩=>?_)
 cases b with
 | true =>
  obtain⟨N,hN,q2⟩:=q2
  rw [if_pos rfl]
  refine wpAny_passesOwn hp (thn (hb pins s2 σ1 H2 _ I2 q2) fun f s3 q3=>?_)
  cases f with
  | next =>
   obtain⟨σ3,H3,I3,n3⟩:=q3
   obtain⟨m',hm,w3⟩:=hN σ3 H3 n3
   exact⟨m',hm,σ3,H3,I3,w3⟩
  | cont =>
   obtain⟨σ3,H3,I3,n3⟩:=q3
   obtain⟨m',hm,w3⟩:=hN σ3 H3 n3
   exact⟨m',hm,σ3,H3,I3,w3⟩
  | brk=>exact q3
  | ret v=>exact q3
 | false =>
  rw [if_neg Bool.false_ne_true]
  exact wpAny_execs_nil ⟨σ1,H2,I2,q2⟩
end
structure It where
 go:Nat→Hp→Prop
 yld:Nat→Hp→V→Hp→Prop
 stop:Nat→Hp→Prop
def zbE (X:Cx) (pins:List (Addr×Obj)) (H:Hp) (b:Addr):Prop :=
 H b=none∧b≠X.env.locals∧b∉X.fs∧(b∈X.ex∨X.s₀.heap.objs.size≤b)∧(∀ x c,X.env.cells.lookup x=some c→c≠b)∧∀ p∈X.pn++pins,p.1≠b
theorem Inv.fpOk {X:Cx} {pins:List (Addr×Obj)} {σ:St} {H H':Hp} {s:Shared} {b:Addr} (I:Inv X pins σ H s) (hb:s.heap.objs.size≤b) (hn:H' b=none):zbE X pins H' b:=by
 refine⟨hn,Nat.ne_of_gt (Nat.lt_of_lt_of_le I.lt hb),I.nofs hb,.inr (Nat.le_trans I.sz hb),fun x c e z=>?_,fun p hp z=>?_⟩
 ·obtain⟨v,q⟩:=I.cell x c e
  exact absurd (Nat.lt_of_lt_of_le q.lt (by rw [z]; exact hb)) (Nat.lt_irrefl _)
 ·exact absurd (Nat.lt_of_lt_of_le (Heap.lt_size (I.pin p hp).1) (by rw [z]; exact hb)) (Nat.lt_irrefl _)
structure Turn (P:Program) (w:World) (K:PySem.W.Frag) (tg:Expr) (J:It) (fp:List Addr) (it:Addr) (tn:Nat→Heap→Prop):Prop where
 mem:it∈fp
 obj:∀ i h,tn i h→∀ b∈fp,∃ o,h.get? b=some o∧∀ v,o.data≠.cell v
 keep:∀ i h h',tn i h→(∀ b∈fp,∀ o,h.get? b=some o→h'.get? b=some o)→tn i h'
 item:∀ (X:Cx),X.prog=P→X.w=w→X.K=K→X.calm=true→∀ (i:Nat) (pins:List (Addr×Obj)) (s:Shared) (σ:St) (H:Hp) (E:Value→Shared→Prop),Inv X pins σ H s→(∀ b∈fp,zbE X pins H b)→tn i s.heap→J.go i H →
  wpAny (model P w) X.A (pyNext (.ref it)) (fun r s1=>∃ u,r=some u ∧
   wpAny (model P w) X.A (letOwnedTupleGo tg (.ref it) u) (fun _ s2=>∃ x H',Inv X pins σ H' s2∧RelV x u∧J.yld i H x H'∧tn (i+1) s2.heap∧∀ b∈fp,H' b=none) E s1) E s
 done:∀ (X:Cx),X.prog=P→X.w=w→X.K=K→X.calm=true→∀ (i:Nat) (pins:List (Addr×Obj)) (s:Shared) (σ:St) (H:Hp) (E:Value→Shared→Prop),Inv X pins σ H s→(∀ b∈fp,zbE X pins H b)→tn i s.heap→J.stop i H →
  wpAny (model P w) X.A (pyNext (.ref it)) (fun r s1=>r=none∧Inv X pins σ H s1) E s
 self:∀ (A:Around) (i:Nat) (s:Shared) (Q:Value→Shared→Prop) (E:Value→Shared→Prop),tn i s.heap→Q (.ref it) s→wpAny (model P w) A (pyIter (.ref it)) Q E s
abbrev TI:=St→Hp→(It→Hp→Prop)→Prop
def PIE (X:Cx) (pins:List (Addr×Obj)) (σ:St) (tg:Expr) (R:It→Hp→Prop) (itv:Value) (s2:Shared):Prop :=
 ∃ (it:Addr) (fp:List Addr) (tn:Nat→Heap→Prop) (J:It) (H':Hp),itv = .ref it∧Inv X pins σ H' s2∧Turn X.prog X.w X.K tg J fp it tn∧tn 0 s2.heap∧(∀ b∈fp,zbE X pins H' b)∧R J H'
def PI (X:Cx) (tg iter:Expr) (wi:TI):Prop :=
 ∀ (pins:List (Addr×Obj)) (s:Shared) (σ:St) (H:Hp) (R:It→Hp→Prop),Inv X pins σ H s→wi σ H R →
  wpAny (model X.prog X.w) X.A (eval iter X.env) (fun v s1=>wpAny (model X.prog X.w) X.A (pyIter v) (PIE X pins σ tg R) X.xe s1) X.xe s
theorem zgf {M:Model} {A:Around} {E:Value→Shared→Prop} {s:Shared} {tg:Expr} {it:Addr} {u:Value} {o:Obj} {n:String} {vs:Array Value} {Q:Unit→Shared→Prop} (ho:s.heap.get? it=some o) (hc:o.cls = .type n) (hd:o.data = .fields vs)
  (hn:["enumerate","zip","dict_itemiterator","dict_reverseitemiterator","odict_iterator","itertools.zip_longest","itertools.pairwise"].contains n=false) (hQ:Q () s):wpAny M A (letOwnedTupleGo tg (.ref it) u) Q E s:=by
 unfold letOwnedTupleGo
 cases tg <;> first
  | exact wpAny_pure hQ
  | (cases u <;> first
    | exact wpAny_pure hQ
    | (refine wpAny_bind (wpAny_load ho ?_)
       rw [hc,hd]
       show wpAny M A (if (["enumerate","zip","dict_itemiterator","dict_reverseitemiterator","odict_iterator","itertools.zip_longest","itertools.pairwise"].contains n && vs[0]? == some (rawInt _))=true then _ else _) Q E s
       rw [if_neg (by intro h; rw [hn,Bool.false_and] at h; cases h)]
       exact wpAny_pure hQ))
def Itl (K:PySem.W.Frag) (a:Addr):It :=
 ⟨fun i H=>∃ xs x,SqL K H a xs∧xs[i]? = some x,fun i H x H'=>H'=H∧∀ xs,SqL K H a xs→xs[i]? = some x,fun i H=>∃ xs,SqL K H a xs∧xs.length≤i⟩
def Itt (K:PySem.W.Frag) (a:Addr):It :=
 ⟨fun i H=>∃ xs x,SqT K H a xs∧xs[i]? = some x,fun i H x H'=>H'=H∧∀ xs,SqT K H a xs→xs[i]? = some x,fun i H=>∃ xs,SqT K H a xs∧xs.length≤i⟩
def Itr (lo:Int) (n:Nat):It:=⟨fun i _=>i < n,fun i H x H'=>H'=H∧x = .int (lo+i),fun i _=>n≤i⟩
theorem ze5 {P:Program} {w:World} {K:PySem.W.Frag} {tg:Expr} (a it:Addr):Turn P w K tg (Itl K a) [it] it (fun i h=>h.IsListIter it a i) where
 mem:=by simp
 obj:=fun i h st b hb=>by
  have e:b=it:=by simpa using hb
  subst e
  obtain⟨o,e,c,d⟩:=st
  exact⟨o,e,fun v z=>by rw [d] at z; cases z⟩
 keep:=fun i h h' st k=>st.at fun o e=>k it (by simp) o e
 item:=by
  intro X hP hw hK hc i pins s σ H E I hf st hg
  subst hP hw hK
  obtain⟨xs,x,hq,hx⟩:=hg
  obtain⟨its,rv,p,hz⟩:=I.list hq
  obtain⟨u,hu,ru⟩:=rv.get hx
  obtain⟨f0,f1,f2,f3,f4,f5⟩:=hf it (by simp)
  refine wpAny_pyNext_list_item st p.isList (x:=u) (by simpa using hu) fun h' st' sb=>?_
  have I1:Inv X pins σ H { s with heap:=h' }:=I.turned (t':=s.toks) (fun b o hb e=>(sb.2 b hb).trans e) f0 f1 f3 f4 f5
  obtain⟨o,e,c,d⟩:=id st'
  exact⟨u,rfl,zgf (s:={ s with heap:=h' }) e c d (by decide) ⟨x,H,I1,ru,⟨rfl,fun ys hy=>by rw [I.list_inj hy hq]; exact hx⟩,st',fun b hb=>(hf b hb).1⟩⟩
 done:=by
  intro X hP hw hK hc i pins s σ H E I hf st hg
  subst hP hw hK
  obtain⟨xs,hq,hx⟩:=hg
  obtain⟨its,rv,p,hz⟩:=I.list hq
  obtain⟨f0,f1,f2,f3,f4,f5⟩:=hf it (by simp)
  have hl:=rv.length
  exact wpAny_pyNext_list_end (I.ok.hd hc) st p.isList (by simp; omega) fun h' eb=>⟨rfl,I.turned (t':=s.toks) (fun b o hb e=>eb b o hb e) f0 f1 f3 f4 f5⟩
 self:=fun _ _ _ _ _ st h=>wpAny_pyIter_listiter st h
theorem zeh {P:Program} {w:World} {K:PySem.W.Frag} {tg:Expr} (a it:Addr):Turn P w K tg (Itt K a) [it] it (fun i h=>h.IsTupleIter it a i) where
 mem:=by simp
 obj:=fun i h st b hb=>by
  have e:b=it:=by simpa using hb
  subst e
  obtain⟨o,e,c,d⟩:=st
  exact⟨o,e,fun v z=>by rw [d] at z; cases z⟩
 keep:=fun i h h' st k=>st.at fun o e=>k it (by simp) o e
 item:=by
  intro X hP hw hK hc i pins s σ H E I hf st hg
  subst hP hw hK
  obtain⟨xs,x,hq,hx⟩:=hg
  obtain⟨its,rv,p,hz⟩:=I.tuple hq
  obtain⟨u,hu,ru⟩:=rv.get hx
  obtain⟨f0,f1,f2,f3,f4,f5⟩:=hf it (by simp)
  refine wpAny_pyNext_tuple_item st (show s.heap.IsTuple a its.toArray from p) (x:=u) (by simpa using hu) fun h' st' sb=>?_
  have I1:Inv X pins σ H { s with heap:=h' }:=I.turned (t':=s.toks) (fun b o hb e=>(sb.2 b hb).trans e) f0 f1 f3 f4 f5
  obtain⟨o,e,c,d⟩:=id st'
  exact⟨u,rfl,zgf (s:={ s with heap:=h' }) e c d (by decide) ⟨x,H,I1,ru,⟨rfl,fun ys hy=>by rw [I.tuple_inj hy hq]; exact hx⟩,st',fun b hb=>(hf b hb).1⟩⟩
 done:=by
  intro X hP hw hK hc i pins s σ H E I hf st hg
  subst hP hw hK
  obtain⟨xs,hq,hx⟩:=hg
  obtain⟨its,rv,p,hz⟩:=I.tuple hq
  obtain⟨f0,f1,f2,f3,f4,f5⟩:=hf it (by simp)
  have hl:=rv.length
  exact wpAny_pyNext_tuple_end (I.ok.hd hc) st (show s.heap.IsTuple a its.toArray from p) (by simp; omega) fun h' eb=>⟨rfl,I.turned (t':=s.toks) (fun b o hb e=>eb b o hb e) f0 f1 f3 f4 f5⟩
 self:=fun _ _ _ _ _ st h=>wpAny_pyIter_tupleiter st h
theorem zg8 {P:Program} {w:World} {K:PySem.W.Frag} {tg:Expr} (it:Addr) (lo:Int) (n:Nat):Turn P w K tg (Itr lo n) [it] it (fun i h=>IsRangeIter h it (lo+(i:Nat)*1) ((n:Int) - (i:Nat)) 1) where
 mem:=by simp
 obj:=fun i h st b hb=>by
  have e:b=it:=by simpa using hb
  subst e
  exact⟨_,st,fun v z=>by
   have z':Data.fields _=Data.cell v:=z
   cases z'⟩
 keep:=fun i h h' st k=>k it (by simp) _ st
 item:=by
  intro X hP hw hK hc i pins s σ H E I hf st hg
  subst hP hw hK
  obtain⟨f0,f1,f2,f3,f4,f5⟩:=hf it (by simp)
  have W:=Walks.range (prog:=X.prog) (w:=X.w) (I.ok.hd hc) it lo 1 n
  refine W.item i s _ _ hg st fun v h' tk hv st' kk=>?_
  obtain⟨t,rfl⟩:=hv
  have I1:Inv X pins σ H { s with heap:=h',toks:=tk }:=I.turned (fun b o hb e=>kk b o (by simpa using hb) e) f0 f1 f3 f4 f5
  refine⟨_,rfl,zgf (s:={ s with heap:=h',toks:=tk }) (n:="range_iterator") st' rfl rfl (by decide) ⟨.int (lo+i),H,I1,⟨t,?_⟩,⟨rfl,rfl⟩,st',fun b hb=>(hf b hb).1⟩⟩
  rw [Int.mul_one]
 done:=by
  intro X hP hw hK hc i pins s σ H E I hf st hg
  subst hP hw hK
  obtain⟨f0,f1,f2,f3,f4,f5⟩:=hf it (by simp)
  exact wpAny_pyNext_range_end (I.ok.hd hc) st (by have:n≤i:=hg; omega) fun h' eb=>⟨rfl,I.turned (t':=s.toks) (fun b o hb e=>eb b o hb e) f0 f1 f3 f4 f5⟩
 self:=fun _ _ _ _ _ st h=>wpAny_pyIter_rangeiter st h
section
variable {X:Cx} {tg:Expr}
def zl6 (K:PySem.W.Frag) (tl:TE):TI:=fun σ H R=>tl σ H fun x H1=>∃ a,x = .ref a∧(∃ xs,SqL K H1 a xs)∧R (Itl K a) H1
def znt (K:PySem.W.Frag) (tl:TE):TI:=fun σ H R=>tl σ H fun x H1=>∃ a,x = .ref a∧(∃ xs,SqT K H1 a xs)∧R (Itt K a) H1
theorem z9 {l:Expr} {tl:TE} (hl:PE X l tl):PI X tg l (zl6 X.K tl):=by
 intro pins s σ H R I h
 refine thn (hl pins s σ H _ I h) fun v s1 ⟨x,H1,I1,r1,q1⟩=>?_
 obtain⟨a,e,⟨xs,hq⟩,q⟩:=q1
 subst e
 cases r1
 obtain⟨its,rv,p,hz⟩:=I1.list hq
 refine wpAny_pyIter_list p.isList ?_
 refine⟨s1.heap.objs.size,[s1.heap.objs.size],_,_,H1,rfl,I1.kept (t':=s1.toks) fun b o e=>Heap.get?_push_of_some _ e,ze5 a _,⟨_,Heap.get?_push_size _ rfl,rfl,rfl⟩,fun b hb=>?_,q⟩
 have e:b=s1.heap.objs.size:=by simpa using hb
 subst e
 exact I1.fpOk (Nat.le_refl _) (I1.hok.fresh (Nat.le_refl _))
theorem zfx {l:Expr} {tl:TE} (hl:PE X l tl):PI X tg l (znt X.K tl):=by
 intro pins s σ H R I h
 refine thn (hl pins s σ H _ I h) fun v s1 ⟨x,H1,I1,r1,q1⟩=>?_
 obtain⟨a,e,⟨xs,hq⟩,q⟩:=q1
 subst e
 cases r1
 obtain⟨its,rv,p,hz⟩:=I1.tuple hq
 refine wpAny_pyIter_tuple (show s1.heap.IsTuple a its.toArray from p) ?_
 refine⟨s1.heap.objs.size,[s1.heap.objs.size],_,_,H1,rfl,I1.kept (t':=s1.toks) fun b o e=>Heap.get?_push_of_some _ e,zeh a _,⟨_,Heap.get?_push_size _ rfl,rfl,rfl⟩,fun b hb=>?_,q⟩
 have e:b=s1.heap.objs.size:=by simpa using hb
 subst e
 exact I1.fpOk (Nat.le_refl _) (I1.hok.fresh (Nat.le_refl _))
theorem zgg {pins:List (Addr×Obj)} {σ:St} {H:Hp} {s:Shared} {R:It→Hp→Prop} {E:Value→Shared→Prop} {lo hi:Int} {t u v:Tok} {tk:Nat} (I:Inv X pins σ H s) (h1:-(2 ^ 62)≤lo) (h2:lo < 2 ^ 62) (h3:-(2 ^ 62)≤hi) (h4:hi < 2 ^ 62)
  (q:R (Itr lo (hi - lo).toNat) H):wpAny (model X.prog X.w) X.A (pyIter (.ref s.heap.objs.size)) (PIE X pins σ tg R) E { s with heap:=s.heap.push { cls:=.type "range",data:=.fields #[.int lo t,.int hi u,.int 1 v] },toks:=tk }:=by
 refine wpAny_pyIter_range (IsRange.new ..) (small_one h1 h2 h3 h4) ?_
 have I1:Inv X pins σ H { s with heap:=s.heap.push { cls:=.type "range",data:=.fields #[.int lo t,.int hi u,.int 1 v] },toks:=tk }:=I.kept fun b o e=>Heap.get?_push_of_some _ e
 refine⟨(s.heap.push { cls:=.type "range",data:=.fields #[.int lo t,.int hi u,.int 1 v] }).objs.size,[(s.heap.push { cls:=.type "range",data:=.fields #[.int lo t,.int hi u,.int 1 v] }).objs.size],_,_,H,rfl,
  I1.kept (t':=tk) fun b o e=>Heap.get?_push_of_some _ e,zg8 _ lo (hi - lo).toNat,?_,fun b hb=>?_,q⟩
 ·have e1:lo+((0:Nat):Int)*1=lo:=by simp
  have e2:(((hi - lo).toNat:Nat):Int) - ((0:Nat):Int)=Builtin.Range.rangeSize lo hi 1:=by rw [rangeSize_one]; split <;> omega
  show IsRangeIter _ _ (lo+((0:Nat):Int)*1) ((((hi - lo).toNat:Nat):Int) - ((0:Nat):Int)) 1
  rw [e1,e2]
  exact Heap.get?_push_size _ rfl
 ·have e:b=(s.heap.push { cls:=.type "range",data:=.fields #[.int lo t,.int hi u,.int 1 v] }).objs.size:=by simpa using hb
  subst e
  exact I1.fpOk (Nat.le_refl _) (I1.hok.fresh (Nat.le_refl _))
def znu (ta:TA):TI:=fun σ H R=>ta σ H fun vs H1=>∃ j:Int,vs = [.int j]∧-(2 ^ 62)≤j∧j < 2 ^ 62∧R (Itr 0 j.toNat) H1
def znv (ta:TA):TI:=fun σ H R=>ta σ H fun vs H1=>∃ i j:Int,vs = [.int i,.int j]∧(-(2 ^ 62)≤i∧i < 2 ^ 62∧-(2 ^ 62)≤j∧j < 2 ^ 62)∧R (Itr i (j - i).toNat) H1
theorem zH {a:Expr} {ta:TA} {p pos:Pos} (hg:Gl X "range") (hm:X.mg "range" = none) (ha:PA X [a] ta) (hs:starEach [a] X.env = [(false,eval a X.env)]:=by rfl):PI X tg (.Call (.Name "range" p) [a] [] pos) (znu ta):=by
 intro pins s σ H R I h
 refine Call_ (zba I hg hm boot_range (PyProof.Rows.callWith_type1 (thn (ha pos pins s σ H _ I h) fun us s1 ⟨vs,H1,I1,r1,q1⟩=>?_) hs rfl))
 obtain⟨j,e,q1,q2,q⟩:=q1
 subst e
 cases r1 with
 | cons r rr =>
  cases rr
  obtain⟨t,rfl⟩:=r
  exact call_range_1 (zgg I1 (by omega) (by omega) q1 q2 (by simpa using q))
theorem zcz {a b:Expr} {ta:TA} {p pos:Pos} (hg:Gl X "range") (hm:X.mg "range" = none) (ha:PA X [a,b] ta) (hs:starEach [a,b] X.env = [(false,eval a X.env),(false,eval b X.env)]:=by rfl) (hs2:starEach [b] X.env = [(false,eval b X.env)]:=by rfl) :
  PI X tg (.Call (.Name "range" p) [a,b] [] pos) (znv ta):=by
 intro pins s σ H R I h
 refine Call_ (zba I hg hm boot_range (PyProof.Rows.callWith_type1 (thn (ha pos pins s σ H _ I h) fun us s1 ⟨vs,H1,I1,r1,q1⟩=>?_) (by rw [hs,hs2]) (by rw [hs2]; rfl)))
 obtain⟨i,j,e,⟨q1,q2,q3,q4⟩,q⟩:=q1
 subst e
 cases r1 with
 | cons r rr =>
  cases rr with
  | cons r' rr =>
   cases rr
   obtain⟨t,rfl⟩:=r
   obtain⟨t',rfl⟩:=r'
   exact call_range_2 (zgg I1 q1 q2 q3 q4 q)
def zn5 (wi:TI) (g:TG) (tb:TS):TS:=fun D σ H=>wi σ H fun J H1=>∃ W:Nat→Nat→St→Hp→Prop,(∃ m,W 0 m σ H1)∧∀ i m σ H,W i m σ H →
 (J.stop i H∧D.nx σ H)∨(J.go i H∧∃ N:St→Hp→Prop,(∀ σ' H',N σ' H'→∃ m',m' < m∧W (i+1) m' σ' H')∧∀ x H',J.yld i H x H'→g x σ H' fun σ2 H2=>tb { D with nx:=N,ct:=N,bk:=D.nx } σ2 H2)
def zcj (fp:List Addr) (h:Heap):List (Addr×Obj):=fp.filterMap fun b=>(h.get? b).map fun o=>(b,o)
theorem zb0 {fp:List Addr} {h:Heap} {b:Addr} {o:Obj} (hb:b∈fp) (e:h.get? b=some o):(b,o)∈zcj fp h:=List.mem_filterMap.mpr ⟨b,hb,by rw [e]; rfl⟩
theorem ze6 {fp:List Addr} {h:Heap} {p:Addr×Obj} (hp:p∈zcj fp h):p.1∈fp∧h.get? p.1=some p.2:=by
 obtain⟨b,hb,e⟩:=List.mem_filterMap.mp hp
 cases q:h.get? b with
 | none=>rw [q] at e; cases e
 | some o =>
  rw [q] at e
  have e':(b,o)=p:=Option.some.inj e
  subst e'
  exact⟨hb,q⟩
theorem Inv.pinned {pins:List (Addr×Obj)} {σ:St} {H:Hp} {s:Shared} {fp:List Addr} (I:Inv X pins σ H s) (hf:∀ b∈fp,zbE X pins H b) (ho:∀ b∈fp,∃ o,s.heap.get? b=some o∧∀ v,o.data≠.cell v):Inv X (pins++zcj fp s.heap) σ H s :=
 I.pins_of fun p hp=>(List.mem_append.mp hp).elim (fun z=>I.pin p (List.mem_append_right _ z)) fun z=>by
  obtain⟨hb,e⟩:=ze6 z
  obtain⟨f0,f1,f2,_⟩:=hf p.1 hb
  obtain⟨o,e',d⟩:=ho p.1 hb
  rw [e] at e'; cases e'
  exact⟨e,f0,f1,f2,d⟩
theorem Inv.unpinned {pins pl:List (Addr×Obj)} {σ:St} {H:Hp} {s:Shared} (I:Inv X (pins++pl) σ H s):Inv X pins σ H s:=I.pins_of fun p hp=>I.pin p (List.mem_append_right _ (List.mem_append_left _ hp))
theorem zal {iter:Expr} {body:List Stmt} {wi:TI} {g:TG} {tb:TS} {pos:Pos} (hp:PassesOwn (model X.prog X.w) X.A X.env X.xe) (hc:X.calm=true) (hi:PI X tg iter wi) (hg:PG X tg g) (hb:PSs X body tb)
  (hs:∀ x,foldedSetIterable iter X.env x=pure x:=by intro _; rfl):PS X (.For tg iter body [] pos) (zn5 wi g tb):=by
 intro pins s σ H D I h
 refine wpAny_For (thn (hi pins s σ H _ I h) fun v s1 h1=>thn h1 fun itv s2 h2=>?_) hs
 obtain⟨it,fp,tn,J,H2,e,I2,T,st2,f2,W,⟨m0,w0⟩,turn⟩:=h2
 subst e
 have stat:∀ {H':Hp},(∀ b∈fp,H' b=none)→∀ b∈fp,zbE X pins H' b:=fun hn b hb=>⟨hn b hb,(f2 b hb).2⟩
 refine codeAny_forLoop_any (fun n s'=>∃ i σ' H',Inv X pins σ' H' s'∧tn i s'.heap∧(∀ b∈fp,H' b=none)∧W i n σ' H') ?_ m0 ⟨0,σ,H2,I2,st2,fun b hb=>(f2 b hb).1,w0⟩
 rintro n s3 ⟨i,σ3,H3,I3,st3,fr3,w3⟩
 rcases turn i n σ3 H3 w3 with ⟨stop,qn⟩ | ⟨go,N,hN,step⟩
 ·refine wpAny_passesOwn hp (thn (T.done X rfl rfl rfl hc i pins s3 σ3 H3 X.xe I3 (stat fr3) st3 stop) fun r s4 ⟨hr,I4⟩=>?_)
  subst hr
  exact wpAny_execs_nil ⟨σ3,H3,I4,qn⟩
 ·refine wpAny_passesOwn hp (thn (T.item X rfl rfl rfl hc i pins s3 σ3 H3 X.xe I3 (stat fr3) st3 go) fun r s4 ⟨u,hr,h4⟩=>?_)
  subst hr
  refine wpAny_passesOwn hp (thn h4 fun _ s5 ⟨x,H5,I5,r5,y5,st5,fr5⟩=>?_)
  have I5':=I5.pinned (stat fr5) (T.obj _ _ st5)
  refine wpAny_passesOwn hp (thn (hg _ s5 σ3 H5 x u _ I5' r5 (step x H5 y5)) fun _ s6 ⟨σ6,H6,I6,q6⟩=>?_)
  refine wpAny_passesOwn hp (thn (hb _ s6 σ6 H6 _ I6 q6) fun f s7 q7=>?_)
  have again:∀ {σ7:St} {H7:Hp},Inv X (pins++zcj fp s5.heap) σ7 H7 s7→N σ7 H7→∃ m,m < n∧∃ i σ' H',Inv X pins σ' H' s7∧tn i s7.heap∧(∀ b∈fp,H' b=none)∧W i m σ' H':=fun {σ7 H7} I7 n7=>by
   obtain⟨m',hm,w7⟩:=hN σ7 H7 n7
   refine⟨m',hm,i+1,σ7,H7,I7.unpinned,T.keep _ _ _ st5 fun b hb o e=>(I7.pin (b,o) (List.mem_append_right _ (List.mem_append_right _ (zb0 hb e)))).1,fun b hb=>?_,w7⟩
   obtain⟨o,e,d⟩:=T.obj _ _ st5 b hb
   exact (I7.pin (b,o) (List.mem_append_right _ (List.mem_append_right _ (zb0 hb e)))).2.1
  cases f with
  | next=>obtain⟨σ7,H7,I7,n7⟩:=q7; exact again I7 n7
  | cont=>obtain⟨σ7,H7,I7,n7⟩:=q7; exact again I7 n7
  | brk=>obtain⟨σ7,H7,I7,q7⟩:=q7; exact⟨σ7,H7,I7.unpinned,q7⟩
  | ret v=>obtain⟨x7,σ7,H7,I7,r7,q7⟩:=q7; exact⟨x7,σ7,H7,I7.unpinned,r7,q7⟩
end
theorem zbN {K:PySem.W.Frag} {a:Addr} {xs:List V} {g:TG} {tb:TS} {D:Ends} {σ:St} {H:Hp} (Pv:Nat→St→Hp→Prop) (h0:Pv 0 σ H) (hl:∀ i σ H,i≤xs.length→Pv i σ H→SqL K H a xs)
  (hs:∀ i x σ H,xs[i]? = some x→Pv i σ H→g x σ H fun σ2 H2=>tb { D with nx:=Pv (i+1),ct:=Pv (i+1),bk:=D.nx } σ2 H2) (hd:∀ σ H,Pv xs.length σ H→D.nx σ H) :
  ∃ W:Nat→Nat→St→Hp→Prop,(∃ m,W 0 m σ H)∧∀ i m σ H,W i m σ H →
   ((Itl K a).stop i H∧D.nx σ H)∨((Itl K a).go i H∧∃ N:St→Hp→Prop,(∀ σ' H',N σ' H'→∃ m',m' < m∧W (i+1) m' σ' H')∧∀ x H',(Itl K a).yld i H x H'→g x σ H' fun σ2 H2=>tb { D with nx:=N,ct:=N,bk:=D.nx } σ2 H2):=by
 refine⟨fun i m σ H=>m=xs.length - i∧i≤xs.length∧Pv i σ H,⟨xs.length,by simp,Nat.zero_le _,h0⟩,?_⟩
 rintro i m σ H ⟨rfl,hi,p⟩
 have q:=hl i σ H hi p
 by_cases hlt:i < xs.length
 ·refine .inr ⟨⟨xs,xs[i],q,by simp [hlt]⟩,Pv (i+1),fun σ' H' p'=>⟨xs.length - (i+1),by omega,rfl,hlt,p'⟩,fun x H' y=>?_⟩
  obtain⟨e,y⟩:=y
  subst e
  exact hs i x σ _ (y xs q) p
 ·have e:i=xs.length:=by omega
  subst e
  exact .inl ⟨⟨xs,q,Nat.le_refl _⟩,hd σ H p⟩
theorem zk4 {K:PySem.W.Frag} {a:Addr} {xs:List V} {g:TG} {tb:TS} {D:Ends} {σ:St} {H:Hp} (Pv:Nat→St→Hp→Prop) (h0:Pv 0 σ H) (hl:∀ i σ H,i≤xs.length→Pv i σ H→SqT K H a xs)
  (hs:∀ i x σ H,xs[i]? = some x→Pv i σ H→g x σ H fun σ2 H2=>tb { D with nx:=Pv (i+1),ct:=Pv (i+1),bk:=D.nx } σ2 H2) (hd:∀ σ H,Pv xs.length σ H→D.nx σ H) :
  ∃ W:Nat→Nat→St→Hp→Prop,(∃ m,W 0 m σ H)∧∀ i m σ H,W i m σ H →
   ((Itt K a).stop i H∧D.nx σ H)∨((Itt K a).go i H∧∃ N:St→Hp→Prop,(∀ σ' H',N σ' H'→∃ m',m' < m∧W (i+1) m' σ' H')∧∀ x H',(Itt K a).yld i H x H'→g x σ H' fun σ2 H2=>tb { D with nx:=N,ct:=N,bk:=D.nx } σ2 H2):=by
 refine⟨fun i m σ H=>m=xs.length - i∧i≤xs.length∧Pv i σ H,⟨xs.length,by simp,Nat.zero_le _,h0⟩,?_⟩
 rintro i m σ H ⟨rfl,hi,p⟩
 have q:=hl i σ H hi p
 by_cases hlt:i < xs.length
 ·refine .inr ⟨⟨xs,xs[i],q,by simp [hlt]⟩,Pv (i+1),fun σ' H' p'=>⟨xs.length - (i+1),by omega,rfl,hlt,p'⟩,fun x H' y=>?_⟩
  obtain⟨e,y⟩:=y
  subst e
  exact hs i x σ _ (y xs q) p
 ·have e:i=xs.length:=by omega
  subst e
  exact .inl ⟨⟨xs,q,Nat.le_refl _⟩,hd σ H p⟩
theorem zad {lo:Int} {n:Nat} {g:TG} {tb:TS} {D:Ends} {σ:St} {H:Hp} (Pv:Nat→St→Hp→Prop) (h0:Pv 0 σ H)
  (hs:∀ i σ H,i < n→Pv i σ H→g (.int (lo+i)) σ H fun σ2 H2=>tb { D with nx:=Pv (i+1),ct:=Pv (i+1),bk:=D.nx } σ2 H2) (hd:∀ σ H,Pv n σ H→D.nx σ H) :
  ∃ W:Nat→Nat→St→Hp→Prop,(∃ m,W 0 m σ H)∧∀ i m σ H,W i m σ H →
   ((Itr lo n).stop i H∧D.nx σ H)∨((Itr lo n).go i H∧∃ N:St→Hp→Prop,(∀ σ' H',N σ' H'→∃ m',m' < m∧W (i+1) m' σ' H')∧∀ x H',(Itr lo n).yld i H x H'→g x σ H' fun σ2 H2=>tb { D with nx:=N,ct:=N,bk:=D.nx } σ2 H2):=by
 refine⟨fun i m σ H=>m=n - i∧i≤n∧Pv i σ H,⟨n,by simp,Nat.zero_le _,h0⟩,?_⟩
 rintro i m σ H ⟨rfl,hi,p⟩
 by_cases hlt:i < n
 ·refine .inr ⟨hlt,Pv (i+1),fun σ' H' p'=>⟨n - (i+1),by omega,rfl,hlt,p'⟩,fun x H' y=>?_⟩
  obtain⟨e,y⟩:=y
  subst e y
  exact hs i σ _ hlt p
 ·have e:i=n:=by omega
  subst e
  exact .inl ⟨Nat.le_refl _,hd σ H p⟩
theorem zjt {c:TT} {tb:TS} {D:Ends} {σ:St} {H:Hp} (Pv:St→Hp→Prop) (μ:St→Hp→Nat) (h0:Pv σ H)
  (hs:∀ σ H,Pv σ H→c σ H fun b H1=>if b=true then tb { D with nx:=fun σ' H'=>Pv σ' H'∧μ σ' H' < μ σ H,ct:=fun σ' H'=>Pv σ' H'∧μ σ' H' < μ σ H,bk:=D.nx } σ H1 else D.nx σ H1)
  (mono:∀ σ H Q Q',(∀ b H1,Q b H1→Q' b H1)→c σ H Q→c σ H Q'):zjs c tb D σ H:=by
 refine⟨fun m σ H=>m=μ σ H∧Pv σ H,⟨_,rfl,h0⟩,?_⟩
 rintro m σ H ⟨rfl,p⟩
 refine mono σ H _ _ (fun b H1 q=>?_) (hs σ H p)
 cases b with
 | true=>exact⟨_,fun σ' H' ⟨p',l⟩=>⟨_,l,rfl,p'⟩,q⟩
 | false=>exact q
abbrev R2:=V→V→Hp→VK→Prop
def OpR (X:Cx) (f:Value→Value→Sem Value) (r:R2):Prop :=
 ∀ (pins:List (Addr×Obj)) (s:Shared) (σ:St) (H:Hp) (x y:V) (v u:Value) (Q:VK),Inv X pins σ H s→RelV x v→RelV y u→r x y H Q →
  wpAny (model X.prog X.w) X.A (f v u) (EP X pins σ Q) X.xe s
def UnR (X:Cx) (f:Value→Sem Value) (r:V→Hp→VK→Prop):Prop :=
 ∀ (pins:List (Addr×Obj)) (s:Shared) (σ:St) (H:Hp) (x:V) (v:Value) (Q:VK),Inv X pins σ H s→RelV x v→r x H Q →
  wpAny (model X.prog X.w) X.A (f v) (EP X pins σ Q) X.xe s
def zbh (X:Cx) (f:Value) (r:List V→Hp→VK→Prop):Prop :=
 ∀ (pins:List (Addr×Obj)) (s:Shared) (σ:St) (H:Hp) (xs:List V) (us:List Value) (Q:VK),Inv X pins σ H s→zK xs us→r xs H Q →
  wpAny (model X.prog X.w) X.A (call f us) (EP X pins σ Q) X.xe s
def zn6 (X:Cx) (r:V→Hp→(Bool→Hp→Prop)→Prop):Prop :=
 ∀ (pins:List (Addr×Obj)) (s:Shared) (σ:St) (H:Hp) (x:V) (v:Value) (Q:Bool→Hp→Prop),Inv X pins σ H s→RelV x v→r x H Q →
  wpAny (model X.prog X.w) X.A (truthy v) (TP X pins σ Q) X.xe s
def tOp (r:R2) (ta tb:TE):TE:=fun σ H Q=>ta σ H fun x H1=>tb σ H1 fun y H2=>r x y H2 Q
def tUn (r:V→Hp→VK→Prop) (ta:TE):TE:=fun σ H Q=>ta σ H fun x H1=>r x H1 Q
def rI (C:Int→Int→Prop) (g:Int→Int→V):R2:=fun x y H Q=>∃ i j,x = .int i∧y = .int j∧C i j∧Q (g i j) H
def rI0 (g:Int→Int→V):R2:=fun x y H Q=>∃ i j,x = .int i∧y = .int j∧Q (g i j) H
def rU (g:Int→V):V→Hp→VK→Prop:=fun x H Q=>∃ i,x = .int i∧Q (g i) H
section
variable {X:Cx} {a b c:Expr} {ta tb tc:TE} {pos:Pos}
theorem zmy (ha:PE X a ta) (hb:PE X b tb) {pins:List (Addr×Obj)} {s:Shared} {σ:St} {H:Hp} {R:V→V→Hp→Prop} (I:Inv X pins σ H s)
  (h:ta σ H fun x H1=>tb σ H1 fun y H2=>R x y H2) {Q:Value→Shared→Prop} {f:Value→Value→Sem Value}
  (hf:∀ v u s2 x y H2,Inv X pins σ H2 s2→RelV x v→RelV y u→R x y H2→wpAny (model X.prog X.w) X.A (f v u) Q X.xe s2) :
  wpAny (model X.prog X.w) X.A (eval a X.env) (fun v s₁=>wpAny (model X.prog X.w) X.A (eval b X.env) (fun u s₂=>wpAny (model X.prog X.w) X.A (f v u) Q X.xe s₂) X.xe s₁) X.xe s:=by
 refine thn (ha pins s σ H _ I h) fun v s1 ⟨x,H1,I1,r1,q1⟩=>?_
 refine thn (hb pins s1 σ H1 _ I1 q1) fun u s2 ⟨y,H2,I2,r2,q2⟩=>?_
 exact hf v u s2 x y H2 I2 r1 r2 q2
theorem zi {op:Operator} {r:R2} (ho:OpR X (binaryOp op) r) (ha:PE X a ta) (hb:PE X b tb):PE X (.BinOp a op b pos) (tOp r ta tb):=by
 intro pins s σ H Q I h
 exact wpAny_BinOp (zmy ha hb I h fun v u s2 x y H2 I2 rx ry q=>ho pins s2 σ H2 x y v u Q I2 rx ry q)
theorem zju {op:UnaryOp} {r:V→Hp→VK→Prop} (ho:UnR X (unaryOp op) r) (ha:PE X a ta):PE X (.UnaryOp op a pos) (tUn r ta):=by
 intro pins s σ H Q I h
 exact UnaryOp_ (thn (ha pins s σ H _ I h) fun v s1 ⟨x,H1,I1,r1,q1⟩=>ho pins s1 σ H1 x v Q I1 r1 q1)
theorem opI {f:Value→Value→Sem Value} {C:Int→Int→Prop} {g:Int→Int→Int}
  (rule:∀ (i j:Int) (t u:Tok) (s:Shared) (Q:Value→Shared→Prop) (E:Value→Shared→Prop),C i j→Q (.int (g i j) s.toks) { s with toks:=s.toks+1 }→wpAny (model X.prog X.w) X.A (f (.int i t) (.int j u)) Q E s) :
  OpR X f (rI C fun i j=>.int (g i j)):=by
 intro pins s σ H x y v u Q I rx ry h
 obtain⟨i,j,rfl,rfl,hc,q⟩:=h
 obtain⟨t,rfl⟩:=rx
 obtain⟨t',rfl⟩:=ry
 exact rule i j t t' s _ _ hc ⟨.int (g i j),H,I.tok _,⟨_,rfl⟩,q⟩
theorem zmz {f:Value→Value→Sem Value} {g:Int→Int→Int}
  (rule:∀ (i j:Int) (t u:Tok) (s:Shared) (Q:Value→Shared→Prop) (E:Value→Shared→Prop),Q (.int (g i j) s.toks) { s with toks:=s.toks+1 }→wpAny (model X.prog X.w) X.A (f (.int i t) (.int j u)) Q E s) :
  OpR X f (rI0 fun i j=>.int (g i j)):=by
 intro pins s σ H x y v u Q I rx ry h
 obtain⟨i,j,rfl,rfl,q⟩:=h
 obtain⟨t,rfl⟩:=rx
 obtain⟨t',rfl⟩:=ry
 exact rule i j t t' s _ _ ⟨.int (g i j),H,I.tok _,⟨_,rfl⟩,q⟩
theorem zk5 {f:Value→Value→Sem Value} {g:Int→Int→Bool}
  (rule:∀ (i j:Int) (t u:Tok) (s:Shared) (Q:Value→Shared→Prop) (E:Value→Shared→Prop),Q (.bool (g i j)) s→wpAny (model X.prog X.w) X.A (f (.int i t) (.int j u)) Q E s) :
  OpR X f (rI0 fun i j=>.bl (g i j)):=by
 intro pins s σ H x y v u Q I rx ry h
 obtain⟨i,j,rfl,rfl,q⟩:=h
 obtain⟨t,rfl⟩:=rx
 obtain⟨t',rfl⟩:=ry
 exact rule i j t t' s _ _ ⟨.bl (g i j),H,I,rfl,q⟩
def znw (i j:Int):Prop:=0 < j∧j < 1073741824
def zn7 (i j:Int):Prop:=0≤j∧j≤1000000∧i.natAbs < 2 ^ 64
def zmA (i j:Int):Prop:=(-(2 ^ 64) < i∧i < 2 ^ 64)∨(-(2 ^ 64) < j∧j < 2 ^ 64)
theorem zmA.ok {i j:Int} (h:zmA i j):IntMulOk i j:=by
 rcases h with ⟨h1,h2⟩ | ⟨h1,h2⟩
 ·exact .of_left (intBits_le_64 h1 h2)
 ·exact .of_right (intBits_le_64 h1 h2)
theorem zG:OpR X (binaryOp .Add) (rI0 fun i j=>.int (i+j)):=zmz fun _ _ _ _ _ _ _ q=>add_int q
theorem zR:OpR X (binaryOp .Sub) (rI0 fun i j=>.int (i - j)):=zmz fun _ _ _ _ _ _ _ q=>sub_int q
theorem zD:OpR X (binaryOp .Mult) (rI zmA fun i j=>.int (i*j)):=opI fun _ _ _ _ _ _ _ hc q=>mul_int q hc.ok
theorem zaV:OpR X (binaryOp .FloorDiv) (rI znw fun i j=>.int (i / j)):=opI fun i j _ _ _ _ _ hc q=>by
 have h1:(0:Int) < j:=hc.1
 have h2:j < 1073741824:=hc.2
 exact floordiv_int (by omega) (by rw [Int.fdiv_eq_ediv_of_nonneg i (by omega)]; exact q) (.inl (PyProof.noPylong_small (by omega)))
theorem zE:OpR X (binaryOp .Mod) (rI (fun _ j=>0 < j) fun i j=>.int (i % j)):=opI fun i j _ _ _ _ _ hc q=>by
 have h1:(0:Int) < j:=hc
 exact mod_int' (by omega) (by rw [Int.fmod_eq_emod_of_nonneg i (by omega)]; exact q)
theorem zmB:OpR X (binaryOp .Pow) (rI zn7 fun i j=>.int (i ^ j.toNat)):=opI fun _ _ _ _ _ _ _ hc q=>pow_int_small hc.1 hc.2.1 hc.2.2 q
theorem zk6:OpR X (inplaceOp .Add) (rI0 fun i j=>.int (i+j)):=zmz fun _ _ _ _ _ _ _ q=>iadd_int q
theorem zjv:OpR X (inplaceOp .FloorDiv) (rI znw fun i j=>.int (i / j)):=opI fun i j _ _ _ _ _ hc q=>by
 have h1:(0:Int) < j:=hc.1
 have h2:j < 1073741824:=hc.2
 exact ifloordiv_int (by omega) (by rw [Int.fdiv_eq_ediv_of_nonneg i (by omega)]; exact q) (.inl (PyProof.noPylong_small (by omega)))
theorem unI {f:Value→Sem Value} {g:Int→Int}
  (rule:∀ (i:Int) (t:Tok) (s:Shared) (Q:Value→Shared→Prop) (E:Value→Shared→Prop),Q (.int (g i) s.toks) { s with toks:=s.toks+1 }→wpAny (model X.prog X.w) X.A (f (.int i t)) Q E s) :
  UnR X f (rU fun i=>.int (g i)):=by
 intro pins s σ H x v Q I rx h
 obtain⟨i,rfl,q⟩:=h
 obtain⟨t,rfl⟩:=rx
 exact rule i t s _ _ ⟨.int (g i),H,I.tok _,⟨_,rfl⟩,q⟩
theorem zg9:UnR X (unaryOp .USub) (rU fun i=>.int (-i)):=unI fun _ _ _ _ _ q=>neg_int q
end
def znx:V→V→Bool
 | .non,.non=>true | .non,.int _=>true | .int _,.non=>true | .non,.bl _=>true | .bl _,.non=>true | .non,.str _=>true | .str _,.non=>true
 | .int _,.int _=>true | .bl _,.bl _=>true | .str _,.str _=>true | .byt _,.byt _=>true
 | .int _,.str _=>true | .str _,.int _=>true | .bl _,.str _=>true | .str _,.bl _=>true
 | _,_=>false
def rEq:R2:=fun x y H Q=>znx x y=true∧Q (.bl (decide (x=y))) H
def rNe:R2:=fun x y H Q=>znx x y=true∧Q (.bl (!decide (x=y))) H
theorem zhS {i j:Int}:decide (V.int i=V.int j)=(i == j):=by
 rw [Bool.eq_iff_iff]
 simp
theorem zjw {i j:Bool}:decide (V.bl i=V.bl j)=(i == j):=by
 rw [Bool.eq_iff_iff]
 simp
theorem zhT {i j:Str}:decide (V.str i=V.str j)=(i == j):=by
 rw [Bool.eq_iff_iff]
 simp
theorem zhU {i j:Array UInt8}:decide (V.byt i=V.byt j)=(i.toList == j.toList):=by
 rw [Bool.eq_iff_iff]
 cases i
 cases j
 simp
section
variable {X:Cx} {a b c:Expr} {ta tb tc:TE} {pos:Pos}
theorem zX {pins:List (Addr×Obj)} {σ:St} {H:Hp} {s:Shared} {Q:VK} {k k':Bool} (I:Inv X pins σ H s) (q:Q (.bl k) H) (e:k=k'):EP X pins σ Q (.bool k') s:=by
 subst e
 exact⟨.bl k,H,I,rfl,q⟩
theorem zdE:OpR X (compareOp .Eq) rEq:=by
 intro pins s σ H x y v u Q I rx ry h
 obtain⟨hs,q⟩:=h
 cases x with
 | non =>
  cases rx
  cases y with
  | non=>cases ry; exact PySem.EqNone.eq_none_none (zX I q (by simp))
  | bl j=>cases ry; exact PySem.EqNone.eq_none_bool (zX I q (by simp))
  | int j=>obtain⟨t',rfl⟩:=ry; exact PySem.EqNone.eq_none_int (zX I q (by simp))
  | str j=>obtain⟨t',rfl⟩:=ry; exact PySem.EqNone.eq_none_str (zX I q (by simp))
  | _=>exact absurd (show false=true from hs) Bool.false_ne_true
 | bl i =>
  cases rx
  cases y with
  | non=>cases ry; exact PySem.EqNone.eq_bool_none (zX I q (by simp))
  | bl j=>cases ry; exact eq_bool (zX I q zjw)
  | str j=>obtain⟨t',rfl⟩:=ry; exact PySem.EqMixed.eq_bool_str (zX I q (by simp))
  | _=>exact absurd (show false=true from hs) Bool.false_ne_true
 | int i =>
  obtain⟨t,rfl⟩:=rx
  cases y with
  | non=>cases ry; exact PySem.EqNone.eq_int_none (zX I q (by simp))
  | int j=>obtain⟨t',rfl⟩:=ry; exact eq_int (zX I q zhS)
  | str j=>obtain⟨t',rfl⟩:=ry; exact PySem.EqMixed.eq_int_str (zX I q (by simp))
  | _=>exact absurd (show false=true from hs) Bool.false_ne_true
 | str i =>
  obtain⟨t,rfl⟩:=rx
  cases y with
  | non=>cases ry; exact PySem.EqNone.eq_str_none (zX I q (by simp))
  | bl j=>cases ry; exact PySem.EqMixed.eq_str_bool (zX I q (by simp))
  | int j=>obtain⟨t',rfl⟩:=ry; exact PySem.EqMixed.eq_str_int (zX I q (by simp))
  | str j=>obtain⟨t',rfl⟩:=ry; exact eq_str (zX I q zhT)
  | _=>exact absurd (show false=true from hs) Bool.false_ne_true
 | byt i =>
  obtain⟨t,rfl⟩:=rx
  cases y with
  | byt j=>obtain⟨t',rfl⟩:=ry; exact PySem.W.eq_bytes (zX I q zhU)
  | _=>exact absurd (show false=true from hs) Bool.false_ne_true
 | _=>cases y <;> exact absurd (show false=true from hs) Bool.false_ne_true
theorem zc1:OpR X (compareOp .NotEq) rNe:=by
 intro pins s σ H x y v u Q I rx ry h
 obtain⟨hs,q⟩:=h
 cases x with
 | non =>
  cases rx
  cases y with
  | non=>cases ry; exact PySem.EqNone.ne_none_none (zX I q (by simp))
  | bl j=>cases ry; exact PySem.EqNone.ne_none_bool (zX I q (by simp))
  | int j=>obtain⟨t',rfl⟩:=ry; exact PySem.EqNone.ne_none_int (zX I q (by simp))
  | str j=>obtain⟨t',rfl⟩:=ry; exact PySem.EqNone.ne_none_str (zX I q (by simp))
  | _=>exact absurd (show false=true from hs) Bool.false_ne_true
 | bl i =>
  cases rx
  cases y with
  | non=>cases ry; exact PySem.EqNone.ne_bool_none (zX I q (by simp))
  | bl j=>cases ry; exact ne_bool (zX I q (congrArg not zjw))
  | str j=>obtain⟨t',rfl⟩:=ry; exact PySem.EqMixed.ne_bool_str (zX I q (by simp))
  | _=>exact absurd (show false=true from hs) Bool.false_ne_true
 | int i =>
  obtain⟨t,rfl⟩:=rx
  cases y with
  | non=>cases ry; exact PySem.EqNone.ne_int_none (zX I q (by simp))
  | int j=>obtain⟨t',rfl⟩:=ry; exact ne_int (zX I q (congrArg not zhS))
  | str j=>obtain⟨t',rfl⟩:=ry; exact PySem.EqMixed.ne_int_str (zX I q (by simp))
  | _=>exact absurd (show false=true from hs) Bool.false_ne_true
 | str i =>
  obtain⟨t,rfl⟩:=rx
  cases y with
  | non=>cases ry; exact PySem.EqNone.ne_str_none (zX I q (by simp))
  | bl j=>cases ry; exact PySem.EqMixed.ne_str_bool (zX I q (by simp))
  | int j=>obtain⟨t',rfl⟩:=ry; exact PySem.EqMixed.ne_str_int (zX I q (by simp))
  | str j=>obtain⟨t',rfl⟩:=ry; exact ne_str (zX I q (congrArg not zhT))
  | _=>exact absurd (show false=true from hs) Bool.false_ne_true
 | byt i =>
  obtain⟨t,rfl⟩:=rx
  cases y with
  | byt j=>obtain⟨t',rfl⟩:=ry; exact PySem.W.ne_bytes (zX I q (congrArg not zhU))
  | _=>exact absurd (show false=true from hs) Bool.false_ne_true
 | _=>cases y <;> exact absurd (show false=true from hs) Bool.false_ne_true
theorem zei:OpR X (compareOp .Lt) (rI0 fun i j=>.bl (decide (i < j))):=zk5 fun _ _ _ _ _ _ _ q=>lt_int q
theorem zl7:OpR X (compareOp .LtE) (rI0 fun i j=>.bl (decide (i≤j))):=zk5 fun _ _ _ _ _ _ _ q=>le_int q
theorem zhV:OpR X (compareOp .Gt) (rI0 fun i j=>.bl (decide (j < i))):=zk5 fun _ _ _ _ _ _ _ q=>gt_int q
theorem zej:OpR X (compareOp .GtE) (rI0 fun i j=>.bl (decide (j≤i))):=zk5 fun _ _ _ _ _ _ _ q=>ge_int q
theorem zhW:OpR X (compareOp .IsNot) (fun x y H Q=>y = .non∧Q (.bl (!decide (x = .non))) H):=by
 intro pins s σ H x y v u Q I rx ry h
 obtain⟨rfl,q⟩:=h
 cases ry
 refine isnot_none_gen (zX I q ?_)
 cases x <;> first
  | (cases rx; rfl)
  | (obtain⟨t,rfl⟩:=rx; rfl)
theorem zL (b:Expr) {op:CmpOp} (h:op≠.In:=by decide) (h2:op≠.NotIn:=by decide):behindInMarks op b=false:=by
 have e1:(op == CmpOp.In)=false:=by cases op <;> first | rfl | exact absurd rfl h
 have e2:(op == CmpOp.NotIn)=false:=by cases op <;> first | rfl | exact absurd rfl h2
 cases b <;> simp [behindInMarks,e1,e2]
theorem zc2 {op:CmpOp} {r:R2} (ho:OpR X (compareOp op) r) (ha:PE X a ta) (hb:PE X b tb) (hm:behindInMarks op b=false):PE X (.Compare a [op] [b] pos) (tOp r ta tb):=by
 intro pins s σ H Q I h
 exact wpAny_Compare1 (zmy ha hb I h fun v u s2 x y H2 I2 rx ry q=>ho pins s2 σ H2 x y v u Q I2 rx ry q) hm
def zl8 (t:TE):TT:=fun σ H Q=>t σ H fun x H'=>∃ k,x = .bl k∧Q k H'
theorem zC {op:CmpOp} {r:R2} (ho:OpR X (compareOp op) r) (ha:PE X a ta) (hb:PE X b tb) (hm:behindInMarks op b=false):PT X (.Compare a [op] [b] pos) (zl8 (tOp r ta tb)):=by
 intro pins s σ H Q I h
 refine wpAny_isTrue_Compare1 (thn (ha pins s σ H _ I h) fun v s1 ⟨x,H1,I1,r1,q1⟩=>thn (hb pins s1 σ H1 _ I1 q1) fun u s2 ⟨y,H2,I2,r2,q2⟩ =>
  thn (ho pins s2 σ H2 x y v u _ I2 r1 r2 q2) fun c s3 ⟨z,H3,I3,r3,k,e,q3⟩=>?_) hm
 subst e
 cases r3
 exact wpAny_truthy_bool ⟨H3,I3,q3⟩
def zmC (r r':R2) (ta tb tc:TE):TE:=fun σ H Q=>ta σ H fun x H1=>tb σ H1 fun y H2=>r x y H2 fun z H3=>∃ k,z = .bl k ∧
 (if k=true then tc σ H3 fun w' H4=>r' y w' H4 Q else Q (.bl false) H3)
theorem zjx {op op':CmpOp} {r r':R2} (ho:OpR X (compareOp op) r) (ho':OpR X (compareOp op') r') (ha:PE X a ta) (hb:PE X b tb) (hc:PE X c tc)
  (hm:lastMarks [op,op'] [b,c]=false:=by with_unfolding_all rfl):PT X (.Compare a [op,op'] [b,c] pos) (zl8 (zmC r r' ta tb tc)):=by
 intro pins s σ H Q I h
 refine isTrue_chain (thn (ha pins s σ H _ I h) fun v s1 ⟨x,H1,I1,r1,q1⟩=>test_link (thn (hb pins s1 σ H1 _ I1 q1) fun u s2 ⟨y,H2,I2,r2,q2⟩ =>
  thn (ho pins s2 σ H2 x y v u _ I2 r1 r2 q2) fun d s3 ⟨z,H3,I3,r3,k,e,q3⟩=>?_)) hm
 subst e
 cases r3
 refine wpAny_truthy_bool ?_
 cases k with
 | false =>
  obtain⟨k',e',q'⟩:=q3
  cases e'
  exact ite_ff ⟨H3,I3,q'⟩
 | true =>
  refine ite_tt (test_last (thn (hc pins s3 σ H3 _ I3 q3) fun w' s4 ⟨z',H4,I4,r4,q4⟩=>thn (ho' pins s4 σ H4 y z' u w' _ I4 r2 r4 q4) fun d' s5 ⟨z2,H5,I5,r5,k2,e2,q5⟩=>?_))
  subst e2
  cases r5
  exact wpAny_truthy_bool ⟨H5,I5,q5⟩
def zny (K:PySem.W.Frag) (x:V) (H:Hp) (k:Bool):Prop :=
 match x with
 | .non=>k=false
 | .bl b=>k=b
 | .int i=>k=(i != 0)
 | .str y=>y.length≤sizeLine∧k=((y.length:Int) != 0)
 | .byt y=>y.size≤sizeLine∧k=((y.size:Int) != 0)
 | .ref p=>(∃ xs,SqL K H p xs∧k = !xs.isEmpty)∨(∃ xs,SqT K H p xs∧k = !xs.isEmpty)∨∃ kvs,H p=some (.dK kvs)∧k = !kvs.isEmpty
 | _=>False
theorem zha {κ:Type} {kvs:List (κ×V)} {vs:List (κ×Value)} (r:KV kvs vs):(!vs.isEmpty) = !kvs.isEmpty:=by
 cases r <;> rfl
theorem zek {xs:List V} {its:List Value} (r:zK xs its):(!its.toArray.isEmpty) = !xs.isEmpty:=by
 cases r <;> simp
theorem zel:(sizeLine:Nat) < 2 ^ 63:=by rw [sizeLine_eq]; decide
theorem zmD:zn6 X (fun x H Q=>∃ k,zny X.K x H k∧Q k H):=by
 intro pins s σ H x v Q I rx h
 obtain⟨k,e,q⟩:=h
 have hl:=zel
 have hs:sizeLine=16777216:=sizeLine_eq
 cases x with
 | non =>
  cases rx
  have e':k=false:=e
  subst e'
  exact truthy_none ⟨H,I,q⟩
 | bl b =>
  cases rx
  have e':k=b:=e
  subst e'
  exact wpAny_truthy_bool ⟨H,I,q⟩
 | int i =>
  obtain⟨t,rfl⟩:=rx
  have e':k=(i != 0):=e
  subst e'
  exact PySem.P.truthy_int ⟨H,I,q⟩
 | str y =>
  obtain⟨t,rfl⟩:=rx
  obtain⟨hy,e'⟩:y.length≤sizeLine∧k=((y.length:Int) != 0):=e
  subst e'
  exact PySem.P.truthy_str (by omega) ⟨H,I.tok _,q⟩
 | byt y =>
  obtain⟨t,rfl⟩:=rx
  obtain⟨hy,e'⟩:y.size≤sizeLine∧k=((y.size:Int) != 0):=e
  subst e'
  exact PySem.W.truthy_bytes (by omega) ⟨H,I.tok _,q⟩
 | ref p =>
  cases rx
  have e':(∃ xs,SqL X.K H p xs∧k = !xs.isEmpty)∨(∃ xs,SqT X.K H p xs∧k = !xs.isEmpty)∨∃ kvs,H p=some (.dK kvs)∧k = !kvs.isEmpty:=e
  rcases e' with ⟨xs,hx,e'⟩ | ⟨xs,hx,e'⟩ | ⟨kvs,hx,e'⟩
  ·subst e'
   obtain⟨its,r,pl,hz⟩:=I.list hx
   have hlen:=r.length
   exact wpAny_truthy_list pl.isList (by simp only [List.size_toArray]; omega) ⟨H,I.tok _,by rw [zek r]; exact q⟩
  ·subst e'
   obtain⟨its,r,pl,hz⟩:=I.tuple hx
   have hlen:=r.length
   exact truthy_tuple pl (by simp only [List.size_toArray]; omega) ⟨H,I.tok _,by rw [zek r]; exact q⟩
  ·subst e'
   obtain⟨hz,hS,vs,r,m⟩:kvs.length≤sizeLine∧(p == sysModules)=false∧∃ vs,KV kvs vs∧s.heap.DictOf (zay X.prog X.w) p vs:=I.hok p _ hx
   have hlen:kvs.length=vs.length:=Paired.length r
   exact wpAny_truthy_dict hS m (by omega) ⟨H,I.tok _,by rw [zha r]; exact q⟩
 | _=>exact (show False from e).elim
theorem zjy (ha:PE X a ta) (he:∀ whole,isTrue a X.env whole=(do let v ← whole; standAt a.pos; holding [v] (truthy v))) :
  PT X a (fun σ H Q=>ta σ H fun x H'=>∃ k,zny X.K x H' k∧Q k H'):=by
 intro pins s σ H Q I h
 exact isTrue_plain (thn (ha pins s σ H _ I h) fun v s1 ⟨x,H1,I1,r1,q1⟩=>zmD pins s1 σ H1 x v Q I1 r1 q1) (he _)
theorem vals1 {x:V} {us:List Value} (r:zK [x] us):∃ u,us = [u]∧RelV x u:=by
 cases r with
 | cons r1 r2=>cases r2; exact⟨_,rfl,r1⟩
theorem vals2 {x y:V} {us:List Value} (r:zK [x,y] us):∃ u w',us = [u,w']∧RelV x u∧RelV y w':=by
 cases r with
 | cons r1 r2 =>
  cases r2 with
  | cons r3 r4=>cases r4; exact⟨_,_,rfl,r1,r3⟩
theorem ze7 (hc:X.calm=true):zbh X (.builtin "min") (fun xs H Q=>∃ i j,xs = [.int i,.int j]∧Q (.int (if j < i then j else i)) H):=by
 intro pins s σ H xs us Q I r h
 obtain⟨i,j,rfl,q⟩:=h
 obtain⟨u,w',rfl,⟨t,rfl⟩,⟨t',rfl⟩⟩:=vals2 r
 refine min_two_ints (I.ok.hd hc) fun h' tk k=>⟨_,H,I.kept k,?_,q⟩
 by_cases hj:j < i
 ·rw [if_pos hj,if_pos hj]; exact⟨_,rfl⟩
 ·rw [if_neg hj,if_neg hj]; exact⟨_,rfl⟩
end
structure ObjM (h:Heap) (x dx C:Addr) (mA:Str→Option Value):Prop where
 obj:h.get? x=some (PySem.W.instObj C dx)
 ns:h.Ns1 dx mA
 ne:dx≠x
theorem zis {h:Heap} {dx:Addr} {mA:Str→Option Value} (n:h.Ns1 dx mA):∃ od,h.get? dx=some od∧∀ name,PySem.W.lookIn name od=some (mA name):=by
 obtain⟨o,es,ep,ho,hd,hk,_,hm⟩:=n
 refine⟨o,ho,fun name=>?_⟩
 have e:=hm name
 unfold nsFind findBy at e
 rw [← Array.find?_toList] at e
 unfold PySem.W.lookIn
 rw [hd]
 dsimp only
 split
 ·rename_i y q
  rw [q] at e
  exact congrArg some e
 ·rename_i q
  rw [q] at e
  have a:es.toList.any (·.refKey)=false:=by
   rw [List.any_eq_false]
   intro y hy
   obtain⟨z,t,hkey⟩:=hk y (Array.mem_toList_iff.mp hy)
   simp [DictEntry.refKey,hkey]
  have a':¬ es.toList.any (·.refKey)=true:=by rw [a]; exact Bool.false_ne_true
  rw [if_neg a']
  exact congrArg some e
theorem ObjM.look {h:Heap} {x dx C:Addr} {mA:Str→Option Value} (I:ObjM h x dx C mA):∃ od,PySem.W.InstAt h x (PySem.W.instObj C dx) C (some od)∧∀ name,PySem.W.lookIn name od=some (mA name) :=
 let ⟨od,ho,hl⟩:=zis I.ns
 ⟨od,⟨I.obj,rfl,rfl,ho⟩,hl⟩
section
variable {P:Program} {w:World} {H H':Hp} {h h':Heap} {a C dx:Addr} {fs fs':List (Str×V)}
theorem zk7 (hok:HOk P w H h) (e:H a=some (.ins C dx fs)):∃ mA,ObjM h a dx C mA∧(∀ f,zfs (fs.lookup f) (mA f))∧PySem.Within mA (fs.map (·.1))∧fs.length≤1000∧H dx=some (.own a):=by
 obtain⟨d,z,ne,ob,mA,n,r,q⟩:=(show zab P w H h a (.ins C dx fs) from hok a _ e)
 exact⟨mA,⟨ob,n,ne⟩,r,q,z,d⟩
end
structure Cls (K:PySem.W.Frag) (C:Addr):Prop where
 pg:PySem.W.plainGet K C Str.empty=true
 hd:PySem.W.hasDictIn K C=true
 po:PySem.W.plainOver K C=true
 sa:PySem.W.findIn K (.ref C) "__setattr__" = some (some (.builtin "object.__setattr__"))
theorem Cls.get {K:PySem.W.Frag} {C:Addr} (c:Cls K C) (f:Str):PySem.W.plainGet K C f=true:=c.pg
section
variable {X:Cx} {pins:List (Addr×Obj)} {σ:St} {H:Hp} {s:Shared} {A:Around} {E:Value→Shared→Prop} {Q:Value→Shared→Prop} {c:Value} {b:Bool}
inductive TyOf (K:PySem.W.Frag) (H:Hp):V→Value→Prop where
 | non:TyOf K H .non (.type "NoneType")
 | bl (x:Bool):TyOf K H (.bl x) (.type "bool")
 | int (i:Int):TyOf K H (.int i) (.type "int")
 | str (x:Str):TyOf K H (.str x) (.type "str")
 | flt (x:UInt64):TyOf K H (.flt x) (.type "float")
 | lst {a:Addr} {xs:List V} (e:H a=some (.lst xs)):TyOf K H (.ref a) (.type "list")
 | frz {a:Addr} {o:Obj} {xs:List V} (e:H a=some (.frz o (.lst xs))):TyOf K H (.ref a) (.type "list")
 | tup {a:Addr} {xs:List V} (e:H a=some (.tup xs)):TyOf K H (.ref a) (.type "tuple")
 | dK {a:Addr} {kvs:List (Key×V)} (e:H a=some (.dK kvs)):TyOf K H (.ref a) (.type "dict")
 | dT {a:Addr} {kvs:List (List Key×V)} (e:H a=some (.dT kvs)):TyOf K H (.ref a) (.type "dict")
 | ins {a C dx:Addr} {fs:List (Str×V)} (e:H a=some (.ins C dx fs)) (cl:Cls K C) (ha:PySem.W.findIn K (.ref C) "__class__" = some (some (.builtin "object.__class__")))
   (hn:PySem.W.specialIn K (.builtin "object.__class__") "__get__" = some (some (.builtin "getset_descriptor.__get__"))) (htk:PySem.W.takesIn K (.builtin "object.__class__")=some true)
   (hm:PySem.W.mroIn K C (.type "object")=some true):TyOf K H (.ref a) (.ref C)
theorem zit {x:V} {u t:Value} (I:Inv X pins σ H s) (rx:RelV x u) (ty:TyOf X.K H x t) (e:PySem.W.kitOne X.K t c=some b) (h:∀ tk,Q (.bool b) { s with toks:=tk }) :
  wpAny (model X.prog X.w) A (call (.builtin "isinstance") [u,c]) Q E s:=by
 cases ty with
 | non=>cases (show u=Value.none from rx); exact PySem.W.kia_one PySem.W.kitx_none I.kIn True.intro e (fun z=>nomatch z) h
 | bl y=>cases (show u=Value.bool y from rx); exact PySem.W.kia_one PySem.W.kitx_bool I.kIn True.intro e (fun z=>nomatch z) h
 | int i=>obtain⟨t,q⟩:=(show ∃ t,u=Value.int i t from rx); cases q; exact PySem.W.kia_one PySem.W.kitx_int I.kIn True.intro e (fun z=>nomatch z) h
 | str y=>obtain⟨t,q⟩:=(show ∃ t,u=Value.str y t from rx); cases q; exact PySem.W.kia_one PySem.W.kitx_str I.kIn True.intro e (fun z=>nomatch z) h
 | flt y=>obtain⟨t,q⟩:=(show ∃ t,u=Value.float y t from rx); cases q; exact PySem.W.kia_one PySem.W.kitx_float I.kIn True.intro e (fun z=>nomatch z) h
 | @lst a xs ea =>
  cases (show u=Value.ref a from rx)
  obtain⟨_,_,n,_,h1⟩:=(show zab X.prog X.w H s.heap a (.lst xs) from I.hok a _ ea)
  exact PySem.W.kia_one PySem.W.kitx_list I.kIn ⟨_,h1,rfl⟩ e (fun z=>nomatch z) h
 | @frz a ob xs ea =>
  cases (show u=Value.ref a from rx)
  obtain⟨_,_,_,n,_,h1⟩:=(show zab X.prog X.w H s.heap a (.frz ob (.lst xs)) from I.hok a _ ea)
  exact PySem.W.kia_one PySem.W.kitx_list I.kIn ⟨_,h1,rfl⟩ e (fun z=>nomatch z) h
 | @tup a xs ea =>
  cases (show u=Value.ref a from rx)
  obtain⟨_,_,_,p⟩:=(show zab X.prog X.w H s.heap a (.tup xs) from I.hok a _ ea)
  obtain⟨o,h1,h2,_⟩:=p
  exact PySem.W.kia_one PySem.W.kitx_tuple I.kIn ⟨o,h1,h2⟩ e (fun z=>nomatch z) h
 | @dK a kvs ea =>
  cases (show u=Value.ref a from rx)
  obtain⟨_,_,vs,_,p⟩:=(show zab X.prog X.w H s.heap a (.dK kvs) from I.hok a _ ea)
  obtain⟨o,es,ep,h1,h2,_⟩:=p
  exact PySem.W.kia_one PySem.W.kitx_dict I.kIn ⟨o,h1,h2.1⟩ e (fun z=>nomatch z) h
 | @dT a kvs ea =>
  cases (show u=Value.ref a from rx)
  obtain⟨_,_,xs,_,o,es,ep,h1,h2,_⟩:=(show zab X.prog X.w H s.heap a (.dT kvs) from I.hok a _ ea)
  exact PySem.W.kia_one PySem.W.kitx_dict I.kIn ⟨o,h1,h2.1⟩ e (fun z=>nomatch z) h
 | @ins a C dx fs ea cl ha hn htk hm =>
  cases (show u=Value.ref a from rx)
  obtain⟨mA,O,_⟩:=zk7 I.hok ea
  obtain⟨od,J,_⟩:=O.look
  exact PySem.W.kia_one (PySem.W.kitx_own (cl.get _) cl.hd ha hn htk hm) I.kIn J e (fun z=>nomatch z) h
end
structure Room (k:Nat) (A:Around):Prop where
 hd:A.handled=none
 dp:A.depth+3*k+5 < recursionLimit
 un:A.units+16*k+200 < cLine
theorem Room.mono {j k:Nat} {A:Around} (r:Room k A) (h:j≤k):Room j A:=⟨r.hd,by have:=r.dp; omega,by have:=r.un; omega⟩
theorem Room.deeper {k:Nat} {A:Around} (r:Room (k+1) A) (env:Env):Room k (A.deeper env) :=
 ⟨r.hd,by have:=r.dp; show A.depth+1+3*k+5 < _; omega,by have:=r.un; show A.units+3+16*k+200 < _; omega⟩
theorem Room.depth {k:Nat} {A:Around} (r:Room k A):A.depth < recursionLimit:=by have:=r.dp; omega
theorem Room.units {k:Nat} {A:Around} (r:Room k A):A.units+64 < cLine:=by have:=r.un; omega
def zmE:TA:=fun _ H Q=>Q [] H
def zhX (ta:TE) (tr:TA):TA:=fun σ H Q=>ta σ H fun x H1=>tr σ H1 fun xs H2=>Q (x :: xs) H2
section
variable {X:Cx} {e:Expr} {es:List Expr} {te:TE} {t:TA} {pos:Pos}
theorem zd:PA X [] zmE:=fun _ _ _ _ H Q I h=>Calls.spliced_nil ⟨[],H,I,.nil,h⟩
theorem za (ha:PE X e te) (hr:PA X es t) (hs:starEach (e :: es) X.env=(false,eval e X.env) :: starEach es X.env:=by rfl):PA X (e :: es) (zhX te t):=by
 intro pos pins s σ H Q I h
 rw [hs]
 show wpAny _ _ (spliced ((false,eval e X.env) :: backTo pos (starEach es X.env))) _ _ s
 refine Calls.spliced_cons (thn (ha pins s σ H _ I h) fun u s1 ⟨x,H1,I1,r1,q1⟩=>?_)
 exact thn (hr pos pins s1 σ H1 _ I1 q1) fun us s2 ⟨xs,H2,I2,r2,q2⟩=>⟨x :: xs,H2,I2,.cons r1 r2,q2⟩
theorem ya {X:Cx} {e:Expr} {te:TE} (a:PE X e te) (b:starEach [e] X.env=(false,eval e X.env) :: starEach [] X.env):PA X [e] (zhX te zmE):=za a zd b
def zn8 (t:TA):TE:=fun σ H Q=>t σ H fun xs H1=>xs.length≤sizeLine∧∀ p,H1 p=none→Q (.ref p) (upd H1 p (.tup xs))
def zhb (t:TA):TE:=fun σ H Q=>t σ H fun xs H1=>xs.length≤sizeLine∧∀ p,H1 p=none→Q (.ref p) (upd H1 p (.lst xs))
theorem za4 {x1} (h:PA X es t):PE X (.Tuple es x1 pos) (zn8 t):=by
 intro pins s σ H Q I hq
 refine wpAny_Tuple_spliced (thn (h pos pins s σ H _ I hq) fun us s1 ⟨xs,H1,I1,r,z,q⟩=>⟨by rw [← r.length]; exact z,?_⟩)
 have hf:H1 s1.heap.objs.size=none:=I1.hok.fresh (Nat.le_refl _)
 refine⟨.ref s1.heap.objs.size,upd H1 s1.heap.objs.size (.tup xs),I1.laid (t':=s1.toks) (fun b u e=>Heap.get?_push_of_some _ e) (Nat.le_refl _) ?_,rfl,q _ hf⟩
 exact⟨z,us,r,⟨_,Heap.get?_push_size _ rfl,rfl,_,rfl⟩⟩
theorem zY (h:PA X es t):PE X (.List es pos) (zhb t):=by
 intro pins s σ H Q I hq
 refine wpAny_List_spliced (thn (h pos pins s σ H _ I hq) fun us s1 ⟨xs,H1,I1,r,z,q⟩=>⟨by rw [← r.length]; exact z,?_⟩)
 have hf:H1 s1.heap.objs.size=none:=I1.hok.fresh (Nat.le_refl _)
 refine⟨.ref s1.heap.objs.size,upd H1 s1.heap.objs.size (.lst xs),I1.laid (t':=s1.toks) (fun b u e=>Heap.get?_push_of_some _ e) (Nat.le_refl _) ?_,rfl,q _ hf⟩
 exact⟨z,us,0,r,Heap.get?_push_size _ rfl⟩
end
abbrev Sp:=List V→Hp→VK→XK→Prop
abbrev CXT:=List Env→Hp→Shared→XK→Value→Shared→Prop
structure Env0 (P:Program) (w:World) (K:PySem.W.Frag) (mg:Str→Option Value) (base:Heap) (A:Around) (outer:List Env) (s:Shared) (H:Hp):Prop where
 frames:A.frames=some outer
 mod:Mod K mg base
 bs:∀ b o,base.get? b=some o→s.heap.get? b=some o∧H b=none
 bsz:base.objs.size≤s.heap.objs.size
 funs:s.heap.FunFrames base outer
 frf:∀ b∈frs outer,H b=none
 hok:HOk P w H s.heap
 bare:AllBare s.gens
def CE (outer:List Env) (P:Program) (w:World) (H:Hp) (s:Shared) (Q:VK) (u:Value) (s':Shared):Prop :=
 ∃ v H',s'.os=s.os∧AllBare s'.gens∧Un (frs outer) [] H H' s.heap s'.heap∧HOk P w H' s'.heap∧RelV v u∧Q v H'
def CR (CX:CXT) (outer:List Env) (P:Program) (w:World) (H:Hp) (s:Shared) (Q:VK) (E:XK) (r:Result) (s':Shared):Prop :=
 match r with
 | .ok (.ret u)=>CE outer P w H s Q u s'
 | .ok _=>False
 | .error e=>CX outer H s E e s'
structure FnOk (P:Program) (w:World) (K:PySem.W.Frag) (mg:Str→Option Value) (base:Heap) (CX:CXT) (k:Nat) (f:Addr) (fd:FuncData) (ps:List Str) (sp:Sp):Prop where
 len:∀ vs H Q E,sp vs H Q E→vs.length=ps.length
 run:∀ (A:Around) (outer:List Env) (s:Shared) (H:Hp) (args:Args) (us:List Value) (vs:List V) (Q:VK) (E:XK),Room k A→Env0 P w K mg base A outer s H→BindsTo s fd args (ps.zip us)→zK vs us→sp vs H Q E →
  codeAny (model P w) A (.call (.ref f) args) (CR CX outer P w H s Q E) s
section
variable {X:Cx} {pins:List (Addr×Obj)} {σ:St} {H:Hp} {s s':Shared}
theorem Inv.env0 (I:Inv X pins σ H s):Env0 X.prog X.w X.K X.mg X.base X.A X.stack s H :=
 ⟨I.ok.frames,I.ok.mod,I.bs,Nat.le_trans I.ok.bsz I.sz,I.stack,I.stkFree,I.hok,I.bare⟩
theorem Inv.after {Q:VK} {u:Value} (I:Inv X pins σ H s) (h:CE X.stack X.prog X.w H s Q u s'):EP X pins σ Q u s':=by
 obtain⟨v,H',os,bare,un,hok,r,q⟩:=h
 obtain⟨hh,g,d,t,os'⟩:=s'
 obtain rfl:os'=s.os:=os
 exact⟨v,H',I.call (h':=hh) (g':=g) (d':=d) (t':=t) (ch:=[]) un hok bare (fun b z=>absurd z (by simp)),r,q⟩
end
def zjz (sp:Sp) (dvs:List V) (E:XK) (t:TA):TE:=fun σ H Q=>t σ H fun vs H1=>sp (vs++dvs) H1 Q E
def Binds (K:PySem.W.Frag) (fd:FuncData) (ps:List Str) (ds:List Value):Prop :=
 ∀ (s:Shared) (us:List Value),K.In s.heap→(us++ds).length=ps.length→BindsTo s fd ⟨us,[]⟩ (ps.zip (us++ds))
theorem Binds.all {K:PySem.W.Frag} {fd:FuncData} {ps:List Str} (h:∀ us:List Value,us.length=ps.length→bindArgs fd ⟨us,[]⟩=pure (ps.zip us)):Binds K fd ps []:=fun s us _ hl=>by
 rw [List.append_nil] at hl ⊢
 exact .of_eq (h us hl)
def zem (CX:CXT) (X:Cx) (E:XK):Prop:=∀ (pins:List (Addr×Obj)) (σ:St) (H:Hp) (s:Shared) (e:Value) (s':Shared),Inv X pins σ H s→CX X.stack H s E e s'→X.xe e s'
section
variable {X:Cx} {CX:CXT} {k:Nat} {f C:Addr} {fd:FuncData} {ps:List Str} {sp:Sp} {dvs:List V} {ds:List Value} {E:XK} {x m:Str} {p pos apos:Pos} {e o:Expr} {es:List Expr} {ta:TE} {t:TA}
theorem zmF {pins:List (Addr×Obj)} {σ:St} {H:Hp} {s:Shared} {Q:VK} {us:List Value} {vs:List V} (F:FnOk X.prog X.w X.K X.mg X.base CX k f fd ps sp) (hr:Room k X.A) (hb:Binds X.K fd ps ds) (hd:zK dvs ds) (hx:zem CX X E)
  (I:Inv X pins σ H s) (r:zK vs us) (h:sp (vs++dvs) H Q E):wpAny (model X.prog X.w) X.A (call (.ref f) us) (EP X pins σ Q) X.xe s:=by
 have r2:zK (vs++dvs) (us++ds):=r.append hd
 have hl:(us++ds).length=ps.length:=by rw [← r2.length]; exact F.len _ _ _ _ h
 refine wpAny_call (codeAny_mono (F.run X.A X.stack s H ⟨us,[]⟩ (us++ds) (vs++dvs) Q E hr I.env0 (hb s us I.kIn hl) r2 h) fun r s' hq=>?_)
 cases r with
 | error e=>exact hx pins σ H s e s' I hq
 | ok fl =>
  cases fl with
  | ret u=>exact I.after hq
  | next=>exact False.elim hq
  | brk=>exact False.elim hq
  | cont=>exact False.elim hq
theorem zp (F:FnOk X.prog X.w X.K X.mg X.base CX k f fd ps sp) (hr:Room k X.A) (hg:Gl X x) (hm:X.mg x=some (.ref f)) (hk:PySem.W.keepIn X.K (.ref f)=true) (hb:Binds X.K fd ps ds) (hd:zK dvs ds) (hx:zem CX X E)
  (ha:PA X (e :: es) t) (hdb:(x == ("__debug__" : Str))=false:=by decide) (he:starEach (e :: es) X.env=(false,eval e X.env) :: starEach es X.env:=by rfl) (hpl:(backTo pos (starEach es X.env)).any (·.1)=false:=by rfl) :
  PE X (.Call (.Name x p) (e :: es) [] pos) (zjz sp dvs E t):=by
 intro pins s σ H Q I h
 refine wpAny_Call_Name_kw (zcy I hg hm ?_ hdb)
 refine PySem.W.callWith_K (h₀:=X.base) I.ok.mod.kin hk (thn (ha pos pins s σ H _ I h) fun us s1 ⟨vs,H1,I1,r,q⟩=>⟨I1.kIn,?_⟩) he hpl
 exact zmF F hr hb hd hx I1 r q
end
structure FnScope (N P:List Str) (sc:Scope):Prop where
 kind:sc.kind = .function
 co:sc.isCoroutine=false
 gen:sc.isGenerator=false
 nd:N.Nodup
 pre:N.take P.length=P
 par:∀ x∈P,sc.names.lookup x=some .local∨sc.names.lookup x=some .cell
 nofree:∀ y∈sc.names,y.2≠.free
theorem ze8 {kindOf:Str→Option NameKind} {x:Str}:∀ {binds:List (Str×Value)} {m:Str→Option Value},(∀ v,(x,v)∉binds)→bindL kindOf binds m x=m x
 | [],_,_=>rfl
 | (n,v) :: r,m,h=>by
  unfold bindL
  rw [ze8 fun w hw=>h w (List.mem_cons_of_mem _ hw)]
  split
  ·have:x≠n:=by rintro rfl; exact h v List.mem_cons_self
   simp [this]
  ·rfl
theorem ze9 {kindOf:Str→Option NameKind} {x:Str}:∀ {binds:List (Str×Value)} {m:Str→Option Value},(∀ v,(x,v)∉binds)→bindC kindOf binds m x=m x
 | [],_,_=>rfl
 | (n,v) :: r,m,h=>by
  unfold bindC
  rw [ze9 fun w hw=>h w (List.mem_cons_of_mem _ hw)]
  split
  ·rfl
  ·have:x≠n:=by rintro rfl; exact h v List.mem_cons_self
   simp [this]
theorem zfa {kindOf:Str→Option NameKind} {x:Str} {v:Value}:∀ {P:List Str} {vs:List Value} {i:Nat} {m:Str→Option Value},P.Nodup→P[i]? = some x→vs[i]? = some v→kindOf x=some .local →
  bindL kindOf (P.zip vs) m x=some v
 | [],_,_,_,_,h,_,_=>by simp at h
 | _ :: _,[],_,_,_,_,h,_=>by simp at h
 | p :: P,w :: vs,0,m,nd,h1,h2,hk=>by
  simp at h1 h2; subst h1; subst h2
  show bindL kindOf ((p,w) :: P.zip vs) m p=_
  unfold bindL
  rw [ze8 fun v hv=>(List.nodup_cons.mp nd).1 (List.of_mem_zip hv).1,if_pos hk]
  simp
 | p :: P,w :: vs,i+1,m,nd,h1,h2,hk=>by
  show bindL kindOf ((p,w) :: P.zip vs) m x=_
  unfold bindL
  exact zfa (i:=i) (List.nodup_cons.mp nd).2 (by simpa using h1) (by simpa using h2) hk
theorem zfb {kindOf:Str→Option NameKind} {x:Str} {v:Value}:∀ {P:List Str} {vs:List Value} {i:Nat} {m:Str→Option Value},P.Nodup→P[i]? = some x→vs[i]? = some v→kindOf x≠some .local →
  bindC kindOf (P.zip vs) m x=some v
 | [],_,_,_,_,h,_,_=>by simp at h
 | _ :: _,[],_,_,_,_,h,_=>by simp at h
 | p :: P,w :: vs,0,m,nd,h1,h2,hk=>by
  simp at h1 h2; subst h1; subst h2
  show bindC kindOf ((p,w) :: P.zip vs) m p=_
  unfold bindC
  rw [ze9 fun v hv=>(List.nodup_cons.mp nd).1 (List.of_mem_zip hv).1,if_neg hk]
  simp
 | p :: P,w :: vs,i+1,m,nd,h1,h2,hk=>by
  show bindC kindOf ((p,w) :: P.zip vs) m x=_
  unfold bindC
  exact zfb (i:=i) (List.nodup_cons.mp nd).2 (by simpa using h1) (by simpa using h2) hk
def start (N:List Str) (vs:List V):St:=vs.map some++List.replicate (N.length - vs.length) none
def zby (CX:CXT) (P:Program) (w:World) (K:PySem.W.Frag) (mg:Str→Option Value) (base:Heap) (N:List Str) (qual:Str) (scope:Scope) (f:Addr) (cd:Value) (A:Around) (outer:List Env) (s:Shared) (H:Hp) (E:XK):Cx where
 prog:=P
 w:=w
 K:=K
 mg:=mg
 base:=base
 A:=A.deeper (envOfC qual scope s.heap.objs.size f cd)
 N:=N
 s₀:=s
 H₀:=H
 env:=envOfC qual scope s.heap.objs.size f cd
 outer:=outer
 stack:=envOfC qual scope s.heap.objs.size f cd :: outer
 ex:=[]
 calm:=true
 fn:=fun _=>true
 pn:=[]
 xe:=fun e s'=>wpAny (model P w) (A.deeper (envOfC qual scope s.heap.objs.size f cd)) (leaving (envOfC qual scope s.heap.objs.size f cd) e) (fun _ s''=>CX outer H s E e s'') (fun e' s''=>CX outer H s E e' s'') s'
theorem zgh {sc:Scope} {n:Nat} {x:Str} (h:sc.names.lookup x=some .cell):∃ c,(cellsFrom n sc.names []).lookup x=some c:=by
 have q:=PySem.W.cellsFrom_some sc.names n [] (.inl h)
 exact Option.isSome_iff_exists.mp q
theorem zfc {CX:CXT} {P:Program} {w:World} {K:PySem.W.Frag} {mg:Str→Option Value} {base:Heap} {N ps:List Str} {qual:Str} {scope:Scope} {f:Addr} {cd:Value} {A:Around} {outer:List Env} {s s1:Shared} {H:Hp} {E:XK} {us:List Value} {vs:List V}
  (S:FnScope N ps scope) (hd:A.handled=none) (e0:Env0 P w K mg base A outer s H) (hl:vs.length=ps.length) (r:zK vs us)
  (x:InCallC s s.heap.objs.size (bindL (envOfC qual scope s.heap.objs.size f cd).kindOf (ps.zip us) fun _=>none) (cellsFrom (s.heap.objs.size+1) scope.names []) (bindC (envOfC qual scope s.heap.objs.size f cd).kindOf (ps.zip us) fun _=>none) s1) :
  Inv (zby CX P w K mg base N qual scope f cd A outer s H E) [] (start N vs) H s1:=by
 have hpl:ps.length≤N.length:=by have:=congrArg List.length S.pre; rw [List.length_take] at this; omega
 obtain⟨h1,tk,rfl,hk⟩:=x.done
 have noA:∀ b:Addr,b∉(zby CX P w K mg base N qual scope f cd A outer s H E).ex:=fun b z=>absurd (show b∈([]:List Addr) from z) (by simp)
 refine⟨⟨e0.mod,S.kind,rfl,rfl,Nat.le_refl _,fun y z c h1 h2=>?_,fun y hy=>?_,fun y c _ h=>?_,fun _=>hd,Around.frames_deeper e0.frames,.inr ⟨rfl,rfl⟩,fun b z=>absurd z (noA b),e0.bs,e0.bsz,fun b _ _=>noA b,fun b z=>absurd z (noA b),e0.funs,e0.frf⟩,
  rfl,e0.bare,Un.kept hk,⟨_,x.toInCall.ns,fun i y v h1 h2 h3=>?_⟩,fun y c h=>⟨_,x.cell y c h⟩,e0.hok.fresh (Nat.le_refl _),fun y c h=>?_,fun p hp=>absurd (show p∈([]:List (Addr×Obj)) from hp) (by simp),e0.hok.kept hk,?_⟩
 ·exact name_of_addr x.apart (PySem.mem_of_lookup h1) (PySem.mem_of_lookup h2)
 ·have hy:scope.names.lookup y=some .cell∨scope.names.lookup y=some .free:=hy
  rcases hy with hy | hy
  ·exact zgh hy
  ·exact absurd rfl (S.nofree _ (PySem.mem_of_lookup hy))
 ·exact Nat.le_of_lt (x.above y c (PySem.mem_of_lookup h))
 ·have hi:i < vs.length:=by
   unfold start at h2
   by_cases hi:i < vs.length
   ·exact hi
   ·rw [List.getElem?_append_right (by simpa using hi)] at h2
    rw [List.getElem?_replicate] at h2
    split at h2 <;> cases h2
  have ha:vs[i]? = some v:=by
   unfold start at h2
   rw [List.getElem?_append_left (by simpa using hi),List.getElem?_map] at h2
   cases e:vs[i]? with
   | none=>rw [e] at h2; cases h2
   | some a=>rw [e] at h2; cases h2; rfl
  obtain⟨u,hu,rv⟩:=r.get ha
  have hp:ps[i]? = some y:=by
   rw [← S.pre,List.getElem?_take_of_lt (by omega)]; exact h1
  have ndP:ps.Nodup:=by rw [← S.pre]; exact S.nd.sublist (List.take_sublist _ _)
  refine⟨u,rv,?_⟩
  rcases S.par y (List.mem_of_getElem? hp) with k | k
  ·exact .inl ⟨k,zfa ndP hp hu k⟩
  ·obtain⟨c,e⟩:=zgh (n:=s.heap.objs.size+1) k
   refine .inr ⟨.inl k,c,e,?_⟩
   have q:=x.cell y c e
   rw [zfb ndP hp hu (by show scope.names.lookup y≠_; rw [k]; decide)] at q
   exact q
 ·exact e0.hok.fresh (Nat.le_of_lt (x.above y c (PySem.mem_of_lookup h)))
 ·unfold start
  show _=N.length
  rw [List.length_append,List.length_map,List.length_replicate]
  omega
theorem zl9 {CX:CXT} {P:Program} {w:World} {K:PySem.W.Frag} {mg:Str→Option Value} {base:Heap} {k:Nat} {f:Addr} {name qual:Str} {params:Arguments} {body:List Stmt} {scope:Scope} {dV kV doc pm cdv ct oc:Value} {an od:Option Addr}
  {osl:Array (Option Value)} {N ps:List Str} {sp:Sp} (lk:K.lookup f=some ⟨oc,od,.func (PySem.W.fnOf name qual params body scope dV kV doc pm an cdv ct),osl⟩) (hcd:PySem.W.codeIn K cdv qual=true) (S:FnScope N ps scope)
  (len:∀ vs H Q E,sp vs H Q E→vs.length=ps.length)
  (hbody:∀ (A:Around) (outer:List Env) (s:Shared) (H:Hp) (vs:List V) (Q:VK) (E:XK),Room k (A.deeper (envOfC qual scope s.heap.objs.size f cdv))→sp vs H Q E →
   ∃ t,PSs (zby CX P w K mg base N qual scope f cdv A outer s H E) body t∧t { nx:=fun _ H'=>Q .non H',rt:=Q } (start N vs) H) :
  FnOk P w K mg base CX (k+1) f (PySem.W.fnOf name qual params body scope dV kV doc pm an cdv ct) ps sp:=by
 refine⟨len,fun A outer s H args us vs Q E hr e0 hb r hsp=>?_⟩
 have hl:=len _ _ _ _ hsp
 have KX:K.In s.heap:=e0.mod.kin.keeps fun b o e=>(e0.bs b o e).1
 have lim:s.heap.NoLimit:=e0.mod.nolimit.keeps fun b o e=>(e0.bs b o e).1
 have hkind:∀ y∈ps.zip us,scope.names.lookup y.1=some .local∨(scope.names.lookup y.1=some .cell∧((cellsFrom (s.heap.objs.size+1) scope.names []).lookup y.1).isSome=true):=fun ⟨n,v⟩ hy=>by
  rcases S.par n (List.of_mem_zip hy).1 with q | q
  ·exact .inl q
  ·exact .inr ⟨q,PySem.W.cellsFrom_some _ _ _ (.inl q)⟩
 refine codeAny_call_function hr.depth (KX _ _ lk) rfl S.co S.gen rfl (PySem.W.codeRec_of KX hcd) (hb _ _ _ _ ?_)
 refine wpAny_newFunctionEnv_cells S.kind hkind fun env he s1 x=>?_
 subst he
 refine⟨lim.keeps x.toInCall.keep,codeAny_func ?_⟩
 obtain⟨t,ht,hq⟩:=hbody A outer s H vs Q E (hr.deeper _) hsp
 have I:Inv (zby CX P w K mg base N qual scope f cdv A outer s H E) [] (start N vs) H s1:=zfc S hr.hd e0 hl r x
 refine wpAny_mono (ht [] s1 (start N vs) H _ I hq) (fun fl s' hs=>?_) fun e s' hs=>hs
 have fin:∀ {σ':St} {H':Hp} {v:V} {u:Value},Inv (zby CX P w K mg base N qual scope f cdv A outer s H E) [] σ' H' s'→RelV v u→Q v H'→CE outer P w H s Q u s' :=
  fun {σ' H' v u} J rv q=>⟨v,H',J.os,J.bare,J.base,J.hok,rv,q⟩
 cases fl with
 | ret u =>
  obtain⟨v,σ',H',J,rv,q⟩:=hs
  exact fin J rv q
 | next =>
  obtain⟨σ',H',J,q⟩:=hs
  exact fin (v:=V.non) (u:=Value.none) J rfl q
 | brk =>
  obtain⟨_,_,_,q⟩:=hs
  exact False.elim q
 | cont =>
  obtain⟨_,_,_,q⟩:=hs
  exact False.elim q
section
variable {X:Cx} {x:Str} {p pos:Pos} {e:Expr} {es:List Expr} {t:TA} {id T:String} {r:List V→Hp→VK→Prop}
def tCB (r:List V→Hp→VK→Prop) (t:TA):TE:=fun σ H Q=>t σ H fun vs H1=>r vs H1 Q
theorem zn (hc:zbh X (.builtin id) r) (hg:Gl X x) (hm:X.mg x=none) (hv:bootBuiltins x=some (.builtin id)) (ha:PA X (e :: es) t) (hn:x≠"__name__":=by decide) (hdb:(x == ("__debug__" : Str))=false:=by decide)
  (he:starEach (e :: es) X.env=(false,eval e X.env) :: starEach es X.env:=by rfl) (hpl:(backTo pos (starEach es X.env)).any (·.1)=false:=by rfl):PE X (.Call (.Name x p) (e :: es) [] pos) (tCB r t):=by
 intro pins s σ H Q I h
 refine wpAny_Call_Name_kw (zba I hg hm hv ?_ hn hdb)
 exact PyProof.Rows.callWith_builtin1 (thn (ha pos pins s σ H _ I h) fun us s1 ⟨vs,H1,I1,r1,q1⟩=>hc pins s1 σ H1 vs us Q I1 r1 q1) he hpl
theorem zam (hc:zbh X (.type T) r) (hg:Gl X x) (hm:X.mg x=none) (hv:bootBuiltins x=some (.type T)) (ha:PA X (e :: es) t) (hn:x≠"__name__":=by decide) (hdb:(x == ("__debug__" : Str))=false:=by decide)
  (he:starEach (e :: es) X.env=(false,eval e X.env) :: starEach es X.env:=by rfl) (hpl:(backTo pos (starEach es X.env)).any (·.1)=false:=by rfl):PE X (.Call (.Name x p) (e :: es) [] pos) (tCB r t):=by
 intro pins s σ H Q I h
 refine wpAny_Call_Name_kw (zba I hg hm hv ?_ hn hdb)
 exact PyProof.Rows.callWith_type1 (thn (ha pos pins s σ H _ I h) fun us s1 ⟨vs,H1,I1,r1,q1⟩=>hc pins s1 σ H1 vs us Q I1 r1 q1) he hpl
end
end L2
namespace HT
open PySem PyProof.Rows
section
variable {prog:Program} {w:World} {A:Around} {E:Value→Shared→Prop} {s:Shared}
def sIx (n d:Nat):Option Int→Nat
 | none=>d
 | some v=>if v < 0 then (v+(n:Int)).toNat else min v.toNat n
theorem sIx_none (n d:Nat):sIx n d none=d:=rfl
theorem sIx_nat (n d k:Nat):sIx n d (some (k:Int))=min k n:=by
 show (if (k:Int) < 0 then ((k:Int)+(n:Int)).toNat else min (k:Int).toNat n)=min k n
 rw [if_neg (by omega),Int.toNat_natCast]
end
end HT
namespace L2
open PySem PySem.Spec PyProof.Rows
abbrev TO:=St→Hp→(Option Int→Hp→Prop)→Prop
def PO (X:Cx) (e:Option Expr) (t:TO):Prop :=
 ∀ (pins:List (Addr×Obj)) (s:Shared) (σ:St) (H:Hp) (Q:Option Int→Hp→Prop),Inv X pins σ H s→t σ H Q →
  wpAny (model X.prog X.w) X.A (evalPart e X.env) (fun u s'=>∃ o H',Inv X pins σ H' s'∧IsPart u o∧Q o H') X.xe s
def zk8:TO:=fun _ H Q=>Q none H
def znA (t:TE):TO:=fun σ H Q=>t σ H fun x H1=>∃ i,x = .int i∧Q (some i) H1
theorem intsAre_of {ns:List Int}:∀ {us:List Value},zK (ns.map V.int) us→IntsAre us ns:=by
 induction ns with
 | nil=>intro us r; rw [List.map_nil] at r; cases r; exact .nil
 | cons n ns ih =>
  intro us r
  rw [List.map_cons] at r
  cases r with
  | cons r1 r2 =>
   obtain⟨t,e⟩:=r1
   subst e
   exact .cons n t (ih r2)
section
variable {X:Cx} {e:Expr} {te:TE} {lo hi:Option Expr} {tl th:TO} {pos p2:Pos}
theorem zc3:PO X none zk8:=by
 intro pins s σ H Q I h
 rw [evalPart_none]
 exact wpAny_pure ⟨none,H,I,.none,h⟩
theorem zb1 (h:PE X e te):PO X (some e) (znA te):=by
 intro pins s σ H Q I hw
 rw [evalPart_some]
 refine thn (h pins s σ H _ I hw) fun u s1 ⟨x,H1,I1,r1,q1⟩=>?_
 obtain⟨i,rfl,q⟩:=q1
 obtain⟨t,rfl⟩:=r1
 exact⟨some i,H1,I1,.int i t,q⟩
def SlR (X:Cx) (r:V→Option Int→Option Int→Hp→VK→Prop):Prop :=
 ∀ (pins:List (Addr×Obj)) (s:Shared) (σ:St) (H:Hp) (x:V) (v vl vu:Value) (lo hi:Option Int) (sl:Addr) (Q:VK),Inv X pins σ H s→RelV x v→s.heap.IsSliceOf sl vl vu .none→IsPart vl lo→IsPart vu hi→r x lo hi H Q →
  ∃ T id,typeLookup (.type T) "__getitem__" = pure (some (.builtin id))∧s.TypeIs v T∧wpAny (model X.prog X.w) X.A (getItem v (.ref sl)) (EP X pins σ Q) X.xe s
def tSl (r:V→Option Int→Option Int→Hp→VK→Prop) (te:TE) (tl th:TO):TE:=fun σ H Q=>te σ H fun x H1=>tl σ H1 fun l H2=>th σ H2 fun u H3=>r x l u H3 Q
theorem zbO {r:V→Option Int→Option Int→Hp→VK→Prop} (hr:SlR X r) (he:PE X e te) (hl:PO X lo tl) (hu:PO X hi th):PE X (.Subscript e (.Slice lo hi none p2) pos) (tSl r te tl th):=by
 intro pins s σ H Q I h
 refine Subscript_ (thn (he pins s σ H _ I h) fun v s1 ⟨x,H1,I1,r1,q1⟩=>?_)
 refine wpAny_Slice (thn (hl pins s1 σ H1 _ I1 q1) fun vl s2 ⟨l,H2,I2,pl,q2⟩=>thn (hu pins s2 σ H2 _ I2 q2) fun vu s3 ⟨u,H3,I3,pu,q3⟩=>?_)
 rw [evalPart_none]
 refine wpAny_pure ?_
 have I4:Inv X pins σ H3 { s3 with heap:=s3.heap.push { cls:=.type "slice",data:=.fields #[vl,vu,.none] } }:=I3.kept (t':=s3.toks) fun b ob q=>Heap.get?_push_of_some _ q
 obtain⟨T,id,hT,ht,hg⟩:=hr pins { s3 with heap:=s3.heap.push { cls:=.type "slice",data:=.fields #[vl,vu,.none] } } σ H3 x v vl vu l u s3.heap.objs.size Q I4 r1 (Heap.IsSliceOf.new ..) pl pu q3
 show wpAny (model X.prog X.w) X.A (subscriptTail e (.Slice lo hi none p2) v (.ref s3.heap.objs.size)) (EP X pins σ Q) X.xe { s3 with heap:=s3.heap.push { cls:=.type "slice",data:=.fields #[vl,vu,.none] } }
 exact tail_any (ops:=[.ref s3.heap.objs.size,v]) ht hT hg (by with_unfolding_all rfl)
def zcS (xs:List V) (lo hi:Option Int):List V:=(xs.drop (HT.sIx xs.length 0 lo)).take (HT.sIx xs.length xs.length hi - HT.sIx xs.length 0 lo)
theorem zgi (xs:List V) (lo hi:Option Int):(zcS xs lo hi).length≤xs.length:=by
 unfold zcS
 rw [List.length_take,List.length_drop]
 omega
end
def ixN (n:Nat) (i:Int):Option Nat:=if 0≤i then (if i < n then some i.toNat else none) else if -(n:Int)≤i then some (i+n).toNat else none
def atI {α:Type} (xs:List α) (i:Int):Option α:=(ixN xs.length i).bind fun j=>xs[j]?
theorem zhY {n:Nat} {i:Int} {j:Nat} (h:ixN n i=some j):seqIndex? i n=some j∧j < n∧-(n:Int)≤i∧i < n:=by
 unfold ixN at h
 by_cases h0:0≤i
 ·rw [if_pos h0] at h
  by_cases h1:i < n
  ·rw [if_pos h1] at h
   have e:i.toNat=j:=Option.some.inj h
   exact⟨by rw [seqIndex_of h0 h1,e],by omega,by omega,h1⟩
  ·rw [if_neg h1] at h; cases h
 ·rw [if_neg h0] at h
  by_cases h1:-(n:Int)≤i
  ·rw [if_pos h1] at h
   have e:(i+n).toNat=j:=Option.some.inj h
   exact⟨by rw [seqIndex_neg (by omega) h1,e],by omega,h1,by omega⟩
  ·rw [if_neg h1] at h; cases h
theorem zhZ {α:Type} {xs:List α} {i:Int} {v:α} (h:atI xs i=some v):∃ j,seqIndex? i xs.length=some j∧xs[j]? = some v∧j < xs.length∧-(xs.length:Int)≤i∧i < xs.length:=by
 unfold atI at h
 cases e:ixN xs.length i with
 | none=>rw [e] at h; cases h
 | some j =>
  rw [e] at h
  obtain⟨h1,h2,h3,h4⟩:=zhY e
  exact⟨j,h1,h,h2,h3,h4⟩
theorem zM {α:Type} {xs:List α} {j:Nat} {v:α} (h:xs[j]? = some v):atI xs (j:Int)=some v:=by
 have hj:j < xs.length:=(List.getElem?_eq_some_iff.mp h).1
 have e:ixN xs.length (j:Int)=some j:=by
  unfold ixN
  rw [if_pos (by omega),if_pos (by omega)]; simp
 unfold atI; rw [e]; exact h
def zk9 (b:Expr):Prop:=∀ o i,subscripted b false o i=operate [o,i] (getItem o i)
def IxR (X:Cx) (r:R2):Prop :=
 ∀ (value slice:Expr) (pins:List (Addr×Obj)) (s:Shared) (σ:St) (H:Hp) (x y:V) (v u:Value) (Q:VK),Inv X pins σ H s→RelV x v→RelV y u→r x y H Q →
  subscripted slice false v u=operate [v,u] (getItem v u)→wpAny (model X.prog X.w) X.A (subscriptTail value slice v u) (EP X pins σ Q) X.xe s
def MtR (X:Cx) (id:String) (r:V→List V→Hp→VK→Prop):Prop :=
 ∀ (pins:List (Addr×Obj)) (s:Shared) (σ:St) (H:Hp) (x:V) (xs:List V) (v:Value) (us:List Value) (Q:VK),Inv X pins σ H s→RelV x v→zK xs us→r x xs H Q →
  wpAny (model X.prog X.w) X.A (call (.builtin id) (v :: us)) (EP X pins σ Q) X.xe s
section
variable {X:Cx} {a b:Expr} {ta tb:TE} {pos:Pos}
theorem zy {r:R2} (hr:IxR X r) (ha:PE X a ta) (hb:PE X b tb) (hs:zk9 b):PE X (.Subscript a b pos) (tOp r ta tb):=by
 intro pins s σ H Q I h
 exact Subscript_ (zmy ha hb I h fun v u s2 x y H2 I2 rx ry q=>hr a b pins s2 σ H2 x y v u Q I2 rx ry q (hs _ _))
def znB (K:PySem.W.Frag):R2:=fun x y H Q=>∃ p xs i v,x = .ref p∧y = .int i∧SqL K H p xs∧atI xs i=some v∧Q v H
def znC (K:PySem.W.Frag):R2:=fun x y H Q=>∃ p xs i v,x = .ref p∧y = .int i∧SqT K H p xs∧atI xs i=some v∧Q v H
theorem zu:IxR X (znB X.K):=by
 intro value slice pins s σ H x y v u Q I rx ry h hs
 obtain⟨p,xs,i,z,rfl,rfl,hq,he,q⟩:=h
 cases rx
 obtain⟨t,rfl⟩:=ry
 obtain⟨its,r,pl,hz⟩:=I.list hq
 obtain⟨j,h1,h2,h3,h4,h5⟩:=zhZ he
 obtain⟨w,ew,rw'⟩:=r.get h2
 have hl:=r.length
 have hn:=zel
 have fin:EP X pins σ Q w s:=⟨z,H,I,rw',q⟩
 by_cases h0:0≤i
 ·have hj:i.toNat=j:=by
   rw [seqIndex_of h0 h5] at h1
   exact Option.some.inj h1
  exact item_listR pl.isList h0 (by omega) (by rw [hj]; simpa using ew) fin hs
 ·have hj:(i+(its.toArray.size:Int)).toNat=j:=by
   rw [seqIndex_neg (by omega) h4] at h1
   rw [List.size_toArray,← hl]
   exact Option.some.inj h1
  exact subscriptTail_builtinR (x:=w) pl.isList.typeIs slot_list_getitem.lookup
   (wpAny_getItem_list_neg (Q:=fun r s'=>r=w∧EP X pins σ Q r s') pl.isList (by omega) (by rw [List.size_toArray] <;> omega) (by omega) (by rw [hj]; simpa using ew) ⟨rfl,fin⟩) hs
theorem zb2:IxR X (znC X.K):=by
 intro value slice pins s σ H x y v u Q I rx ry h hs
 obtain⟨p,xs,i,z,rfl,rfl,hq,he,q⟩:=h
 cases rx
 obtain⟨t,rfl⟩:=ry
 obtain⟨its,r,pl,hz⟩:=I.tuple hq
 obtain⟨j,h1,h2,h3,h4,h5⟩:=zhZ he
 obtain⟨w,ew,rw'⟩:=r.get h2
 have hl:=r.length
 have hn:=zel
 have fin:EP X pins σ Q w s:=⟨z,H,I,rw',q⟩
 exact subscriptTail_builtinR (x:=w) pl.typeIs slot_tuple_getitem.lookup
  (getItem_tuple (j:=j) (Q:=fun r s'=>r=w∧EP X pins σ Q r s') pl (by omega) (by omega) (by rw [List.size_toArray,← hl]; exact h1) (by simpa using ew) ⟨rfl,fin⟩) hs
theorem zhc (its:List Value) (n j:Nat) (u:Value):Obj.mapSeq (·.setIfInBounds j u) { cls:=.type "list",data:=.seq its.toArray n } = { cls:=.type "list",data:=.seq (its.set j u).toArray n }:=by
 simp [Obj.mapSeq]
theorem Inv.lst {pins:List (Addr×Obj)} {σ:St} {H:Hp} {s:Shared} {p:Addr} {xs:List V} (I:Inv X pins σ H s) (h:H p=some (.lst xs)) :
  ∃ (its:List Value) (n:Nat),zK xs its∧s.heap.get? p=some { cls:=.type "list",data:=.seq its.toArray n }∧xs.length≤sizeLine:=by
 obtain⟨z,its,n,r,e⟩:=I.hok p _ h
 exact⟨its,n,r,e,z⟩
theorem Inv.lstUpd {pins:List (Addr×Obj)} {σ:St} {H:Hp} {s:Shared} {p:Addr} {xs ys:List V} {its its':List Value} {n n':Nat} {f:Obj→Obj} (I:Inv X pins σ H s) (h:H p=some (.lst xs))
  (ho:s.heap.get? p=some { cls:=.type "list",data:=.seq its.toArray n }) (hf:f { cls:=.type "list",data:=.seq its.toArray n } = { cls:=.type "list",data:=.seq its'.toArray n' }) (r:zK ys its') (hz:ys.length≤sizeLine) (t:Nat) :
  Inv X pins σ (upd H p (.lst ys)) { s with heap:=s.heap.update p f,toks:=t }:=by
 have e:(s.heap.update p f).get? p=some { cls:=.type "list",data:=.seq its'.toArray n' }:=by
  rw [Heap.get?_update_self f ho (by rw [hf] <;> rfl),hf]
 refine I.write (x:=p) (e:=p) (by rw [h]; trivial) (.inl rfl) (fun b u hb q=>(Heap.get?_update_other _ _ (Ne.symm hb)).trans q) ⟨_,e⟩ ?_
 exact⟨hz,its',n',r,e⟩
def znD:V→V→V→Hp→(Hp→Prop)→Prop:=fun o i v H Q=>∃ p xs k j,o = .ref p∧i = .int k∧H p=some (.lst xs)∧ixN xs.length k=some j∧Q (upd H p (.lst (xs.set j v)))
theorem set_list:zns X znD:=by
 intro pins s σ H o i v ov iv u Q I ro ri rv h
 obtain⟨p,xs,k,j,rfl,rfl,hp,hj,q⟩:=h
 cases ro
 obtain⟨t,rfl⟩:=ri
 obtain⟨its,n,r,ho,hz⟩:=I.lst hp
 obtain⟨h1,h2,h3,h4⟩:=zhY hj
 have hl:=r.length
 have hn:=zel
 have I':Inv X pins σ (upd H p (.lst (xs.set j v))) { s with heap:=s.heap.update p (Obj.mapSeq (·.setIfInBounds j u)) } :=
  I.lstUpd hp ho (zhc its n j u) (r.set rv j) (by rw [List.length_set]; exact hz) s.toks
 by_cases h0:0≤k
 ·have hk:k.toNat=j:=by
   rw [seqIndex_of h0 h4] at h1
   exact Option.some.inj h1
  exact PySem.W.ki_setAt ho h0 (by omega) (by rw [List.size_toArray,← hl]; exact h4) (by rw [hk]; exact⟨_,I',q⟩)
 ·have hk:(k+(its.toArray.size:Int)).toNat=j:=by
   rw [seqIndex_neg (by omega) h3] at h1
   rw [List.size_toArray,← hl]
   exact Option.some.inj h1
  exact PySem.W.ki_setBack ho (by omega) (by rw [List.size_toArray,← hl]; exact h3) (by omega) (by rw [hk]; exact⟨_,I',q⟩)
theorem zfy (lo hi:Option Int) (n:Nat):(sliceBounds lo hi none n).1=((HT.sIx n 0 lo:Nat):Int)∧(sliceBounds lo hi none n).2.1=((HT.sIx n n hi:Nat):Int)∧(sliceBounds lo hi none n).2.2=1:=by
 refine⟨?_,?_,rfl⟩
 ·cases lo with
  | none=>simp [sliceBounds,HT.sIx]
  | some i =>
   simp only [sliceBounds,HT.sIx,Option.getD_none,show (1:Int) > 0 by decide,if_true]
   by_cases h:i < 0
   ·simp only [h,if_true] <;> omega
   ·simp only [h,if_false] <;> omega
 ·cases hi with
  | none=>simp [sliceBounds,HT.sIx]
  | some i =>
   simp only [sliceBounds,HT.sIx,Option.getD_none,show (1:Int) > 0 by decide,if_true]
   by_cases h:i < 0
   ·simp only [h,if_true] <;> omega
   ·simp only [h,if_false] <;> omega
theorem zeS (its:List Value) (lo hi:Option Int):slicePick its.toArray lo hi none=((its.drop (HT.sIx its.length 0 lo)).take (HT.sIx its.length its.length hi - HT.sIx its.length 0 lo)).toArray:=by
 obtain⟨h1,h2,h3⟩:=zfy lo hi its.toArray.size
 unfold slicePick
 rw [h1,h2,h3]
 simp only [sliceRange_one,pick_run,List.size_toArray] <;> rfl
def znE (K:PySem.W.Frag):V→Option Int→Option Int→Hp→VK→Prop:=fun x lo hi H Q=>∃ a xs,x = .ref a∧SqL K H a xs∧∀ p,H p=none→Q (.ref p) (upd H p (.lst (zcS xs lo hi)))
theorem zcA:SlR X (znE X.K):=by
 intro pins s σ H x v vl vu lo hi sl Q I rx hs pl pu h
 obtain⟨a,xs,rfl,hx,q⟩:=h
 cases rx
 obtain⟨its,r,ht,hz⟩:=I.list hx
 have hlen:=r.length
 refine⟨"list",_,slot_list_getitem.lookup,ht.isList.typeIs,?_⟩
 refine wpAny_getItem_list_slice ht.isList hs pl pu .none (by simp) ?_ (by rw [List.size_toArray] <;> omega)
 rw [zeS,← hlen]
 refine⟨.ref s.heap.objs.size,_,I.laid (t':=s.toks) (o:=.lst (zcS xs lo hi)) (fun b ob q=>Heap.get?_push_of_some _ q) (Nat.le_refl _) ?_,rfl,q _ (I.hok.fresh (Nat.le_refl _))⟩
 exact⟨Nat.le_trans (zgi xs lo hi) hz,_,0,(r.drop (HT.sIx xs.length 0 lo)).take (HT.sIx xs.length xs.length hi - HT.sIx xs.length 0 lo),Heap.get?_push_size _ rfl⟩
def zck:V→Bool
 | .non=>true
 | .bl _=>true
 | .int _=>true
 | .str _=>true
 | _=>false
def eqV:V→V→Bool
 | .non,.non=>true
 | .bl a,.bl b=>a == b
 | .bl a,.int b=>(if a then 1 else 0) == b
 | .int a,.bl b=>a == (if b then 1 else 0)
 | .int a,.int b=>a == b
 | .str a,.str b=>a == b
 | _,_=>false
theorem zjA {A:Around} {s:Shared} {y x:V} {u v:Value} (ry:RelV y u) (rx:RelV x v) (fy:zck y=true) (fx:zck x=true):SeqAt.EqAt A s u v (eqV y x):=by
 cases y with
 | non =>
  cases ry
  cases x with
  | non=>cases rx; exact SeqAt.EqAt.same _
  | bl b=>cases rx; exact SeqAt.EqAt.none_bool b
  | int b=>obtain⟨t,rfl⟩:=rx; exact SeqAt.EqAt.none_int b t
  | str b=>obtain⟨t,rfl⟩:=rx; exact SeqAt.EqAt.none_str b t
  | _=>exact absurd (show false=true from fx) Bool.false_ne_true
 | bl a =>
  cases ry
  cases x with
  | non=>cases rx; exact SeqAt.EqAt.bool_none a
  | bl b=>cases rx; exact SeqAt.EqAt.bool_bool a b
  | int b=>obtain⟨t,rfl⟩:=rx; exact SeqAt.EqAt.bool_int a b t
  | str b=>obtain⟨t,rfl⟩:=rx; exact SeqAt.EqAt.bool_str a b t
  | _=>exact absurd (show false=true from fx) Bool.false_ne_true
 | int a =>
  obtain⟨t',rfl⟩:=ry
  cases x with
  | non=>cases rx; exact SeqAt.EqAt.int_none a t'
  | bl b=>cases rx; exact SeqAt.EqAt.int_bool a t' b
  | int b=>obtain⟨t,rfl⟩:=rx; exact SeqAt.EqAt.int_int a t' b t
  | str b=>obtain⟨t,rfl⟩:=rx; exact SeqAt.EqAt.int_str a t' b t
  | _=>exact absurd (show false=true from fx) Bool.false_ne_true
 | str a =>
  obtain⟨t',rfl⟩:=ry
  cases x with
  | non=>cases rx; exact SeqAt.EqAt.str_none a t'
  | bl b=>cases rx; exact SeqAt.EqAt.str_bool a t' b
  | int b=>obtain⟨t,rfl⟩:=rx; exact SeqAt.EqAt.str_int a t' b t
  | str b=>obtain⟨t,rfl⟩:=rx; exact SeqAt.EqAt.str_str a t' b t
  | _=>exact absurd (show false=true from fx) Bool.false_ne_true
 | _=>exact absurd (show false=true from fy) Bool.false_ne_true
def eqU (x:V) (u:Value):Bool:=match u with
 | .none=>eqV .non x
 | .bool b=>eqV (.bl b) x
 | .int i _=>eqV (.int i) x
 | .str z _=>eqV (.str z) x
 | _=>false
theorem zjB {x y:V} {u:Value} (r:RelV y u) (f:zck y=true):eqU x u=eqV y x:=by
 cases y with
 | non=>cases r; rfl
 | bl b=>cases r; rfl
 | int i=>obtain⟨t,rfl⟩:=r; rfl
 | str z=>obtain⟨t,rfl⟩:=r; rfl
 | _=>exact absurd (show false=true from f) Bool.false_ne_true
theorem zfz {x:V}:∀ {xs:List V} {us:List Value},zK xs us→xs.all zck=true→us.any (eqU x)=xs.any fun y=>eqV y x
 | _,_,.nil,_=>rfl
 | y :: xs,u :: us,.cons r t,f=>by
  rw [List.all_cons,Bool.and_eq_true] at f
  rw [List.any_cons,List.any_cons,zjB r f.1,zfz t f.2]
theorem zen {A:Around} {s:Shared} {x:V} {v:Value} (rx:RelV x v) (fx:zck x=true):∀ {xs:List V} {us:List Value},zK xs us→xs.all zck=true→∀ u∈us,SeqAt.EqAt A s u v (eqU x u)
 | _,_,.nil,_=>fun u hu=>by cases hu
 | y :: xs,u :: us,.cons r t,f=>fun u' hu=>by
  rw [List.all_cons,Bool.and_eq_true] at f
  rcases List.mem_cons.mp hu with rfl | hu
  ·rw [zjB r f.1]; exact zjA r rx f.1 fx
  ·exact zen rx fx t f.2 u' hu
def inV (x:V) (xs:List V):Bool:=xs.any fun y=>eqV y x
def rIn (K:PySem.W.Frag) (neg:Bool):R2:=fun x y H Q=>∃ p xs,y = .ref p∧(SqL K H p xs∨SqT K H p xs)∧zck x=true∧xs.all zck=true∧Q (.bl (if neg then !inV x xs else inV x xs)) H
theorem ziu:OpR X (compareOp .In) (rIn X.K false):=by
 intro pins s σ H x y v u Q I rx ry h
 obtain⟨p,xs,rfl,hq,fx,fs,q⟩:=h
 cases ry
 rcases hq with hq | hq
 ·obtain⟨its,r,pl,hz⟩:=I.list hq
  refine SeqAt.in_listAt (eqU x) pl.isList (fun w hw=>zen rx fx r fs w (by simpa using hw)) ⟨.bl _,H,I,rfl,?_⟩
  rw [show its.toArray.any (eqU x)=its.any (eqU x) by simp,zfz r fs]
  exact q
 ·obtain⟨its,r,pl,hz⟩:=I.tuple hq
  refine SeqAt.in_tupleAt (eqU x) pl (fun w hw=>zen rx fx r fs w (by simpa using hw)) ⟨.bl _,H,I,rfl,?_⟩
  rw [show its.toArray.any (eqU x)=its.any (eqU x) by simp,zfz r fs]
  exact q
theorem zx:zbh X (.builtin "len") (fun xs H Q=>∃ p ys,xs = [.ref p]∧(SqL X.K H p ys∨SqT X.K H p ys)∧Q (.int ys.length) H):=by
 intro pins s σ H xs us Q I r h
 obtain⟨p,ys,rfl,hq,q⟩:=h
 obtain⟨u,rfl,rx⟩:=vals1 r
 cases rx
 have hn:=zel
 rcases hq with hq | hq
 ·obtain⟨its,r',pl,hz⟩:=I.list hq
  have hlen:=r'.length
  exact Calls.call_len_list pl.isList (by simp only [List.size_toArray] <;> omega) ⟨.int ys.length,H,I.tok _,⟨s.toks+1,by rw [List.size_toArray,hlen]⟩,q⟩
 ·obtain⟨its,r',pl,hz⟩:=I.tuple hq
  have hlen:=r'.length
  exact len_tuple pl (by simp only [List.size_toArray] <;> omega) ⟨.int ys.length,H,I.tok _,⟨s.toks+1,by rw [List.size_toArray,hlen]⟩,q⟩
theorem zb3:zbh X (.type "list") (fun xs H Q=>∃ p ys,xs = [.ref p]∧(SqL X.K H p ys∨SqT X.K H p ys)∧∀ l,H l=none→Q (.ref l) (upd H l (.lst ys))):=by
 intro pins s σ H xs us Q I r h
 obtain⟨p,ys,rfl,hq,q⟩:=h
 obtain⟨u,rfl,rx⟩:=vals1 r
 cases rx
 have fin:∀ (its:List Value),zK ys its→ys.length≤sizeLine→∀ (h':Heap) (c':Nat),(∀ b o',s.heap.get? b=some o'→h'.get? b=some o') →
   h'.get? s.heap.objs.size=some { cls:=.type "list",dict:=none,data:=.seq its.toArray c',slots:=#[] }→EP X pins σ Q (.ref s.heap.objs.size) { s with heap:=h' }:=fun its r' hz h' c' kp e =>
  ⟨.ref s.heap.objs.size,_,I.laid (t':=s.toks) kp (Nat.le_refl _) (show zab X.prog X.w _ h' _ (.lst ys) from ⟨hz,its,c',r',e⟩),rfl,q _ (I.hok.fresh (Nat.le_refl _))⟩
 rcases hq with hq | hq
 ·obtain⟨its,r',pl,hz⟩:=I.list hq
  have hlen:=r'.length
  obtain⟨o,ho,hc,n,hd⟩:=pl.isList
  exact call_list_seq p (.inl rfl) ho hc hd (fun h' c' kp e=>fin its r' hz h' c' kp e) (by simp only [List.size_toArray] <;> omega)
 ·obtain⟨its,r',pl,hz⟩:=I.tuple hq
  have hlen:=r'.length
  obtain⟨o,ho,hc,n,hd⟩:=pl
  exact call_list_seq p (.inr rfl) ho hc hd (fun h' c' kp e=>fin its r' hz h' c' kp e) (by simp only [List.size_toArray] <;> omega)
theorem zaQ:zbh X (.type "tuple") (fun xs H Q=>∃ p ys,xs = [.ref p]∧((SqL X.K H p ys∧∀ l,H l=none→Q (.ref l) (upd H l (.tup ys)))∨(SqT X.K H p ys∧Q (.ref p) H))):=by
 intro pins s σ H xs us Q I r h
 obtain⟨p,ys,rfl,h⟩:=h
 obtain⟨u,rfl,rx⟩:=vals1 r
 cases rx
 rcases h with ⟨hq,q⟩ | ⟨hq,q⟩
 ·obtain⟨its,r',pl,hz⟩:=I.list hq
  have hlen:=r'.length
  refine call_tuple_list pl.isList (fun h' kp=>?_) (by simp only [List.size_toArray] <;> omega)
  have I1:Inv X pins σ H { s with heap:=h' }:=I.kept (t':=s.toks) kp
  have I2:Inv X pins σ (upd H h'.objs.size (.tup ys)) { s with heap:=h'.push { cls:=.type "tuple",data:=.seq its.toArray } } :=
   I1.laid (t':=s.toks) (fun b o e=>Heap.get?_push_of_some _ e) (Nat.le_refl _) (show zab X.prog X.w _ _ _ (.tup ys) from ⟨hz,its,r',IsTup.new _ _⟩)
  exact⟨.ref h'.objs.size,_,I2,rfl,q _ (I1.hok.fresh (Nat.le_refl _))⟩
 ·obtain⟨its,r',pl,hz⟩:=I.tuple hq
  exact call_tuple_same pl ⟨.ref p,H,I,rfl,q⟩
def tyV (K:PySem.W.Frag) (T:String) (x:V) (H:Hp):Prop:=match x with
 | .str _=>T = "str"
 | .int _=>T = "int"
 | .ref p=>(T = "list"∧∃ xs,SqL K H p xs)∨(T = "tuple"∧∃ o,K.lookup p=some o∧o.cls = .type "tuple"∧o.dict=none) ∨
   (T = "dict"∧((∃ kvs,H p=some (.dK kvs))∨∃ kvs,H p=some (.dT kvs)))∨(T = "set"∧∃ S n,H p=some (.set S n))
 | _=>False
theorem zmG {pins:List (Addr×Obj)} {σ:St} {H:Hp} {s:Shared} {T:String} {x:V} {v:Value} (I:Inv X pins σ H s) (r:RelV x v) (ty:tyV X.K T x H) :
  s.TypeIs v T∧∀ a,v = .ref a→∃ ob,s.heap.get? a=some ob∧ob.dict=none:=by
 cases x with
 | str z =>
  obtain⟨t,rfl⟩:=r
  cases (show T = "str" from ty)
  exact⟨typeIs_str s z t,fun _ e=>nomatch e⟩
 | int i =>
  obtain⟨t,rfl⟩:=r
  cases (show T = "int" from ty)
  exact⟨typeIs_int s i t,fun _ e=>nomatch e⟩
 | ref p =>
  cases r
  rcases ty with ⟨rfl,xs,hq⟩ | ⟨rfl,o,hk,hc,hd⟩ | ⟨rfl,hk⟩ | ⟨rfl,S,n,hk⟩
  ·obtain⟨its,_,pl,_⟩:=I.list hq
   refine⟨pl.isList.typeIs,fun a e=>?_⟩
   cases e
   obtain⟨o,n,e,c,hd,_⟩:=pl
   exact⟨o,e,hd⟩
  ·refine⟨⟨o,I.kIn p o hk,hc⟩,fun a e=>?_⟩
   cases e
   exact⟨o,I.kIn _ o hk,hd⟩
  ·have z:∃ o,s.heap.get? p=some o∧o.ExactDict:=by
    rcases hk with ⟨kvs,hk⟩ | ⟨kvs,hk⟩
    ·obtain⟨_,_,_,_,o,_,_,e,ex,_⟩:=I.hok p _ hk
     exact⟨o,e,ex⟩
    ·obtain⟨_,_,_,_,o,_,_,e,ex,_⟩:=I.hok p _ hk
     exact⟨o,e,ex⟩
   obtain⟨o,e,ex⟩:=z
   refine⟨⟨o,e,ex.1⟩,fun a e2=>?_⟩
   cases e2
   exact⟨o,e,ex.2.1⟩
  ·obtain⟨o,_,_,_,e,ex,_⟩:=I.hok p _ hk
   refine⟨⟨o,e,ex.1⟩,fun a e2=>?_⟩
   cases e2
   exact⟨o,e,ex.2.1⟩
 | _=>exact False.elim ty
def tBM (K:PySem.W.Frag) (T:String) (r:V→List V→Hp→VK→Prop) (to:TE) (t:TA):TE:=fun σ H Q=>to σ H fun x H1=>tyV K T x H1∧t σ H1 fun xs H2=>r x xs H2 Q
variable {o e:Expr} {es:List Expr} {to:TE} {t:TA} {name:Str} {apos cpos:Pos} {T id:String} {r:V→List V→Hp→VK→Prop}
theorem zcd (pa:PlainAttrs T) (slot:Slot T name id) (hty:typeOf (.builtin id)=pure (.type "method_descriptor")) (hm:MtR X id r) (ho:PE X o to) (ha:PA X (e :: es) t)
  (hbase:attributeBase o name X.env (eval o X.env)=eval o X.env:=by rfl)
  (hfew:((backTo cpos (starEach (e :: es) X.env)).all (fun x=>!x.1) && (backToKw cpos (keywordEach [] X.env)).all (fun x=>x.1.isSome)
   && decide ((e :: es).length+([]:List Keyword).length+(if ([]:List Keyword).isEmpty then 0 else 1) < 30))=true:=by rfl)
  (hline:(apos.endLine == cpos.line)=true:=by rfl) (hs:starEach (e :: es) X.env=(false,eval e X.env) :: starEach es X.env:=by rfl) (hplain:(backTo cpos (starEach es X.env)).any (·.1)=false:=by rfl) :
  PE X (.Call (.Attribute o name apos) (e :: es) [] cpos) (tBM X.K T r to t):=by
 intro pins s σ H Q I h
 refine wpAny_Call_method_late hbase hfew hline rfl (thn (ho pins s σ H _ I h) fun v s1 ⟨x,H1,I1,r1,ty,q1⟩=>?_)
 obtain⟨h1,h2⟩:=zmG I1 r1 ty
 refine⟨T,id,pa,slot,hty,h1,h2,?_⟩
 have hA:=ha cpos pins s1 σ H1 _ I1 q1
 rw [hs] at hA ⊢
 refine Calls.callWith_builtin (by show (false || (backTo cpos (starEach es X.env)).any (·.1))=false; rw [hplain] <;> rfl) (Calls.evalArgs_plain ?_)
 exact thn hA fun us s2 ⟨vs,H2,I2,r2,q2⟩=>hm pins s2 σ H2 x vs v us Q I2 r1 r2 q2
end
def MtM (X:Cx) (id:String) (r:V→List V→Hp→VK→Prop):Prop :=
 ∀ (pins:List (Addr×Obj)) (s:Shared) (σ:St) (H:Hp) (x:V) (xs:List V) (v:Value) (us:List Value) (Q:VK),Inv X pins σ H s→RelV x v→zK xs us→r x xs H Q →
  wpAny (model X.prog X.w) X.A (call (.builtin id) (v :: us)) (EP X pins σ Q) X.xe s
theorem zK.one:∀ {x:V} {us:List Value},zK [x] us→∃ u,us = [u]∧RelV x u
 | _,_,.cons r .nil=>⟨_,rfl,r⟩
theorem zK.eraseIdx:∀ {xs:List V} {us:List Value} (i:Nat),zK xs us→zK (xs.eraseIdx i) (us.eraseIdx i)
 | _,_,_,.nil=>.nil
 | _,_,0,.cons _ t=>t
 | _,_,i+1,.cons r t=>.cons r (zK.eraseIdx i t)
theorem zK.rep {xs:List V} {us:List Value} (h:zK xs us):∀ k:Nat,zK (List.replicate k xs).flatten (List.replicate k us).flatten
 | 0=>.nil
 | k+1=>by
  rw [List.replicate_succ,List.replicate_succ,List.flatten_cons,List.flatten_cons]
  exact zK.append h (zK.rep h k)
theorem zfd {α:Type}:∀ (l:List α) (i:Nat),(l.eraseIdx i).length≤l.length
 | [],_=>Nat.le_refl _
 | _ :: _,0=>Nat.le_succ _
 | _ :: r,i+1=>Nat.succ_le_succ (zfd r i)
theorem foldl_rep (its:List Value):∀ (k:Nat) (acc:List Value),
  List.foldl (fun x1 x2=>x1++x2) acc.toArray (List.replicate k its.toArray)=(acc++(List.replicate k its).flatten).toArray
 | 0,acc=>by simp
 | k+1,acc=>by
  have e:acc.toArray++its.toArray=(acc++its).toArray:=by simp
  have e2:(acc++its)++(List.replicate k its).flatten=acc++(List.replicate (k+1) its).flatten:=by
   rw [List.replicate_succ,List.flatten_cons,List.append_assoc]
  rw [← e2,← foldl_rep its k (acc++its),← e,List.replicate_succ,List.foldl_cons]
section
variable {X:Cx} {pins:List (Addr×Obj)} {σ:St} {H:Hp} {s:Shared} {l b:Addr} {xs ys zs:List V}
theorem Inv.lset {its its':List Value} {n:Nat} {f:Array Value→Array Value} {t':Nat} (I:Inv X pins σ H s) (hH:H l=some (.lst xs))
  (e:s.heap.get? l=some { cls:=.type "list",data:=.seq its.toArray n }) (hf:f its.toArray=its'.toArray) (hv:zK ys its') (hz:ys.length≤sizeLine) :
  Inv X pins σ (upd H l (.lst ys)) { s with heap:=s.heap.update l (Obj.mapSeq f),toks:=t' }:=by
 have q:=PySem.IsL.update e f
 rw [hf] at q
 refine I.write (x:=l) (e:=l) (by rw [hH]; exact trivial) (.inl rfl) (fun b' u hb hu=>(Heap.get?_update_other s.heap (Obj.mapSeq f) (Ne.symm hb)).trans hu) ⟨_,q⟩ ?_
 exact⟨hz,its',_,hv,q⟩
theorem Inv.lnew {its:List Value} {t':Nat} (I:Inv X pins σ H s) (hv:zK ys its) (hz:ys.length≤sizeLine) :
  Inv X pins σ (upd H s.heap.objs.size (.lst ys)) { s with heap:=s.heap.push { cls:=.type "list",data:=.seq its.toArray },toks:=t' } :=
 I.laid (fun _ _ q=>Heap.get?_push_of_some _ q) (Nat.le_refl _) ⟨hz,its,0,hv,Heap.get?_push_size _ rfl⟩
theorem Inv.fresh (I:Inv X pins σ H s):H s.heap.objs.size=none:=I.hok.fresh (Nat.le_refl _)
theorem Inv.lstM (I:Inv X pins σ H s) (hH:H l=some (.lst xs)):xs.length≤sizeLine∧∃ (its:List Value) (n:Nat),zK xs its∧xs.length=its.length∧s.heap.get? l=some { cls:=.type "list",data:=.seq its.toArray n }:=by
 obtain⟨z,its,n,r,e⟩:=I.hok l _ hH
 exact⟨z,its,n,r,r.length,e⟩
theorem zeo {n:Nat} (h:n≤sizeLine):Builtin.List.listTooLong n=false:=by
 unfold Builtin.List.listTooLong
 exact decide_eq_false (by omega)
end
section
variable {X:Cx}
def zla:V→List V→Hp→VK→Prop:=fun x vs H Q=>∃ l xs y,x = .ref l∧vs = [y]∧H l=some (.lst xs)∧xs.length < sizeLine∧Q .non (upd H l (.lst (xs++[y])))
theorem zbb:MtM X "list.append" zla:=by
 intro pins s σ H x vs v us Q I rx rv h
 obtain⟨l,xs,y,rfl,rfl,hH,hz,q⟩:=h
 cases rx
 obtain⟨u,rfl,ru⟩:=rv.one
 obtain⟨z,its,n,r,hl,e⟩:=I.lstM hH
 refine call_meets F.slot_list_append ⟨_,e,rfl⟩ F.entry_list_append (F.args_list_append_2 _ _) (PySem.list_append l its.toArray n u (by rw [List.size_toArray]; omega)) ⟨e,?_⟩
 refine⟨.non,_,I.lset (its':=its++[u]) hH e (by simp) (r.append (.cons ru .nil)) ?_,rfl,q⟩
 rw [List.length_append,List.length_singleton]
 omega
def zlb:V→List V→Hp→VK→Prop:=fun x vs H Q=>∃ l b xs zs,x = .ref l∧vs = [.ref b]∧H l=some (.lst xs)∧H b=some (.lst zs)∧xs.length+zs.length≤sizeLine∧Q .non (upd H l (.lst (xs++zs)))
theorem zfe:MtM X "list.extend" zlb:=by
 intro pins s σ H x vs v us Q I rx rv h
 obtain⟨l,b,xs,zs,rfl,rfl,hH,hB,hz,q⟩:=h
 cases rx
 obtain⟨u,rfl,ru⟩:=rv.one
 cases ru
 obtain⟨z,its,n,r,hl,e⟩:=I.lstM hH
 obtain⟨z2,its2,n2,r2,hl2,e2⟩:=I.lstM hB
 have hsz:its.toArray.size+its2.toArray.size≤sizeLine:=by rw [List.size_toArray,List.size_toArray]; omega
 have hlong:¬ (!its.toArray.isEmpty && Builtin.List.listTooLong (its.toArray.size+its2.toArray.size))=true:=by
  rw [zeo hsz,Bool.and_false]
  exact Bool.false_ne_true
 refine call_meets F.slot_list_extend ⟨_,e,rfl⟩ F.entry_list_extend (F.args_list_extend_2 _ _)
  (AutoSeq1.list_extend_list_list_0 l its.toArray n b its2.toArray n2 hlong (by rw [List.size_toArray]; omega) (by omega)) ⟨e,e2,?_⟩
 refine⟨.non,_,I.lset (its':=its++its2) hH e (by simp) (r.append r2) ?_,rfl,q⟩
 rw [List.length_append]
 omega
def zmH:V→List V→Hp→VK→Prop:=fun x vs H Q=>∃ l xs i k y,x = .ref l∧vs = [.int i]∧H l=some (.lst xs)∧-(2 ^ 63)≤i∧i < 2 ^ 63∧seqIndex? i xs.length=some k∧xs[k]? = some y∧Q y (upd H l (.lst (xs.eraseIdx k)))
theorem zjC:MtM X "list.pop" zmH:=by
 intro pins s σ H x vs v us Q I rx rv h
 obtain⟨l,xs,i,k,y,rfl,rfl,hH,h1,h2,hk,hy,q⟩:=h
 cases rx
 obtain⟨u,rfl,ru⟩:=rv.one
 obtain⟨t,rfl⟩:=ru
 obtain⟨z,its,n,r,hl,e⟩:=I.lstM hH
 obtain⟨w,hw,rw'⟩:=r.get hy
 refine call_meets F.slot_list_pop ⟨_,e,rfl⟩ F.entry_list_pop (F.args_list_pop_2 _ _)
  (MeetsSeq.list_pop_at l its.toArray n i t k w (fitsIndex_both h1 h2) (by rw [List.size_toArray,← hl]; exact hk) (by rw [← Array.getElem?_toList]; exact hw) (by rw [List.size_toArray]; omega)) ⟨e,?_⟩
 refine⟨y,_,I.lset (its':=its.eraseIdx k) hH e ?_ (r.eraseIdx k) ?_,rw',q⟩
 ·show its.toArray.eraseIdxIfInBounds k=(its.eraseIdx k).toArray
  rw [List.eraseIdxIfInBounds_toArray]
 ·have:=zfd xs k
  omega
def zn9:R2:=fun x y H Q=>∃ l b xs zs,x = .ref l∧y = .ref b∧H l=some (.lst xs)∧H b=some (.lst zs)∧xs.length+zs.length≤sizeLine∧∀ p,H p=none→Q (.ref p) (upd H p (.lst (xs++zs)))
theorem zcl:OpR X (binaryOp .Add) zn9:=by
 intro pins s σ H x y v u Q I rx ry h
 obtain⟨l,b,xs,zs,rfl,rfl,hH,hB,hz,q⟩:=h
 cases rx
 cases ry
 obtain⟨z,its,n,r,hl,e⟩:=I.lstM hH
 obtain⟨z2,its2,n2,r2,hl2,e2⟩:=I.lstM hB
 refine PySem.P.add_list e e2 ?_ (by rw [List.size_toArray,List.size_toArray]; omega)
 have ea:its.toArray++its2.toArray=(its++its2).toArray:=by simp
 rw [ea]
 exact⟨.ref _,_,I.lnew (t':=s.toks) (r.append r2) (by rw [List.length_append]; omega),rfl,q _ I.fresh⟩
def zoa:R2:=fun x y H Q=>∃ l k xs,x = .ref l∧y = .int k∧H l=some (.lst xs)∧-(2 ^ 63)≤k∧k < 2 ^ 63∧xs.length*k.toNat≤sizeLine ∧
 ∀ p,H p=none→Q (.ref p) (upd H p (.lst (List.replicate k.toNat xs).flatten))
theorem len_rep {α:Type} (xs:List α) (k:Nat):(List.replicate k xs).flatten.length=k*xs.length:=by
 induction k with
 | zero=>simp
 | succ k ih=>rw [List.replicate_succ,List.flatten_cons,List.length_append,ih,Nat.succ_mul,Nat.add_comm]
theorem zfA:OpR X (binaryOp .Mult) zoa:=by
 intro pins s σ H x y v u Q I rx ry h
 obtain⟨l,k,xs,rfl,rfl,hH,h1,h2,hz,q⟩:=h
 cases rx
 obtain⟨t,rfl⟩:=ry
 obtain⟨z,its,n,r,hl,e⟩:=I.lstM hH
 have hlen:its.toArray.size*k.toNat≤sizeLine:=by rw [List.size_toArray,← hl]; exact hz
 have hcap:¬ its.toArray.size*k.toNat > (2 ^ 63 - 1) / 8:=by
  have:(sizeLine:Nat)≤(2 ^ 63 - 1) / 8:=by decide
  omega
 have hfit:¬ (!Builtin.List.listFitsIndex k)=true:=by
  rw [fitsIndex_both h1 h2]
  exact Bool.false_ne_true
 have hlong:¬ Builtin.List.listTooLong (its.toArray.size*k.toNat)=true:=by
  rw [zeo hlen]
  exact Bool.false_ne_true
 have hnew:List.foldl (fun x1 x2=>x1++x2) #[] (List.replicate (if its.toArray.isEmpty=true then 0 else k.toNat) its.toArray)=(List.replicate k.toNat its).flatten.toArray:=by
  have f0:∀ m:Nat,List.foldl (fun x1 x2=>x1++x2) #[] (List.replicate m its.toArray)=(List.replicate m its).flatten.toArray:=fun m=>by
   have:=foldl_rep its m []
   rw [List.nil_append] at this
   exact this
  rw [f0]
  cases its with
  | nil=>simp
  | cons a r'=>rw [if_neg (by simp)]
 refine wpAny_binaryOp_repeat_ref (T:="list") (U:="int") (by decide) ⟨_,e,rfl⟩ (fun s'=>typeIs_int s' k t) noFill_list_mul F.fills_int_mul F.slot_int_rmul repeat_list F.slot_int_index.lookup
  (call_meets F.slot_int_rmul (typeIs_int s k t) F.entry_int_rmul (F.args_int_rmul_2 _ _) (int___rmul___int_list k t l its.toArray n)
   ⟨e,rfl,⟨_,e,rfl⟩,call_meets F.slot_list_mul ⟨_,e,rfl⟩ F.entry_list_mul (F.args_list_mul_2 _ _) (AutoListH.list___mul___list_int_3 l its.toArray n k t hfit hcap hlong) ⟨e,?_⟩⟩)
 rw [hnew]
 exact⟨.ref _,_,I.lnew (t':=s.toks) (r.rep k.toNat) (by rw [len_rep,Nat.mul_comm]; exact hz),rfl,q _ I.fresh⟩
end
end L2
namespace Att
open PySem PySem.W PySem.Calls PyProof.Rows
theorem zdT {P:Params} {h:Heap}:∀ (ns:List Int) (vs:List Value),WellAll P h vs (ns.map WData.int)→IntsAre vs ns:=by
 intro ns
 induction ns with
 | nil =>
  intro vs w
  rw [List.map_nil] at w
  cases w
  exact .nil
 | cons n ns ih =>
  intro vs w
  rw [List.map_cons] at w
  cases w with
  | cons a b =>
   cases a
   exact .cons _ _ (ih _ b)
theorem ziv {l:OpenLaw} {n:Nat} (hn:l.most=some n) {P:Params} {h:Heap} {args:List WData} {vals:List Value}
  (hpre:l.row.toRowW.claim.pre args=true) (hwl:WellAll P h vals args) :
  ∃ a vs ns,vals = [Value.ref a]∧args = [WData.list (ns.map WData.int)]∧h.get? a=some { cls:=.type "list",data:=.seq vs.toArray }∧IntsAre vs ns∧ns.length≤n:=by
 have hsh:WShape.hasAll [] args [.list .int]=true:=(pre_splitW hpre).1
 have hc:l.pre.holds [] { args:=args }=true:=(pre_splitW hpre).2
 obtain⟨d,r,rfl,h1,h2⟩:=hasAllW_cons hsh
 obtain rfl:=hasAllW_nil h2
 obtain⟨xs,rfl,h3⟩:=hasW_list h1
 obtain⟨ns,rfl⟩:=items_int h3
 have hlen:ns.length≤n:=by
  unfold OpenLaw.pre at hc
  have h4:(WTm.not (.lt (.lit (.int (n:Int))) (.len (.arg 0)))).holds [] { args:=[.list (ns.map .int)] }=true:=by
   have h4:=(holds_andW hc).1
   rw [hn] at h4
   exact h4
  have h5:=condW_of h4 (w_not (w_lt w_lit (w_len_list (w_arg rfl))))
  rw [List.length_map] at h5
  refine Nat.le_of_not_lt fun q=>?_
  have q':(n:Int) < ((ns.length:Nat):Int):=by omega
  first
   | (rw [decide_eq_true q'] at h5; exact absurd h5 (by decide))
   | (simp at h5; omega)
 cases hwl with
 | cons w1 w2 =>
  cases w2
  cases w1 with
  | list ho hall=>exact⟨_,_,ns,rfl,rfl,ho,zdT ns _ hall,hlen⟩
theorem ziw (l:OpenLaw) (args:List WData):l.row.toRowW.claim.post args (.bool true) args=true :=
 postW_of (r:=l.row.toRowW) (X:=(true == true))
  (show WShape.has [] (.bool true) .bool=true by first | rfl | decide | simp [WShape.has,WShape.arms,WShape.armsAll])
  (show (WTm.eq .res (.lit (.bool true))).value [] { args:=args,res:=some (.bool true),after:=args }=some (.bool (true == true)) from w_eq_bool (w_res rfl) w_lit) rfl
theorem attach_call {l:OpenLaw} {n:Nat} {q:Program} {loose:List Str} {XP:(Str→Option Value)→Heap→Prop} {YP:World→Heap→Prop} {d:DefRec}
  (hn:l.most=some n) (hdf:d.params.defaults = [])
  (call:∀ (w:World) (s₀ s₁:Shared) (mg mb:Str→Option Value) (fa:Addr) (o:Obj) (pm cd doc:Value) (a:Addr) (vs:List Value) (ns:List Int),
   Ground q loose [] XP w s₀ mg mb s₁.heap→YP w s₁.heap →
   s₁.heap.get? fa=some o→o.data = .func (docDef d.name d.params d.body d.scope pm cd doc)→s₁.heap.CodeRec cd d.name→mg d.name=some (.ref fa) →
   s₁.heap.get? a=some { cls:=.type "list",data:=.seq vs.toArray }→IntsAre vs ns→ns.length≤n→s₁.gens = #[] →
   codeAny (model l.prog w) callerA (.call (.ref fa) ⟨[.ref a],[]⟩) (fun r s'=>r = .ok (.ret (.bool true))∧OldK s₁.heap s'.heap∧s'.os=s₁.os∧AllBare s'.gens) s₁) :
  WalkO q loose XP YP l.row.toRowW d [] (fun f vs=>PySem.call f vs):=by
 intro w s₀ s₁ mg mb G Y fa o pm cd doc dV kV ho hd hcd hD hmg hg args vals as hpre hlay hrd hwl hlo
 obtain rfl:dV = .none:=Dflts.none hD hdf
 obtain rfl:kV = .none:=Dflts.noKw hD
 obtain⟨a,vs,ns,rfl,rfl,hobj,hints,hlen⟩:=ziv hn hpre hwl
 refine enter_call (codeAny_mono (call w s₀ s₁ mg mb fa o pm cd doc a vs ns G Y ho (fd_plain hd) hcd hmg hobj hints hlen hg) fun r s' hq=>?_)
 obtain⟨rfl,h2,h3,h4⟩:=hq
 exact⟨.inl ⟨.bool true,.bool true,[],rfl,fun _=>rfl,.bool true,ziw l _,fun _=>⟨List.Pairwise.nil,fun _ hm=>(nomatch hm)⟩⟩,h2,h3,h4⟩
end Att
namespace L2
open PySem PySem.Spec PyProof.Rows
theorem zff:∀ {vs:List Value} {ns:List Int},IntsAre vs ns→zK (ns.map V.int) vs
 | _,_,.nil=>.nil
 | _,_,.cons n t h=>.cons ⟨t,rfl⟩ (zff h)
def zmI (H:Hp):Prop:=∀ b,H b=none∨∃ o xs,H b=some (.frz o (.lst xs))
theorem zjD {P:Program} {w:World} {K:PySem.W.Frag} {mg mb:Str→Option Value} {CX:CXT} {k:Nat} {fa a:Addr} {fd:FuncData} {x:Str} {sp:Sp} {s₁:Shared} {vs:List Value} {ns:List Int}
  (KX:K.In s₁.heap) (hns:s₁.heap.Ns mainGlobals mg) (hb:s₁.heap.Ns builtinsNs mb) (hbb:∀ x:Str,x≠"__name__"→mb x=bootBuiltins x) (hlim:s₁.heap.NoLimit) (hg:s₁.gens = #[])
  (ha:s₁.heap.get? a=some { cls:=.type "list",data:=.seq vs.toArray }) (hi:IntsAre vs ns) (hl:ns.length≤sizeLine) (hr:Room k callerA)
  (F:∀ base:Heap,K.In base→base.Ns mainGlobals mg→FnOk P w K mg base CX k fa fd [x] sp) (hbind:∀ (s:Shared) (u:Value),BindsTo s fd ⟨[u],[]⟩ [(x,u)])
  (hsp:∀ H:Hp,zmI H→SqL K H a (ns.map V.int)→sp [.ref a] H (fun v _=>v = .bl true) fun _ _ _=>False)
  (hCX:∀ H e s',CX [] H s₁ (fun _ _ _=>False) e s'→False) :
  codeAny (model P w) callerA (.call (.ref fa) ⟨[.ref a],[]⟩) (fun r s'=>r = .ok (.ret (.bool true))∧OldK s₁.heap s'.heap∧s'.os=s₁.os∧AllBare s'.gens) s₁:=by
 have rv:=zff hi
 have lenV:=hi.length
 have core:∀ H:Hp,zmI H→SqL K H a (ns.map V.int)→HOk P w H s₁.heap→(∀ b,H b≠none→b=a)→(H a≠none→K.lookup a=none) →
   codeAny (model P w) callerA (.call (.ref fa) ⟨[.ref a],[]⟩) (fun r s'=>r = .ok (.ret (.bool true))∧OldK s₁.heap s'.heap∧s'.os=s₁.os∧AllBare s'.gens) s₁:=by
  intro H hO hS hok hA hK
  have base_of:∀ {b:Addr} {o:Obj},s₁.heap.get? b=some o→H b=none→(zft s₁.heap H).get? b=some o:=fun e n=>zjp e n
  have noA:∀ {b:Addr} {o:Obj} {es:Array DictEntry} {ep:Nat},s₁.heap.get? b=some o→o.data = .dict es ep→H b=none:=fun {b o es ep} e d=>by
   cases q:H b with
   | none=>rfl
   | some u =>
    have e':b=a:=hA b (by rw [q]; simp)
    subst e'
    rw [ha] at e; cases e
    have d':Data.seq vs.toArray _=Data.dict es ep:=d
    cases d'
  have nsK:∀ {b:Addr} {m:Str→Option Value},s₁.heap.Ns b m→(zft s₁.heap H).Ns b m:=fun {b m} ⟨o,es,ep,e,d,r⟩=>⟨o,es,ep,base_of e (noA e d),d,r⟩
  have hKb:K.In (zft s₁.heap H):=fun b o e=>base_of (KX b o e) (by
   cases q:H b with
   | none=>rfl
   | some u =>
    have e':b=a:=hA b (by rw [q]; simp)
    subst e'
    rw [hK (by rw [q]; simp)] at e; cases e)
  have hM:Mod K mg (zft s₁.heap H):=⟨hKb,nsK hns,⟨mb,nsK hb,hbb⟩,let ⟨mc,h1,h2⟩:=hlim; ⟨mc,nsK h1,h2⟩⟩
  have e0:Env0 P w K mg (zft s₁.heap H) callerA [] s₁ H:=⟨rfl,hM,fun b o e=>zk3 e,Nat.le_of_eq (ziq _ _),trivial,fun b hb=>absurd (show b∈([]:List Addr) from hb) (by simp),hok,.of_eq hg⟩
  refine codeAny_mono ((F _ hKb (nsK hns)).run callerA [] s₁ H ⟨[.ref a],[]⟩ [.ref a] [.ref a] _ _ hr e0 (hbind s₁ (.ref a)) (.cons rfl .nil) (hsp H hO hS)) fun r s' h=>?_
  cases r with
  | error e=>exact (hCX H e s' h).elim
  | ok fl =>
   cases fl with
   | next=>exact False.elim h
   | brk=>exact False.elim h
   | cont=>exact False.elim h
   | ret u =>
    obtain⟨v,H',os,bare,un,hok',r',q⟩:=h
    have q':v = .bl true:=q
    subst q'
    obtain rfl:u=Value.bool true:=r'
    refine⟨rfl,OldK.of_keep fun b o e=>?_,os,bare⟩
    cases q:H b with
    | none=>exact un.keep b o e q (by intro z; exact absurd (show b∈([]:List Addr) from z) (by simp)) (by simp)
    | some u =>
     rcases hO b with z | ⟨ob,xs,z⟩
     ·rw [q] at z; cases z
     ·have z2:=un.frzs b ob _ z
      obtain⟨e1,_⟩:=hok b _ z
      obtain⟨e2,_⟩:=hok' b _ z2
      rw [e] at e1; cases e1
      exact e2
 cases hk:K.lookup a with
 | some o =>
  have e:=KX a o hk
  rw [ha] at e
  cases e
  refine core (fun _=>none) (fun _=>.inl rfl) (.inr ⟨_,vs.toArray,_,hk,rfl,rfl,rfl,by rw [List.size_toArray,lenV]; exact hl,by simpa using rv⟩) (fun b u z=>by have z':(none:Option HO)=some u:=z; cases z') (fun b z=>absurd rfl z) fun z=>absurd rfl z
 | none =>
  refine core (fun b=>if b=a then some (.frz { cls:=.type "list",data:=.seq vs.toArray } (.lst (ns.map V.int))) else none) (fun b=>?_) (.inl (.inr ⟨{ cls:=.type "list",data:=.seq vs.toArray },if_pos rfl⟩)) (fun b u z=>?_) (fun b z=>?_) fun _=>hk
  ·by_cases hb:b=a
   ·exact .inr ⟨_,_,if_pos hb⟩
   ·exact .inl (if_neg hb)
  ·by_cases hb:b=a
   ·have z':=(if_pos hb).symm.trans z
    cases z'
    subst hb
    exact⟨ha,by rw [List.length_map]; exact hl,vs,_,rv,ha⟩
   ·have z':=(if_neg hb).symm.trans z
    cases z'
  ·by_cases hb:b=a
   ·exact hb
   ·exact absurd (if_neg hb) z
theorem zlc {l:PySem.W.OpenLaw} {n k:Nat} {q:Program} {loose:List Str} {XP:(Str→Option Value)→Heap→Prop} {YP:World→Heap→Prop} {d:DefRec} {K:Params→PySem.W.Frag} {CX:World→CXT} {sp:World→Sp} {x:Str}
  (hn:l.most=some n) (hn2:n≤sizeLine) (hdf:d.params.defaults = []) (hr:Room k callerA)
  (hY:∀ (w:World) (h:Heap),YP w h→(K w.params).In h)
  (F:∀ (w:World) (mg:Str→Option Value) (fa:Addr) (h:Heap),(K w.params).In h→h.Ns mainGlobals mg→mg d.name=some (.ref fa) →
   ∃ fd:FuncData,(∀ (s:Shared) (u:Value),BindsTo s fd ⟨[u],[]⟩ [(x,u)]) ∧
    ∀ base:Heap,(K w.params).In base→base.Ns mainGlobals mg→FnOk l.prog w (K w.params) mg base (CX w) k fa fd [x] (sp w))
  (hsp:∀ (w:World) (H:Hp) (a:Addr) (ns:List Int),ns.length≤n→zmI H→SqL (K w.params) H a (ns.map V.int)→sp w [.ref a] H (fun v _=>v = .bl true) fun _ _ _=>False)
  (hCX:∀ (w:World) (H:Hp) (s:Shared) (e:Value) (s':Shared),CX w [] H s (fun _ _ _=>False) e s'→False) :
  PySem.W.WalkO q loose XP YP l.row.toRowW d [] (fun f vs=>PySem.call f vs):=by
 refine Att.attach_call hn hdf fun w s₀ s₁ mg mb fa o pm cd doc a vs ns G Y ho hd hcd hmg hobj hints hlen hg=>?_
 have KX:=hY w _ Y
 obtain⟨fd,hb,hF⟩:=F w mg fa _ KX G.T.g hmg
 exact zjD KX G.T.g G.T.b G.T.builtins G.T.nolimit hg hobj hints (Nat.le_trans hlen hn2) hr hF hb (fun H hO hS=>hsp w H a ns hlen hO hS) fun H e s'=>hCX w H s₁ e s'
def zbz (s:Stmt):Arguments:=match s with
 | .FunctionDef _ a _ _ _ _ _ _ _ _=>a
 | _=>{ posonlyargs:=[],args:=[],vararg:=none,kwonlyargs:=[],kw_defaults:=[],kwarg:=none,defaults:=[] }
def za5 (s:Stmt):List Stmt:=match s with
 | .FunctionDef _ _ b _ _ _ _ _ _ _=>b
 | _=>[]
def zh (s:Stmt):Scope:=match s with
 | .FunctionDef _ _ _ _ _ _ sc _ _ _=>sc
 | _=>{ kind:=.function,names:=[],isGenerator:=false,isCoroutine:=false }
abbrev CX0:CXT:=fun _ _ _ _ _ _=>False
abbrev E0:XK:=fun _ _ _=>False
theorem zN {X:Cx}:zem CX0 X E0:=fun _ _ _ _ _ _ _ h=>h.elim
structure Fun (K:PySem.W.Frag) (x qual:Str) (st:Stmt) (f:Addr) (fd:FuncData):Prop where
 ex:∃ (oc:Value) (od:Option Addr) (kV doc pm:Value) (an:Option Addr) (cdv ct:Value) (osl:Array (Option Value)),
  fd=PySem.W.fnOf x qual (zbz st) (za5 st) (zh st) .none kV doc pm an cdv ct∧K.lookup f=some ⟨oc,od,.func fd,osl⟩∧PySem.W.codeIn K cdv qual=true
 kp:PySem.W.keepIn K (.ref f)=true
section
variable {P:Program} {w:World} {K:PySem.W.Frag} {mg:Str→Option Value} {base:Heap}
theorem Fun.ok {x qual:Str} {st:Stmt} {f:Addr} {fd:FuncData} {N ps:List Str} {k:Nat} {sp:Sp} (F:Fun K x qual st f fd) (S:FnScope N ps (zh st)) (len:∀ vs H Q E,sp vs H Q E→vs.length=ps.length)
  (hbody:∀ (cdv:Value) (A:Around) (outer:List Env) (s:Shared) (H:Hp) (vs:List V) (Q:VK) (E:XK),Room k (A.deeper (envOfC qual (zh st) s.heap.objs.size f cdv))→sp vs H Q E →
   ∃ t,PSs (zby CX0 P w K mg base N qual (zh st) f cdv A outer s H E).nox (za5 st) t∧t { nx:=fun _ H'=>Q .non H',rt:=Q } (start N vs) H):FnOk P w K mg base CX0 (k+1) f fd ps sp:=by
 obtain⟨oc,od,kV,doc,pm,an,cdv,ct,osl,rfl,lk,hcd⟩:=F.ex
 refine zl9 lk hcd S len fun A outer s H vs Q E hr hsp=>?_
 obtain⟨t,h,q⟩:=hbody cdv A outer s H vs Q E hr hsp
 exact⟨t,h.nox,q⟩
theorem Fun.binds {x qual:Str} {st:Stmt} {f:Addr} {fd:FuncData} {ps:List Str} (F:Fun K x qual st f fd)
  (h:∀ (kV doc pm:Value) (an:Option Addr) (cdv ct:Value) (us:List Value),us.length=ps.length→bindArgs (PySem.W.fnOf x qual (zbz st) (za5 st) (zh st) .none kV doc pm an cdv ct) ⟨us,[]⟩=pure (ps.zip us)):Binds K fd ps []:=by
 obtain⟨oc,od,kV,doc,pm,an,cdv,ct,osl,rfl,lk,hcd⟩:=F.ex
 exact .all (h kV doc pm an cdv ct)
theorem zjE {x qual:Str} {st:Stmt} {f:Addr} {oc:Value} {od an:Option Addr} {osl:Array (Option Value)} {kV doc pm cdv ct:Value} (l:K.lookup f=some ⟨oc,od,.func (PySem.W.fnOf x qual (zbz st) (za5 st) (zh st) .none kV doc pm an cdv ct),osl⟩)
  (c:PySem.W.codeIn K cdv qual=true) (k:PySem.W.keepIn K (.ref f)=true):Fun K x qual st f (PySem.W.fnOf x qual (zbz st) (za5 st) (zh st) .none kV doc pm an cdv ct):=⟨⟨oc,od,kV,doc,pm,an,cdv,ct,osl,rfl,l,c⟩,k⟩
end
theorem zeT {A B:Prop} (h:B):if false=true then A else B:=by
 rw [if_neg Bool.false_ne_true]
 exact h
theorem zld {A B:Prop} (h:A):if true=true then A else B:=by
 rw [if_pos rfl]
 exact h
theorem zaq {c A B:Prop} [Decidable c] (h1:c→A) (h2:¬ c→B):if c then A else B:=by
 by_cases h:c
 ·rw [if_pos h]
  exact h1 h
 ·rw [if_neg h]
  exact h2 h
def zw (H H':Hp):Prop:=∀ b o,H b=some o→H' b=some o
theorem zw.trans {H H1 H2:Hp} (a:zw H H1) (b:zw H1 H2):zw H H2:=fun c o h=>b c o (a c o h)
theorem zw.free {H H':Hp} (e:zw H H') {l:Addr} (h:H' l=Option.none):H l=Option.none:=by
 cases q:H l with
 | none=>rfl
 | some o =>
  rw [e l o q] at h
  cases h
theorem zw.seq {K:PySem.W.Frag} {H H':Hp} {a:Addr} {xs:List V} (e:zw H H') (h:SqL K H a xs):SqL K H' a xs:=by
 rcases h with (h | ⟨o,h⟩) | h
 ·exact .inl (.inl (e _ _ h))
 ·exact .inl (.inr ⟨o,e _ _ h⟩)
 ·exact .inr h
end L2
section
set_option maxHeartbeats 4000000
namespace L2
open PySem PySem.Spec PyProof.Rows
def zag (cs:List (Str×Addr)):List (Str×NameKind)→List (Str×Addr)→List (Str×Addr)
 | [],acc=>acc
 | (n,k) :: r,acc=>if k == .free then zag cs r ((n,(cs.lookup n).getD 0) :: acc) else zag cs r acc
theorem zcQ {scope:Scope} {env:Env} (h:∀ y∈scope.names,y.2 = .free→∃ c,env.cells.lookup y.1=some c) :
  closureFor scope env=pure (zag env.cells scope.names []):=by
 have go:∀ (names:List (Str×NameKind)) (acc:List (Str×Addr)),(∀ y∈names,y.2 = .free→∃ c,env.cells.lookup y.1=some c) →
   (forIn names acc (fun (x:Str×NameKind) (cs:List (Str×Addr))=>(if (x.2 == NameKind.free)=true then do
    let a ← cellOf env x.1
    pure (ForInStep.yield ((x.1,a) :: cs)) else pure (ForInStep.yield cs):Sem (ForInStep (List (Str×Addr))))))=(pure (zag env.cells names acc):Sem _):=by
  intro names
  induction names with
  | nil=>intro acc _; rfl
  | cons y r ih =>
   intro acc hy
   obtain⟨n,k⟩:=y
   rw [List.forIn_cons]
   cases hk:(k == NameKind.free) with
   | true =>
    obtain⟨c,hc⟩:=hy (n,k) List.mem_cons_self (by simpa using hk)
    have hcell:cellOf env n=pure c:=by
     unfold cellOf
     have hc':env.cells.lookup n=some c:=hc
     rw [hc']
    simp only [hk,if_true,hcell]
    have e:=ih ((n,c) :: acc) fun y hy'=>hy y (List.mem_cons_of_mem _ hy')
    have hc':env.cells.lookup n=some c:=hc
    simp only [zag,hk,if_true,hc',Option.getD_some]
    exact e
   | false =>
    simp only [hk,Bool.false_eq_true,if_false]
    have e:=ih acc fun y hy'=>hy y (List.mem_cons_of_mem _ hy')
    simp only [zag,hk,Bool.false_eq_true,if_false]
    exact e
 have e:=go scope.names [] h
 unfold closureFor
 show (forIn scope.names [] _ >>= fun cs=>pure cs)=_
 first
  | (rw [e]; rfl)
  | (simp only []; rw [e]; rfl)
  | (have e':=e; simp at e' ⊢; exact e')
theorem zbF {cs:List (Str×Addr)}:∀ (names:List (Str×NameKind)) (acc:List (Str×Addr)),
  (∀ y∈names,y.2 = .free→∃ c,cs.lookup y.1=some c)→(∀ x c,acc.lookup x=some c→cs.lookup x=some c) →
  ∀ x c,(zag cs names acc).lookup x=some c→cs.lookup x=some c
 | [],acc,_,h,x,c,e=>h x c e
 | (n,k) :: r,acc,hy,h,x,c,e=>by
  have hr:∀ y∈r,y.2 = .free→∃ c,cs.lookup y.1=some c:=fun y hy'=>hy y (List.mem_cons_of_mem _ hy')
  unfold zag at e
  cases hk:(k == NameKind.free) with
  | false =>
   rw [hk] at e
   exact zbF r acc hr h x c e
  | true =>
   rw [hk] at e
   obtain⟨d,hd⟩:=hy (n,k) List.mem_cons_self (by simpa using hk)
   have hd':cs.lookup n=some d:=hd
   refine zbF r _ hr (fun x c e'=>?_) x c e
   rw [hd',Option.getD_some,List.lookup_cons] at e'
   cases hx:(x == n) with
   | true =>
    rw [hx] at e'
    have:x=n:=by simpa using hx
    subst this
    rw [hd']
    exact e'
   | false =>
    rw [hx] at e'
    exact h x c e'
theorem zb4 {cs:List (Str×Addr)}:∀ (names:List (Str×NameKind)) (acc:List (Str×Addr)) (x:Str),
  ((∃ c,acc.lookup x=some c)∨(x,NameKind.free)∈names)→∃ c,(zag cs names acc).lookup x=some c
 | [],acc,x,h=>by
  rcases h with h | h
  ·exact h
  ·cases h
 | (n,k) :: r,acc,x,h=>by
  unfold zag
  cases hk:(k == NameKind.free) with
  | false =>
   refine zb4 r acc x ?_
   rcases h with h | h
   ·exact .inl h
   ·rcases List.mem_cons.mp h with h | h
    ·cases h
     exact absurd hk (by decide)
    ·exact .inr h
  | true =>
   refine zb4 r _ x ?_
   cases hx:(x == n) with
   | true=>exact .inl ⟨_,by rw [List.lookup_cons,hx]⟩
   | false =>
    rcases h with ⟨c,h⟩ | h
    ·exact .inl ⟨c,by rw [List.lookup_cons,hx]; exact h⟩
    ·rcases List.mem_cons.mp h with h | h
     ·cases h
      simp at hx
     ·exact .inr h
theorem lookup_mem {α:Type}:∀ {l:List (Str×α)} {x:Str} {k:α},l.lookup x=some k→(x,k)∈l
 | [],x,k,h=>by simp at h
 | (n,j) :: r,x,k,h=>by
  rw [List.lookup_cons] at h
  cases hx:(x == n) with
  | true =>
   rw [hx] at h
   have:x=n:=by simpa using hx
   subst this
   cases h
   exact List.mem_cons_self
  | false =>
   rw [hx] at h
   exact List.mem_cons_of_mem _ (lookup_mem h)
theorem zbq {env:Env}:∀ {names:List (Str×NameKind)} {x:Str},names.lookup x=some .free →
  (names.map fun (n,k)=>if (k == NameKind.free && env.scope.kind == .function && env.kindOf n == some .cell) then (n,NameKind.cell) else (n,k)).lookup x=some .cell ∨
  (names.map fun (n,k)=>if (k == NameKind.free && env.scope.kind == .function && env.kindOf n == some .cell) then (n,NameKind.cell) else (n,k)).lookup x=some .free
 | [],_,h=>by simp at h
 | (n,k) :: r,x,h=>by
  have ih:=@zbq env r x
  simp only [List.map_cons]
  cases hx:x == n with
  | true =>
   simp only [List.lookup_cons,hx] at h; cases h
   by_cases hc:(NameKind.free == NameKind.free && env.scope.kind == .function && env.kindOf n == some .cell)=true
   ·rw [if_pos hc]; left; simp only [List.lookup_cons,hx]
   ·rw [if_neg hc]; right; simp only [List.lookup_cons,hx]
  | false =>
   simp only [List.lookup_cons,hx] at h; rcases Classical.em ((k == NameKind.free && env.scope.kind == .function && env.kindOf n == some .cell)=true) with hc | hc
   ·exact (by rw [if_pos hc]; simp only [List.lookup_cons,hx]; exact ih h)
   ·exact (by rw [if_neg hc]; simp only [List.lookup_cons,hx]; exact ih h)
theorem zc4 {env:Env}:∀ {names:List (Str×NameKind)} {x:Str},
  ((names.map fun (n,k)=>if (k == NameKind.free && env.scope.kind == .function && env.kindOf n == some .cell) then (n,NameKind.cell) else (n,k)).lookup x=some .cell ∨
  (names.map fun (n,k)=>if (k == NameKind.free && env.scope.kind == .function && env.kindOf n == some .cell) then (n,NameKind.cell) else (n,k)).lookup x=some .free) →
  names.lookup x=some .free∨names.lookup x=some .cell
 | [],_,h=>by simp at h
 | (n,k) :: r,x,h=>by
  have ih:=@zc4 env r x
  simp only [List.map_cons] at h
  cases hx:x == n with
  | true =>
   rcases Classical.em ((k == NameKind.free && env.scope.kind == .function && env.kindOf n == some .cell)=true) with hc | hc
   ·have hk:k = .free:=by
     simp only [Bool.and_eq_true] at hc; simpa using hc.1.1
    subst hk
    exact .inl (by simp only [List.lookup_cons,hx])
   ·rw [if_neg hc] at h
    simp only [List.lookup_cons,hx] at h ⊢
    rcases h with h | h
    ·exact .inr h
    ·exact .inl h
  | false =>
   rcases Classical.em ((k == NameKind.free && env.scope.kind == .function && env.kindOf n == some .cell)=true) with hc | hc
   ·rw [if_pos hc] at h
    simp only [List.lookup_cons,hx] at h ⊢
    exact ih h
   ·rw [if_neg hc] at h
    simp only [List.lookup_cons,hx] at h ⊢
    exact ih h
end L2
end
section
set_option maxHeartbeats 4000000
namespace L2
open PySem PySem.Spec PyProof.Rows
theorem zfB:∀ (names:List (Str×NameKind)) (n:Nat) (acc:List (Str×Addr)) (x:Str),(x,NameKind.cell)∉names→(cellsFrom n names acc).lookup x=acc.lookup x
 | [],_,_,_,_=>rfl
 | (y,k) :: r,n,acc,x,h=>by
  have hr:(x,NameKind.cell)∉r:=fun z=>h (List.mem_cons_of_mem _ z)
  unfold cellsFrom
  split
  ·rename_i hk
   have hk':k = .cell:=by simpa using hk
   rw [zfB r _ _ x hr,List.lookup_cons]
   cases hx:(x == y) with
   | true =>
    have:x=y:=by simpa using hx
    subst this
    subst hk'
    exact absurd List.mem_cons_self h
   | false=>rfl
  ·exact zfB r _ _ x hr
theorem zfC:∀ (names:List (Str×NameKind)) (n:Nat) (acc:List (Str×Addr)) (x:Str),(x,NameKind.cell)∈names→∃ c,(cellsFrom n names acc).lookup x=some c∧n≤c
 | (y,k) :: r,n,acc,x,h=>by
  by_cases hr:(x,NameKind.cell)∈r
  ·unfold cellsFrom
   split
   ·obtain⟨c,e,l⟩:=zfC r (n+1) ((y,n) :: acc) x hr
    exact⟨c,e,by omega⟩
   ·exact zfC r n acc x hr
  ·rcases List.mem_cons.mp h with e | e
   ·cases e
    unfold cellsFrom
    rw [if_pos (by decide),zfB r _ _ _ hr,List.lookup_cons,beq_self_eq_true]
    exact⟨n,rfl,Nat.le_refl _⟩
   ·exact absurd e hr
structure CO (h:Heap) (lo:Nat) (old cs:List (Str×Addr)):Prop where
 each:∀ x c,cs.lookup x=some c→(h.IsCell c none∧lo≤c)∨(old.lookup x=some c∧c < lo)
 inj:∀ x y c,cs.lookup x=some c→cs.lookup y=some c→x=y
theorem zjF {lo:Nat} {old:List (Str×Addr)}:∀ (names:List (Str×NameKind)) (h:Heap) (acc:List (Str×Addr)),CO h lo old acc→lo≤h.objs.size→CO (pushCells h names) lo old (cellsFrom h.objs.size names acc)
 | [],_,_,a,_=>a
 | (y,k) :: r,h,acc,a,hl=>by
  unfold pushCells cellsFrom
  split
  ·have lt:∀ x c,acc.lookup x=some c→c < h.objs.size:=fun x c e=>(a.each x c e).elim (fun z=>z.1.lt) fun z=>Nat.lt_of_lt_of_le z.2 hl
   have key:∀ x c,List.lookup x ((y,h.objs.size) :: acc)=some c→(x=y∧c=h.objs.size)∨acc.lookup x=some c:=fun x c e=>by
    rw [List.lookup_cons] at e
    cases hx:(x == y) with
    | true =>
     rw [hx] at e
     exact .inl ⟨by simpa using hx,(Option.some.inj e).symm⟩
    | false =>
     rw [hx] at e
     exact .inr e
   have:=zjF (lo:=lo) (old:=old) r (h.push { cls:=.type "cell",data:=.cell none }) ((y,h.objs.size) :: acc) ⟨fun x c e=>?_,fun x z c e1 e2=>?_⟩ (by rw [Heap.size_push]; omega)
   ·rw [Heap.size_push] at this
    exact this
   ·rcases key x c e with ⟨_,rfl⟩ | e
    ·exact .inl ⟨⟨_,Heap.get?_push_size _ rfl,rfl⟩,hl⟩
    ·rcases a.each x c e with z | z
     ·exact .inl ⟨z.1.keeps fun b o e=>Heap.get?_push_of_some _ e,z.2⟩
     ·exact .inr z
   ·rcases key x c e1 with ⟨p1,q1⟩ | f1 <;> rcases key z c e2 with ⟨p2,q2⟩ | f2
    ·exact p1.trans p2.symm
    ·exact absurd (lt _ _ f2) (by rw [q1]; exact Nat.lt_irrefl _)
    ·exact absurd (lt _ _ f1) (by rw [q2]; exact Nat.lt_irrefl _)
    ·exact a.inj x z c f1 f2
  ·exact zjF r h acc a hl
theorem zix {M:Model} {A:Around} {E:Value→Shared→Prop} {s:Shared} {scope:Scope} {globals:Addr} {closure:List (Str×Addr)} {qual:Str} {env:Env} {Q:Env→Shared→Prop}
  (h:Q (newEnv scope s.heap.objs.size globals (cellsFrom (s.heap.objs.size+1) scope.names closure) qual none .none (some env) builtinsNs) { s with heap:=pushCells (s.heap.push { cls:=.type "dict",data:=.dict #[] }) scope.names }) :
  wpAny M A (newFunctionEnv scope globals closure [] qual none .none (some env)) Q E s:=by
 (simp only [newFunctionEnv,Option.isSome_some,if_true])
 (refine wpAny_bind (wpAny_alloc ?_))
 (refine wpAny_bind (wpAny_layCells _ (fun name kind cells=>by cases hkc:kind == NameKind.cell <;> simp [hkc]) _ _ _ _ ?_))
 rw [show ({ s with heap:=s.heap.push { cls:=.type "dict",data:=.dict #[] } }:Shared).heap.objs.size=s.heap.objs.size+1 from Heap.size_push ..]
 (exact wpAny_bind (wpAny_pure (wpAny_pure h)))
abbrev zQ (X:Cx) (N':List Str) (scope:Scope) (s₃:Shared) (H₃:Hp) (ex:List Addr) (pins:List (Addr×Obj)):Cx :=
 { X with N:=N',s₀:=s₃,H₀:=H₃,env:=compEnvC scope (cellsFrom (s₃.heap.objs.size+1) scope.names (zag X.env.cells scope.names [])) s₃.heap.objs.size X.env,outer:=X.stack,stack:=X.stack,ex:=ex,fn:=fun x=>scope.names.lookup x == some .cell,pn:=X.pn++pins,xe:=fun _ _=>False }
def zhd (ifs:List Expr) (env:Env):Sem Bool :=
 forIn ifs true fun c r=>if r=true then do let ok ← isTrue c env (eval c env); pure (ForInStep.yield ok) else pure (ForInStep.yield r)
def zdU (X:Cx) (ifs:List Expr) (t:TT):Prop :=
 ∀ (pins:List (Addr×Obj)) (s:Shared) (σ:St) (H:Hp) (Q:Bool→Hp→Prop),Inv X pins σ H s→t σ H Q→wpAny (model X.prog X.w) X.A (zhd ifs X.env) (TP X pins σ Q) X.xe s
def zle:TT:=fun _ H Q=>Q true H
theorem zr {X:Cx}:zdU X [] zle:=fun _ _ _ H _ I h=>wpAny_pure ⟨H,I,h⟩
theorem zbP {X:Cx} {c:Expr} {t:TT} (h:PT X c t):zdU X [c] t:=by
 intro pins s σ H Q I hw
 unfold zhd
 rw [List.forIn_cons]
 simp only [if_true]
 exact wpAny_bind (wpAny_bind (thn (h pins s σ H _ I hw) fun b s1 q=>wpAny_pure (wpAny_pure q)))
structure CompSc (X:Cx) (N':List Str) (ix:List (Option Nat)) (scope:Scope):Prop where
 kind:scope.kind = .function
 cells:∀ y∈scope.names,y.2 = .cell→scope.names.lookup y.1=some .cell
 names:∀ y∈scope.names,y.2 = .local→scope.names.lookup y.1=some .local
 free:∀ y∈scope.names,y.2 = .free→X.env.kindOf y.1=some .cell∨X.env.kindOf y.1=some .free
 len:N'.length=ix.length
 cap:∀ j i:Nat,ix[j]? = some (some i)→∃ x,N'[j]? = some x∧X.N[i]? = some x∧scope.names.lookup x=some .free
def zh0 (osc:Scope) (oN N':List Str) (ix:List (Option Nat)) (scope:Scope):Bool :=
 (scope.kind == .function) && (scope.names.all fun y=>y.2 != .cell || scope.names.lookup y.1 == some .cell) && (scope.names.all fun y=>y.2 != .local || scope.names.lookup y.1 == some .local) &&
 (scope.names.all fun y=>y.2 != .free || (osc.names.lookup y.1 == some .cell || osc.names.lookup y.1 == some .free)) && (N'.length == ix.length) &&
 ((List.range ix.length).all fun j=>match ix[j]? with
  | some (some i)=>(match N'[j]? with
   | some x=>oN[i]? == some x && scope.names.lookup x == some .free
   | none=>false)
  | _=>true)
theorem CompSc.of {X:Cx} {N':List Str} {ix:List (Option Nat)} {scope:Scope} (osc:Scope) (oN:List Str) (h1:X.env.scope=osc) (h2:X.N=oN) (hb:zh0 osc oN N' ix scope=true):CompSc X N' ix scope:=by
 unfold zh0 at hb
 simp only [Bool.and_eq_true,List.all_eq_true] at hb
 obtain⟨⟨⟨⟨⟨a,b⟩,c⟩,d⟩,e⟩,f⟩:=hb
 refine⟨?_,fun y hy hl=>?_,fun y hy hl=>?_,fun y hy hf=>?_,by simpa using e,fun j i hj=>?_⟩
 ·revert a
  cases scope.kind <;> first | (intro _; rfl) | (intro h; exact absurd h (by decide))
 ·have:=b y hy
  rw [hl] at this
  simpa using this
 ·have:=c y hy
  rw [hl] at this
  simpa using this
 ·have:=d y hy
  rw [hf] at this
  have e1:X.env.kindOf y.1=osc.names.lookup y.1:=by rw [← h1]; rfl
  rw [e1]
  simpa using this
 ·have hlt:j < ix.length:=(List.getElem?_eq_some_iff.mp hj).1
  have:=f j (List.mem_range.mpr hlt)
  rw [hj] at this
  cases hN:N'[j]? with
  | none =>
   rw [hN] at this
   simp at this
  | some x =>
   rw [hN] at this
   refine⟨x,rfl,?_⟩
   rw [h2]
   simpa using this
def zc5 (ix:List (Option Nat)) (σ:St):St:=ix.map fun o=>match o with
 | none=>none
 | some i=>(σ[i]?).join
theorem Inv.track {X:Cx} {pins:List (Addr×Obj)} {σ:St} {H:Hp} {s:Shared} {D:Addr} {o:HO} (I:Inv X pins σ H s) (hn:H D=none) (hs:X.s₀.heap.objs.size≤D) (hL:X.env.locals≠D)
  (hC:∀ x c,X.env.cells.lookup x=some c→c≠D) (hp:∀ p∈X.pn++pins,p.1≠D) (ok:zab X.prog X.w (upd H D o) s.heap D o):Inv X pins σ (upd H D o) s:=by
 have ne:∀ b u,H b=some u→b≠D:=fun b u e=>zq e hn
 refine⟨I.ok,I.os,I.bare,⟨I.base.keep,I.base.slot,fun b u e n hx=>?_,I.base.there,fun b xs e=>?_,fun b u xs e=>?_,fun b ps e=>?_⟩,I.loc,I.cell,?_,fun x c e=>?_,fun p hp'=>?_,fun b u e=>?_,I.len⟩
 ·have:b≠D:=Nat.ne_of_lt (Nat.lt_of_lt_of_le (Heap.lt_size e) hs)
  rw [zl this]
  exact I.base.free b u e n hx
 ·have:=I.base.tups b xs e
  rw [zl (ne b _ this)]
  exact this
 ·have:=I.base.frzs b u xs e
  rw [zl (ne b _ this)]
  exact this
 ·obtain⟨more,q⟩:=I.base.tbls b ps e
  exact⟨more,by rw [zl (ne b _ q)]; exact q⟩
 ·rw [zl hL]
  exact I.free
 ·rw [zl (hC x c e)]
  exact I.freeC x c e
 ·obtain⟨a1,a2,a3⟩:=I.pin p hp'
  exact⟨a1,by rw [zl (hp p hp')]; exact a2,a3⟩
 ·by_cases hb:b=D
  ·subst hb
   rw [zc] at e
   cases e
   exact ok
  ·rw [zl hb] at e
   exact (I.hok b u e).stay (fun c v _ q=>q) (fun c q=>by rw [zl (ne c _ q)]; exact q) fun c xs q=>by rw [zl (ne c _ q)]; exact q
def cGo (g:TG) (ts:TT) (te:TE) (σ0:St) (J:It) (Q:VK) (H1:Hp):Prop :=
 ∃ W:Nat→Nat→List V→Hp→Prop,(∃ m,W 0 m [] H1)∧∀ i m ys H,W i m ys H →
  (J.stop i H∧∀ D,H D=none→Q (.ref D) (upd H D (.lst ys))) ∨
  (J.go i H∧∃ N:List V→Hp→Prop,(∀ ys' H',N ys' H'→∃ m',m' < m∧W (i+1) m' ys' H')∧∀ x H',J.yld i H x H'→g x σ0 H' fun σ2 H2=>ts σ2 H2 fun b H3 =>
   if b=true then te σ2 H3 fun y H4=>ys.length < sizeLine∧N (ys++[y]) H4 else N ys H3)
def zma (ix:List (Option Nat)) (wi:TI) (g:TG) (ts:TT) (te:TE):TE:=fun σ H Q=>wi σ H fun J H1=>cGo g ts te (zc5 ix σ) J Q H1
theorem zI {J:It} {n:Nat} {g:TG} {ts:TT} {te:TE} {σ0:St} {Q:VK} {H:Hp} (Pv:Nat→List V→Hp→Prop) (h0:Pv 0 [] H) (hgo:∀ i ys H,i < n→Pv i ys H→J.go i H) (hst:∀ ys H,Pv n ys H→J.stop n H)
  (hs:∀ i x ys H H',i < n→Pv i ys H→J.yld i H x H'→g x σ0 H' fun σ2 H2=>ts σ2 H2 fun b H3=>if b=true then te σ2 H3 fun y H4=>ys.length < sizeLine∧Pv (i+1) (ys++[y]) H4 else Pv (i+1) ys H3)
  (hd:∀ ys H D,Pv n ys H→H D=none→Q (.ref D) (upd H D (.lst ys))):cGo g ts te σ0 J Q H:=by
 refine⟨fun i m ys H=>m=n - i∧i≤n∧Pv i ys H,⟨n,by simp,Nat.zero_le _,h0⟩,?_⟩
 rintro i m ys H ⟨rfl,hi,p⟩
 by_cases hlt:i < n
 ·exact .inr ⟨hgo i ys H hlt p,Pv (i+1),fun ys' H' p'=>⟨n - (i+1),by omega,rfl,hlt,p'⟩,fun x H' y=>hs i x ys H H' hlt p y⟩
 ·have e:i=n:=by omega
  subst e
  exact .inl ⟨hst ys H p,fun D hD=>hd ys H D p hD⟩
theorem zjG {J:It} {n:Nat} {g:TG} {tb:TS} {D:Ends} {σ:St} {H:Hp} (Pv:Nat→St→Hp→Prop) (h0:Pv 0 σ H) (hgo:∀ i σ H,i < n→Pv i σ H→J.go i H) (hst:∀ σ H,Pv n σ H→J.stop n H)
  (hs:∀ i x σ H H',i < n→Pv i σ H→J.yld i H x H'→g x σ H' fun σ2 H2=>tb { D with nx:=Pv (i+1),ct:=Pv (i+1),bk:=D.nx } σ2 H2) (hd:∀ σ H,Pv n σ H→D.nx σ H) :
  ∃ W:Nat→Nat→St→Hp→Prop,(∃ m,W 0 m σ H)∧∀ i m σ H,W i m σ H →
   (J.stop i H∧D.nx σ H)∨(J.go i H∧∃ N:St→Hp→Prop,(∀ σ' H',N σ' H'→∃ m',m' < m∧W (i+1) m' σ' H')∧∀ x H',J.yld i H x H'→g x σ H' fun σ2 H2=>tb { D with nx:=N,ct:=N,bk:=D.nx } σ2 H2):=by
 refine⟨fun i m σ H=>m=n - i∧i≤n∧Pv i σ H,⟨n,by simp,Nat.zero_le _,h0⟩,?_⟩
 rintro i m σ H ⟨rfl,hi,p⟩
 by_cases hlt:i < n
 ·exact .inr ⟨hgo i σ H hlt p,Pv (i+1),fun σ' H' p'=>⟨n - (i+1),by omega,rfl,hlt,p'⟩,fun x H' y=>hs i x σ H H' hlt p y⟩
 ·have e:i=n:=by omega
  subst e
  exact .inl ⟨hst σ H p,hd σ H p⟩
end L2
end
section
set_option maxHeartbeats 4000000
namespace L2
open PySem PySem.Spec PyProof.Rows
abbrev TM:=List V→St→Hp→(List V→Hp→Prop)→Prop
abbrev zdV (its:List Value) (nn:Nat):Obj:={ cls:=.type "list",data:=.seq its.toArray nn }
structure AccAt (Y:Cx) (pins:List (Addr×Obj)) (H:Hp) (s:Shared) (D:Addr) (ys:List V) (its:List Value) (nn:Nat):Prop where
 fp:zbE Y pins H D
 here:s.heap.get? D=some (zdV its nn)
 vals:zK ys its
 len:ys.length≤sizeLine
def zfD (js:List Nat) (σ:St):Prop:=∀ j∈js,∀ v,σ[j]?≠some (some v)
def Kp (js:List Nat) (σ σ2:St):Prop:=σ2.length=σ.length∧∀ j,j∉js→σ2[j]? = σ[j]?
theorem Kp.refl {js:List Nat} {σ:St}:Kp js σ σ:=⟨rfl,fun _ _=>rfl⟩
theorem Kp.set {js:List Nat} {σ σ2:St} {i:Nat} {v:Option V} (hi:i∈js) (h:Kp js σ σ2):Kp js σ (σ2.set i v):=by
 refine⟨by rw [List.length_set]; exact h.1,fun j hj=>?_⟩
 rw [List.getElem?_set_ne (fun z=>hj (by rw [← z]; exact hi))]
 exact h.2 j hj
def GS (js:List Nat) (g:TG):Prop:=∀ (σ σ1:St) (x:V) (H:Hp) (Q:St→Hp→Prop),Kp js σ σ1→g x σ1 H Q→g x σ1 H fun σ2 H2=>Kp js σ σ2∧Q σ2 H2
def GSs (js:List Nat) (g:TGs):Prop:=∀ (σ σ1:St) (xs:List V) (H:Hp) (Q:St→Hp→Prop),Kp js σ σ1→g xs σ1 H Q→g xs σ1 H fun σ2 H2=>Kp js σ σ2∧Q σ2 H2
theorem zfE {js:List Nat} {i:Nat} (hi:i∈js):GS js (za1 i):=fun σ σ1 x H Q hw h=>⟨hw.set hi,h⟩
theorem zfF {js:List Nat}:GSs js zjr:=fun σ σ1 xs H Q hw h=>⟨h.1,hw,h.2⟩
theorem zcm {js:List Nat} {i:Nat} {u:TGs} (hi:i∈js) (h2:GSs js u):GSs js (zdD (za1 i) u):=fun σ σ1 xs H Q hw h=>by
 obtain⟨v,r,e,h⟩:=h
 exact⟨v,r,e,h2 σ _ r H Q (hw.set hi) h⟩
theorem zhe {js:List Nat} {K:PySem.W.Frag} {n:Nat} {t:TGs} (h:GSs js t):GS js (zir K n t):=fun σ σ1 x H Q hw hg=>by
 obtain⟨a,xs,e,hq,hl,hg⟩:=hg
 exact⟨a,xs,e,hq,hl,h σ σ1 xs H Q hw hg⟩
theorem Inv.fewer {X:Cx} {pins pins':List (Addr×Obj)} {σ:St} {H:Hp} {s:Shared} (I:Inv X pins σ H s) (h:∀ p∈pins',p∈pins):Inv X pins' σ H s :=
 I.pins_of fun p hp=>I.pin p (List.mem_append_right _ (h p hp))
section
variable {Y:Cx} {pins:List (Addr×Obj)} {σ:St} {H:Hp} {s:Shared} {D:Addr} {ys:List V} {its:List Value} {nn:Nat}
theorem AccAt.pin (a:AccAt Y pins H s D ys its nn) (I:Inv Y pins σ H s):Inv Y (pins++[(D,zdV its nn)]) σ H s :=
 I.pins_of fun p hp=>by
  rcases (List.mem_append.mp hp) with hp | hp
  ·exact I.pin p (List.mem_append_right _ hp)
  ·obtain rfl:p=(D,zdV its nn):=by simpa using hp
   obtain⟨a0,a1,a2,_⟩:=a.fp
   exact⟨a.here,a0,a1,a2,fun v z=>by cases z⟩
theorem AccAt.back {pins':List (Addr×Obj)} {σ':St} {H':Hp} {s':Shared} (a:AccAt Y pins H s D ys its nn) (I:Inv Y pins' σ' H' s') (hm:(D,zdV its nn)∈pins'):AccAt Y pins H' s' D ys its nn:=by
 have p:=I.pin (D,zdV its nn) (List.mem_append_right _ hm)
 exact⟨⟨p.2.1,a.fp.2⟩,p.1,a.vals,a.len⟩
end
def PM (Y:Cx) (D:Addr) (js:List Nat) (mk:Sem Fin→Sem Fin) (tm:TM):Prop :=
 ∀ (last:Sem Fin) (pins:List (Addr×Obj)) (s:Shared) (σ:St) (H:Hp) (ys:List V) (its:List Value) (nn:Nat) (Q:List V→Hp→Prop) (Φ:Fin→Shared→Prop),Inv Y pins σ H s→AccAt Y pins H s D ys its nn→zfD js σ→tm ys σ H Q →
  (∀ (s':Shared) (ys':List V) (its':List Value) (nn':Nat) (H':Hp),Inv Y pins σ H' s'→AccAt Y pins H' s' D ys' its' nn'→Q ys' H'→wpAny (model Y.prog Y.w) Y.A last Φ (fun _ _=>False) s') →
  wpAny (model Y.prog Y.w) Y.A (mk last) Φ (fun _ _=>False) s
def zfg (elt:Expr) (acc:Value) (env:Env) (last:Sem Fin):Sem Fin:=(eval elt env >>= fun x=>call (.builtin "list.append") [acc,x] >>= fun _=>pure ()) >>= fun _=>last
def zh1 (e iter:Expr) (d:Nat) (acc:Value) (env:Env) (last:Sem Fin):Sem Fin :=
 eval iter env >>= fun x=>standAt iter.pos >>= fun _=>foldedSetIterable iter env x >>= fun x=>holding [x] (pyIter x) >>= fun itv=>runOwn (.compStart e d itv acc env) env >>= fun _=>last
def zjH (te:TE):TM:=fun ys σ H Q=>te σ H fun y H4=>ys.length < sizeLine∧Q (ys++[y]) H4
def cIn (g:TG) (ts:TT) (tm:TM) (σ:St) (J:It) (Q:List V→Hp→Prop) (ys:List V) (H1:Hp):Prop :=
 ∃ W:Nat→Nat→List V→Hp→Prop,(∃ m,W 0 m ys H1)∧∀ i m ys H,W i m ys H →
  (J.stop i H∧Q ys H) ∨
  (J.go i H∧∃ N:List V→Hp→Prop,(∀ ys' H',N ys' H'→∃ m',m' < m∧W (i+1) m' ys' H')∧∀ x H',J.yld i H x H'→g x σ H' fun σ2 H2=>ts σ2 H2 fun b H3 =>
   if b=true then tm ys σ2 H3 N else N ys H3)
def zjI (wi:TI) (g:TG) (ts:TT) (tm:TM):TM:=fun ys σ H Q=>wi σ H fun J H1=>cIn g ts tm σ J Q ys H1
def zhf (ix:List (Option Nat)) (wi:TI) (g:TG) (ts:TT) (tm:TM):TE:=fun σ H Q=>wi σ H fun J H1=>cIn g ts tm (zc5 ix σ) J (fun ys H'=>∀ D,H' D=none→Q (.ref D) (upd H' D (.lst ys))) [] H1
theorem thx {α:Type} {X:Cx} {m:Sem α} {P Q:α→Shared→Prop} {E:Value→Shared→Prop} {s:Shared} (hx:X.xe=fun _ _=>False) (h:wpAny (model X.prog X.w) X.A m P X.xe s) (k:∀ a s',P a s'→Q a s'):wpAny (model X.prog X.w) X.A m Q E s :=
 wpAny_mono h k fun _ _ z=>by rw [hx] at z; exact z.elim
theorem zhg {Y:Cx} {D:Addr} {elt:Expr} {te:TE} (hx:Y.xe=fun _ _=>False) (he:PE Y elt te):PM Y D [] (zfg elt (.ref D) Y.env) (zjH te):=by
 intro last pins s σ H ys its nn Q Φ I a no h k
 unfold zfg
 refine wpAny_bind (wpAny_bind (thx hx (he (pins++[(D,zdV its nn)]) s σ H _ (a.pin I) h) fun yv s1 ⟨y,H1,I1,r1,hz,q1⟩=>wpAny_bind ?_))
 have a1:=a.back I1 (List.mem_append_right _ List.mem_cons_self)
 have J1:Inv Y pins σ H1 s1:=I1.fewer fun p hp=>List.mem_append_left _ hp
 have hvl:=a1.vals.length
 refine call_meets F.slot_list_append ⟨_,a1.here,rfl⟩ F.entry_list_append (F.args_list_append_2 _ _) (PySem.list_append D its.toArray nn yv (by rw [List.size_toArray]; omega)) ⟨a1.here,?_⟩
 refine wpAny_pure ?_
 have q:=PySem.IsL.update a1.here (·.push yv)
 have k10:∀ b o,b≠D→s1.heap.get? b=some o→(s1.heap.update D (Obj.mapSeq (·.push yv))).get? b=some o:=fun b o hb e=>(Heap.get?_update_other s1.heap (Obj.mapSeq (·.push yv)) (Ne.symm hb)).trans e
 obtain⟨b0,b1,b2,b3,b4,b5⟩:=a1.fp
 have I11:Inv Y pins σ H1 { s1 with heap:=s1.heap.update D (Obj.mapSeq (·.push yv)) }:=J1.turned (t':=s1.toks) k10 b0 b1 b3 b4 b5
 have e1:its.toArray.push yv=(its++[yv]).toArray:=by simp
 rw [e1] at q
 refine k _ (ys++[y]) (its++[yv]) _ H1 I11 ⟨a1.fp,q,a1.vals.append (.cons r1 .nil),?_⟩ q1
 rw [List.length_append,List.length_singleton]
 omega
section
variable {Y:Cx} {D:Addr} {js js':List Nat} {elt:Expr} {gens:List Comprehension} {scope:Scope} {pos:Pos} {d:Nat} {tg:Expr} {ifs:List Expr} {p:Pos} {mk:Sem Fin→Sem Fin} {g:TG} {ts:TT} {tm:TM}
def zb5 (tg:Expr) (ifs:List Expr) (p:Pos) (mk:Sem Fin→Sem Fin) (c:Code) (it:Value) (env:Env):Sem Fin :=
 standAt p >>= fun _=>pyNext it >>= fun r=>match r with
  | none=>pure (.done .next)
  | some v=>letOwnedTupleGo tg it v >>= fun _=>assign tg env v >>= fun _=>zhd ifs env >>= fun ok=>if ok=true then mk (again c) else again c
theorem zh2 (hc:Y.calm=true) (hx:Y.xe=fun _ _=>False) (hgs:GS js g) (hdis:∀ j∈js,j∉js') (hg:PG Y tg g) (ht:zdU Y ifs ts) (hm:PM Y D js' mk tm)
  (hturn:∀ it,compTurn (.ListComp elt gens scope pos) d it (.ref D) Y.env=zb5 tg ifs p mk (.compLoop (.ListComp elt gens scope pos) d it (.ref D) Y.env) it Y.env)
  {pins:List (Addr×Obj)} {σ:St} {H2:Hp} {s2:Shared} {it:Addr} {fp:List Addr} {tn:Nat→Heap→Prop} {J:It} {Q:List V→Hp→Prop} {R:Result→Shared→Prop} {ys:List V} {its:List Value} {nn:Nat}
  (I2:Inv Y pins σ H2 s2) (a2:AccAt Y pins H2 s2 D ys its nn) (no:zfD (js++js') σ) (T:Turn Y.prog Y.w Y.K tg J fp it tn) (st2:tn 0 s2.heap) (f2:∀ b∈fp,zbE Y pins H2 b) (fD:∀ b∈fp,b≠D) (q:cIn g ts tm σ J Q ys H2)
  (hR:∀ (s':Shared) (ys':List V) (its':List Value) (nn':Nat) (H':Hp),Inv Y pins σ H' s'→AccAt Y pins H' s' D ys' its' nn'→Q ys' H'→R (.ok .next) s') :
  codeAny (model Y.prog Y.w) Y.A (.compLoop (.ListComp elt gens scope pos) d (.ref it) (.ref D) Y.env) R s2:=by
 obtain⟨W,⟨m0,w0⟩,turn⟩:=q
 have fpY:∀ {H':Hp} {its:List Value} {nn:Nat},(∀ b∈fp,H' b=none)→∀ b∈fp,zbE Y (pins++[(D,zdV its nn)]) H' b:=fun {H' its nn} hn b hb=>by
  obtain⟨_,a1,a2,a3,a4,a5⟩:=f2 b hb
  refine⟨hn b hb,a1,a2,a3,a4,fun p hp=>?_⟩
  rcases (List.mem_append.mp hp) with hp | hp
  ·exact a5 p (List.mem_append_left _ hp)
  ·rcases (List.mem_append.mp hp) with hp | hp
   ·exact a5 p (List.mem_append_right _ hp)
   ·obtain rfl:p=(D,zdV its nn):=by simpa using hp
    exact (fD b hb).symm
 refine codeAny_loop rfl (fun n s'=>∃ i ys H' its nn,Inv Y pins σ H' s'∧tn i s'.heap∧(∀ b∈fp,H' b=none)∧AccAt Y pins H' s' D ys its nn∧W i n ys H') ?_ m0
  ⟨0,ys,H2,its,nn,I2,st2,fun b hb=>(f2 b hb).1,a2,w0⟩
 rintro n s5 ⟨i,ys,H5,its,nn,I5,st5,fr5,a5,w5⟩
 show wpAny _ Y.A ((compTurn (.ListComp elt gens scope pos) d (.ref it) (.ref D) Y.env).onRaise (fun x=>do noteFrame x Y.env; theTreesLotGoes x)) _ _ s5
 refine wpAny_noted ?_
 rw [hturn]
 unfold zb5
 have I5p:=a5.pin I5
 (refine wpAny_bind (wpAny_standAt (wpAny_bind ?_)))
 rcases turn i n ys H5 w5 with ⟨stop,qn⟩ | ⟨go,N,hN,step⟩
 ·refine wpAny_mono (T.done Y rfl rfl rfl hc i _ s5 _ H5 (fun _ _=>False) I5p (fpY fr5) st5 stop) (fun r s6 ⟨hr,I6⟩=>?_) fun _ _ z=>z.elim
  subst hr
  exact wpAny_pure (hR s6 ys its nn H5 (I6.fewer fun p hp=>List.mem_append_left _ hp) (a5.back I6 (List.mem_append_right _ List.mem_cons_self)) qn)
 ·refine wpAny_mono (T.item Y rfl rfl rfl hc i _ s5 _ H5 (fun _ _=>False) I5p (fpY fr5) st5 go) (fun r s6 ⟨u,hr,h6⟩=>?_) fun _ _ z=>z.elim
  subst hr
  refine wpAny_bind (wpAny_mono h6 (fun _ s7 ⟨x,H7,I7,r7,y7,st7,fr7⟩=>?_) fun _ _ z=>z.elim)
  have I7':=I7.pinned (fpY fr7) (T.obj _ _ st7)
  refine wpAny_bind (thx hx (hg _ s7 _ H7 x u _ I7' r7 (hgs σ σ x H7 _ Kp.refl (step x H7 y7))) fun _ s8 ⟨σ8,H8,I8,kp,q8⟩=>?_)
  refine wpAny_bind (thx hx (ht _ s8 σ8 H8 _ I8 q8) fun ok s9 ⟨H9,I9,q9⟩=>?_)
  have mD:(D,zdV its nn)∈(pins++[(D,zdV its nn)])++zcj fp s7.heap:=List.mem_append_left _ (List.mem_append_right _ List.mem_cons_self)
  have a9:=a5.back I9 mD
  have K9:Inv Y (pins++zcj fp s7.heap) σ8 H9 s9:=I9.fewer fun p hp=>(List.mem_append.mp hp).elim (fun z=>List.mem_append_left _ (List.mem_append_left _ z)) fun z=>List.mem_append_right _ z
  have wk:∀ (j:Nat) v,σ[j]? = some (some v)→σ8[j]? = some (some v):=fun j v e=>by
   have hj:j∉js:=fun z=>no j (List.mem_append_left _ z) v e
   rw [kp.2 j hj]
   exact e
  have back:∀ {H':Hp} {s':Shared},Inv Y (pins++zcj fp s7.heap) σ8 H' s'→Inv Y pins σ H' s'∧tn (i+1) s'.heap∧∀ b∈fp,H' b=none:=fun {H' s'} I'=>by
   refine⟨(I'.fewer fun p hp=>List.mem_append_left _ hp).weak kp.1.symm wk,T.keep _ _ _ st7 fun b hb o e=>(I'.pin (b,o) (List.mem_append_right _ (List.mem_append_right _ (zb0 hb e)))).1,fun b hb=>?_⟩
   obtain⟨o,e,d⟩:=T.obj _ _ st7 b hb
   exact (I'.pin (b,o) (List.mem_append_right _ (List.mem_append_right _ (zb0 hb e)))).2.1
  cases ok with
  | false =>
   rw [if_neg Bool.false_ne_true] at q9 ⊢
   obtain⟨m',hm',w9⟩:=hN _ _ q9
   obtain⟨b1,b2,b3⟩:=back K9
   exact wpAny_pure ⟨rfl,m',hm',i+1,ys,H9,its,nn,b1,b2,b3,a9,w9⟩
  | true =>
   rw [if_pos rfl] at q9 ⊢
   have a9':AccAt Y (pins++zcj fp s7.heap) H9 s9 D ys its nn:=by
    obtain⟨b0,b1,b2,b3,b4,b5⟩:=a9.fp
    refine⟨⟨b0,b1,b2,b3,b4,fun p hp=>?_⟩,a9.here,a9.vals,a9.len⟩
    rcases (List.mem_append.mp hp) with hp | hp
    ·exact b5 p (List.mem_append_left _ hp)
    ·rcases (List.mem_append.mp hp) with hp | hp
     ·exact b5 p (List.mem_append_right _ hp)
     ·exact fD _ (ze6 hp).1
   have no':zfD js' σ8:=fun j hj v e=>by
    have hj':j∉js:=fun z=>hdis j z hj
    rw [kp.2 j hj'] at e
    exact no j (List.mem_append_right _ hj) v e
   refine wpAny_mono (hm (again _) _ s9 σ8 H9 ys its nn N (fun fin s'=>match fin with | .done f=>R (.ok f) s' | .again c'=>c'=_∧∃ m,m < n∧_) K9 a9' no' q9 fun s' ys' its' nn' H' I' a' n'=>?_) (fun _ _ z=>z) fun _ _ z=>z.elim
   obtain⟨m',hm',w'⟩:=hN _ _ n'
   obtain⟨b1,b2,b3⟩:=back I'
   obtain⟨c0,c1,c2,c3,c4,c5⟩:=a'.fp
   refine wpAny_pure ⟨rfl,m',hm',i+1,ys',H',its',nn',b1,b2,b3,⟨⟨c0,c1,c2,c3,c4,fun p hp=>?_⟩,a'.here,a'.vals,a'.len⟩,w'⟩
   rcases (List.mem_append.mp hp) with hp | hp
   ·exact c5 p (List.mem_append_left _ hp)
   ·exact c5 p (List.mem_append_right _ (List.mem_append_left _ hp))
theorem zgj {prog:Program} {w:World} {A:Around} {R:Result→Shared→Prop} {s:Shared} {iter:Expr} {it acc:Value} {env:Env} (hd:gens[d]? = some ⟨tg,iter,ifs,0⟩)
  (h0:codeAny (model prog w) A (.compLoop (.ListComp elt gens scope pos) d it acc env) R s)
  (h:wpAny (model prog w) A (pyIter it) (fun it' s'=>codeAny (model prog w) A (.compLoop (.ListComp elt gens scope pos) d it' acc env) R s') (fun _ _=>False) s) :
  codeAny (model prog w) A (.compStart (.ListComp elt gens scope pos) d it acc env) R s:=by
 refine codeAny_of_tree ?_
 show wpAny _ _ ((compStart (.ListComp elt gens scope pos) d it acc env).onRaise (fun x=>do noteFrame x env; standAt theWindowsPlace)) _ _ s
 refine wpAny_notedAt ?_
 unfold compStart
 have e1:(clausesOf (.ListComp elt gens scope pos))[d]? = some ⟨tg,iter,ifs,0⟩:=hd
 rw [e1]
 (show wpAny _ _ (ask >>= _) _ _ s)
 (refine wpAny_bind (wpAny_askSetting (wpAny_ite ?_)))
 split
 ·first
   | (exact wpAny_bind (wpAny_pure (wpAny_pure ⟨rfl,h0⟩)))
   | (exact wpAny_pure ⟨rfl,h0⟩)
 ·first
   | exact wpAny_bind (wpAny_rule (wpAny_bind (wpAny_standAt (wpAny_bind (wpAny_mono h (fun it' s' h'=>wpAny_pure (And.intro rfl h')) fun _ _ x=>x.elim)))))
   | (refine wpAny_bind (wpAny_rule ?_); show wpAny _ _ (standAt iter.pos >>= _) _ _ s; exact wpAny_bind (wpAny_standAt (wpAny_bind (wpAny_mono h (fun it' s' h'=>wpAny_pure (And.intro rfl h')) fun _ _ x=>x.elim))))
theorem zmJ {iter:Expr} {wi:TI} (hc:Y.calm=true) (hx:Y.xe=fun _ _=>False) (hgs:GS js g) (hdis:∀ j∈js,j∉js') (hi:PI Y tg iter wi) (hg:PG Y tg g) (ht:zdU Y ifs ts) (hm:PM Y D js' mk tm) (hd:gens[d]? = some ⟨tg,iter,ifs,0⟩)
  (hturn:∀ it,compTurn (.ListComp elt gens scope pos) d it (.ref D) Y.env=zb5 tg ifs p mk (.compLoop (.ListComp elt gens scope pos) d it (.ref D) Y.env) it Y.env)
  (hs:∀ x,foldedSetIterable iter Y.env x=pure x:=by intro _; rfl) :
  PM Y D (js++js') (zh1 (.ListComp elt gens scope pos) iter d (.ref D) Y.env) (zjI wi g ts tm):=by
 intro last pins s σ H ys its nn Q Φ I a no h k
 unfold zh1
 refine wpAny_bind (thx hx (hi (pins++[(D,zdV its nn)]) s σ H _ (a.pin I) h) fun v s1 h1=>wpAny_bind (wpAny_standAt (wpAny_bind ?_)))
 rw [hs v]
 refine wpAny_pure (wpAny_bind (wpAny_holding (thx hx h1 fun itv s2 h2=>?_)))
 obtain⟨it,fp,tn,J,H2,e,I2,T,st2,f2,q⟩:=h2
 subst e
 have a2:=a.back I2 (List.mem_append_right _ List.mem_cons_self)
 have J2:Inv Y pins σ H2 s2:=I2.fewer fun p hp=>List.mem_append_left _ hp
 have f2':∀ b∈fp,zbE Y pins H2 b:=fun b hb=>by
  obtain⟨c0,c1,c2,c3,c4,c5⟩:=f2 b hb
  refine⟨c0,c1,c2,c3,c4,fun p hp=>?_⟩
  rcases (List.mem_append.mp hp) with hp | hp
  ·exact c5 p (List.mem_append_left _ hp)
  ·exact c5 p (List.mem_append_right _ (List.mem_append_left _ hp))
 have fD:∀ b∈fp,b≠D:=fun b hb=>((f2 b hb).2.2.2.2.2 (D,zdV its nn) (List.mem_append_right _ (List.mem_append_right _ List.mem_cons_self))).symm
 have loop:codeAny (model Y.prog Y.w) Y.A (.compLoop (.ListComp elt gens scope pos) d (.ref it) (.ref D) Y.env) (fun r s'=>match r with | .ok f=>wpAny (model Y.prog Y.w) Y.A last Φ (fun _ _=>False) s' | .error e=>cameBackBy (model Y.prog Y.w) Y.A Y.env (fun _ _=>False) e s') s2 :=
  zh2 hc hx hgs hdis hg ht hm hturn J2 a2 no T st2 f2' fD q fun s' ys' its' nn' H' I' a' q'=>k s' ys' its' nn' H' I' a' q'
 exact wpAny_bind (wpAny_runOwn (zgj hd loop (T.self _ 0 _ _ _ st2 loop)))
end
section
variable {X:Cx} {elt tg iter:Expr} {ifs:List Expr} {gs:List Comprehension} {scope:Scope} {pos:Pos} {N':List Str} {ix:List (Option Nat)} {js js':List Nat} {g:TG} {ts:TT} {tm:TM} {mk:Addr→Env→Sem Fin→Sem Fin}
theorem zdF {pins:List (Addr×Obj)} {σ:St} {H2:Hp} {s2:Shared} {it:Addr} {fp:List Addr} {tn:Nat→Heap→Prop} {J:It} {Q:VK} {E:Value→Shared→Prop} {RR:Value→Addr→Result→Shared→Prop}
  (SC:CompSc X N' ix scope) (hc:X.calm=true) (hgs:GS js g) (hdis:∀ j∈js,j∉js') (hjs:∀ j∈js++js',ix[j]? = some none)
  (hg:∀ s₃ H₃ ex pins,PG (zQ X N' scope s₃ H₃ ex pins) tg g) (ht:∀ s₃ H₃ ex pins,zdU (zQ X N' scope s₃ H₃ ex pins) ifs ts) (hm:∀ s₃ H₃ ex pins D,PM (zQ X N' scope s₃ H₃ ex pins) D js' (mk D (zQ X N' scope s₃ H₃ ex pins).env) tm)
  (hturn:∀ it D env,compTurn (.ListComp elt (⟨tg,iter,ifs,0⟩ :: gs) scope pos) 0 it (.ref D) env=zb5 tg ifs iter.pos (mk D env) (.compLoop (.ListComp elt (⟨tg,iter,ifs,0⟩ :: gs) scope pos) 0 it (.ref D) env) it env)
  (I2:Inv X pins σ H2 s2) (T:Turn X.prog X.w X.K tg J fp it tn) (st2:tn 0 s2.heap) (f2:∀ b∈fp,zbE X pins H2 b) (q:cIn g ts tm (zc5 ix σ) J (fun ys H'=>∀ D,H' D=none→Q (.ref D) (upd H' D (.lst ys))) [] H2)
  (hRR:∀ (D C:Addr) (s':Shared) (ys:List V) (H':Hp) (m:Str→Option Value),Inv X pins σ (upd H' D (.lst ys)) s'→zbE X pins (upd H' D (.lst ys)) C→s'.heap.Ns C m→Q (.ref D) (upd H' D (.lst ys))→RR (.ref D) C (.ok .next) s') :
  wpAny (model X.prog X.w) X.A (newList []) (fun acc s₃=>wpAny (model X.prog X.w) X.A (newFunctionEnv scope X.env.globals (zag X.env.cells scope.names []) [] X.env.qual none .none (some X.env)) (fun cenv s₄ =>
   codeAny (model X.prog X.w) X.A (.compStart (.ListComp elt (⟨tg,iter,ifs,0⟩ :: gs) scope pos) 0 (.ref it) acc { cenv with scope:=relabel scope X.env }) (RR acc cenv.locals) s₄) E s₃) E s2:=by
 have hfr:∀ y∈scope.names,y.2 = .free→∃ c,X.env.cells.lookup y.1=some c:=fun y hy hf=>I2.ok.has y.1 (SC.free y hy hf)
 have hcl:∀ x c,(zag X.env.cells scope.names []).lookup x=some c→X.env.cells.lookup x=some c:=zbF scope.names [] hfr (fun x c e=>by simp at e)
 refine wpAny_newObj_type (zix ?_)
 have I3:Inv X pins σ H2 { s2 with heap:=s2.heap.push { cls:=.type "list",dict:=none,data:=.seq ([]:List Value).toArray } }:=I2.kept (t':=s2.toks) fun b o e=>Heap.get?_push_of_some _ e
 have hD3:(s2.heap.push { cls:=.type "list",dict:=none,data:=.seq ([]:List Value).toArray }).get? s2.heap.objs.size=some { cls:=.type "list",dict:=none,data:=.seq ([]:List Value).toArray }:=Heap.get?_push_size _ rfl
 have hst3:tn 0 (s2.heap.push { cls:=.type "list",dict:=none,data:=.seq ([]:List Value).toArray }):=T.keep _ _ _ st2 fun b hb o e=>Heap.get?_push_of_some _ e
 have hsz3:(s2.heap.push { cls:=.type "list",dict:=none,data:=.seq ([]:List Value).toArray }).objs.size=s2.heap.objs.size+1:=Heap.size_push _ _
 generalize hh3:s2.heap.push { cls:=.type "list",dict:=none,data:=.seq ([]:List Value).toArray }=h3 at *
 have hfpO:=T.obj _ _ st2
 have hfpLt:∀ b∈fp,b < s2.heap.objs.size:=fun b hb=>by obtain⟨o,e,_⟩:=hfpO b hb; exact Heap.lt_size e
 have stk:∀ b∈frs X.stack,b=X.env.locals∨b∈X.fs:=fun b hb=>List.mem_cons.mp (I2.stkSub b hb)
 have hDok:zbE X pins H2 s2.heap.objs.size:=I2.fpOk (Nat.le_refl _) I2.fresh
 have exOk:∀ b∈s2.heap.objs.size :: fp,zbE X pins H2 b:=fun b hb=>by
  rcases (List.mem_cons.mp hb) with e | hb
  ·rw [e]; exact hDok
  ·exact f2 b hb
 have exLt:∀ b∈s2.heap.objs.size :: fp,b < h3.objs.size:=fun b hb=>by
  rw [hsz3]
  rcases (List.mem_cons.mp hb) with e | hb; · rw [e]; exact Nat.lt_succ_self _
  ·exact Nat.lt_succ_of_lt (hfpLt b hb)
 have exStk:∀ b∈s2.heap.objs.size :: fp,b∉frs X.stack:=fun b hb z=>by
  obtain⟨_,a1,a2,_⟩:=exOk b hb
  rcases stk b z with e | e
  ·exact a1 e
  ·exact a2 e
 have hns₁:(pushCells (h3.push { cls:=.type "dict",data:=.dict #[] }) scope.names).Ns h3.objs.size (fun _=>none):=(Heap.Ns.new h3 (.type "dict")).keeps (pushCells_keeps _ _)
 have old:∀ b o,h3.get? b=some o→(pushCells (h3.push { cls:=.type "dict",data:=.dict #[] }) scope.names).get? b=some o:=fun b o e=>pushCells_keeps _ _ b o (Heap.get?_push_of_some _ e)
 have cOld:∀ x c,X.env.cells.lookup x=some c→c < h3.objs.size:=fun x c e=>by
  obtain⟨v,q⟩:=I3.cell x c e
  exact q.lt
 have co:CO (pushCells (h3.push { cls:=.type "dict",data:=.dict #[] }) scope.names) (h3.objs.size+1) (zag X.env.cells scope.names []) (cellsFrom (h3.objs.size+1) scope.names (zag X.env.cells scope.names [])):=by
  have:=zjF (lo:=h3.objs.size+1) (old:=zag X.env.cells scope.names []) scope.names (h3.push { cls:=.type "dict",data:=.dict #[] }) (zag X.env.cells scope.names [])
   ⟨fun x c e=>.inr ⟨e,Nat.lt_succ_of_lt (cOld x c (hcl x c e))⟩,fun x y c e1 e2=>I2.ok.inj x y c (hcl x c e1) (hcl y c e2)⟩ (by rw [Heap.size_push]; exact Nat.le_refl _)
  rw [Heap.size_push] at this
  exact this
 generalize pushCells (h3.push { cls:=.type "dict",data:=.dict #[] }) scope.names=h₁ at hns₁ old co ⊢
 have clo:∀ {x c},(cellsFrom (h3.objs.size+1) scope.names (zag X.env.cells scope.names [])).lookup x=some c→(h₁.IsCell c none∧h3.objs.size+1≤c)∨X.env.cells.lookup x=some c:=fun {x c} e=>(co.each x c e).elim .inl fun z=>.inr (hcl x c z.1)
 have cfr:∀ x,scope.names.lookup x=some .free→(cellsFrom (h3.objs.size+1) scope.names (zag X.env.cells scope.names [])).lookup x=(zag X.env.cells scope.names []).lookup x:=fun x hx=>zfB _ _ _ _ fun z=>by
  have:=SC.cells _ z rfl
  rw [hx] at this
  cases this
 let s3:Shared:={ s2 with heap:=h3 }
 let Y:Cx:=zQ X N' scope s3 H2 (s2.heap.objs.size :: fp) pins
 have I3':Inv X pins σ H2 s3:=I3
 have okY:Y.Ok:=by
  refine⟨I2.ok.mod,SC.kind,I2.ok.glob,I2.ok.blt,Nat.le_refl _,co.inj,fun x hx=>?_,fun x c z e=>?_,I2.ok.hd,I2.ok.frames,.inl rfl,fun b hb=>?_,fun b o e=>I3'.bs b o e,?_,fun b o e hb=>?_,exStk,I3'.stack,I3'.stkFree⟩
  ·have hx':=zc4 (env:=X.env) (names:=scope.names) (x:=x) hx
   rcases hx' with hx' | hx'
   ·obtain⟨c,e⟩:=zb4 (cs:=X.env.cells) scope.names [] x (.inr (lookup_mem hx'))
    exact⟨c,(cfr x hx').trans e⟩
   ·obtain⟨c,e,_⟩:=zfC scope.names (h3.objs.size+1) (zag X.env.cells scope.names []) x (lookup_mem hx')
    exact⟨c,e⟩
  ·obtain⟨c',e',l'⟩:=zfC scope.names (h3.objs.size+1) (zag X.env.cells scope.names []) x (lookup_mem (by have z':(scope.names.lookup x == some NameKind.cell)=true:=z; simpa using z'))
   have e2:(cellsFrom (h3.objs.size+1) scope.names (zag X.env.cells scope.names [])).lookup x=some c:=e
   rw [e'] at e2
   cases e2
   exact Nat.le_of_succ_le l'
  ·refine⟨Nat.ne_of_lt (exLt b hb),fun x c e=>(clo e).elim (fun z y=>?_) fun z=>(exOk b hb).2.2.2.2.1 x c z⟩
   subst y
   exact Nat.lt_irrefl _ (Nat.lt_of_lt_of_le (exLt _ hb) (Nat.le_of_succ_le z.2))
  ·exact Nat.le_trans I2.ok.bsz I3'.sz
  ·obtain⟨_,_,_,a3,_⟩:=exOk b hb
   rcases a3 with z | z
   ·exact I2.ok.noex b o e z
   ·have:=(I2.ok.bs b o e).1
    exact absurd (Nat.lt_of_lt_of_le (Heap.lt_size this) z) (Nat.lt_irrefl _)
 have inv4:Inv Y [] (zc5 ix σ) H2 { s3 with heap:=h₁ }:=by
  refine⟨okY,rfl,I2.bare,Un.kept old,⟨_,hns₁,fun j x v e1 e2 e3=>?_⟩,fun x c e=>?_,I3'.fresh,fun x c e=>(clo e).elim (fun z=>I3'.hok.fresh (Nat.le_of_succ_le z.2)) fun z=>I2.freeC x c z,fun p hp=>?_,I3'.hok.kept old,?_⟩
  ·unfold zc5 at e2
   rw [List.getElem?_map] at e2
   cases hj:ix[j]? with
   | none=>rw [hj] at e2; simp at e2
   | some oi =>
    rw [hj] at e2
    cases oi with
    | none=>simp at e2
    | some i =>
     obtain⟨y,h1,h2,h3'⟩:=SC.cap j i hj
     have hxy:y=x:=by
      have e1':N'[j]? = some x:=e1
      rw [h1] at e1'
      exact Option.some.inj e1'
     subst hxy
     have e2':(σ[i]?).join=some v:=by simpa using e2
     have e2'':σ[i]? = some (some v):=by
      cases hs:σ[i]? with
      | none=>rw [hs] at e2'; simp at e2'
      | some w=>rw [hs] at e2'; simp at e2'; rw [e2']
     obtain⟨m,hn,hl⟩:=I3'.loc
     have hk:=SC.free (y,.free) (lookup_mem h3') rfl
     have hvis:Vis X.env.scope y:=hk.elim (fun z=>.inr (.inl z)) fun z=>.inr (.inr z)
     obtain⟨u,r,l⟩:=hl i y v h2 e2'' hvis
     refine⟨u,r,.inr ⟨zbq h3',?_⟩⟩
     obtain⟨c,hcc⟩:=zb4 (cs:=X.env.cells) scope.names [] y (.inr (lookup_mem h3'))
     refine⟨c,(cfr y h3').trans hcc,?_⟩
     rcases l with ⟨hk',_⟩ | ⟨_,c',hc',hcell⟩
     ·rcases hk with hk | hk
      ·have hk2:X.env.kindOf y=some .cell:=hk
       rw [hk2] at hk'; cases hk'
      ·have hk2:X.env.kindOf y=some .free:=hk
       rw [hk2] at hk'; cases hk'
     ·have:=hcl y c hcc
      rw [hc'] at this
      cases this
      obtain⟨o,ho,hd⟩:=hcell
      exact⟨o,old _ _ ho,hd⟩
  ·rcases clo e with z | z
   ·exact⟨_,z.1⟩
   ·obtain⟨v,o,ho,hd⟩:=I3'.cell x c z
    exact⟨v,o,old _ _ ho,hd⟩
  ·have hp':p∈X.pn++pins:=by
    have:p∈(X.pn++pins)++([]:List (Addr×Obj)):=hp
    simpa using this
   obtain⟨a1,a2,a3,a4,a5⟩:=I3'.pin p hp'
   exact⟨old _ _ a1,a2,Nat.ne_of_lt (Heap.lt_size a1),fun z=>(stk _ z).elim a3 a4,a5⟩
  ·unfold zc5
   rw [List.length_map]
   exact SC.len.symm
 have fpY:∀ {H':Hp},(∀ b∈s2.heap.objs.size :: fp,H' b=none)→∀ b∈s2.heap.objs.size :: fp,zbE Y [] H' b:=fun {H'} hn b hb=>by
  obtain⟨_,a1,a2,a3,a4,a5⟩:=exOk b hb
  refine⟨hn b hb,Nat.ne_of_lt (exLt b hb),exStk b hb,.inl hb,(okY.exf b hb).2,fun p hp=>?_⟩
  have:p∈(X.pn++pins)++([]:List (Addr×Obj)):=hp
  exact a5 p (by simpa using this)
 have nn2:∀ b∈s2.heap.objs.size :: fp,H2 b=none:=fun b hb=>(exOk b hb).1
 have noA:zfD (js++js') (zc5 ix σ):=fun j hj v e=>by
  unfold zc5 at e
  rw [List.getElem?_map,hjs j hj] at e
  simp at e
 have loop:∀ s₅:Shared,s₅ = { s2 with heap:=h₁ } →
   codeAny (model X.prog X.w) X.A (.compLoop (.ListComp elt (⟨tg,iter,ifs,0⟩ :: gs) scope pos) 0 (.ref it) (.ref s2.heap.objs.size) (compEnvC scope (cellsFrom (h3.objs.size+1) scope.names (zag X.env.cells scope.names [])) h3.objs.size X.env)) (RR (.ref s2.heap.objs.size) h3.objs.size) s₅:=by
  rintro s₅ rfl
  refine zh2 (Y:=Y) (pins:=[]) (σ:=zc5 ix σ) (its:=[]) (nn:=0) hc rfl hgs hdis (hg s3 H2 _ pins) (ht s3 H2 _ pins) (hm s3 H2 _ pins s2.heap.objs.size) (fun it=>hturn it _ _) inv4 ⟨fpY nn2 _ List.mem_cons_self,old _ _ hD3,.nil,Nat.zero_le _⟩ noA T (T.keep _ _ _ hst3 fun b hb o e=>old b o e)
   (fun b hb=>fpY nn2 b (List.mem_cons_of_mem _ hb)) (fun b hb=>Nat.ne_of_lt (hfpLt b hb)) q fun s6 ys its nn H5 I6 a6 qn=>?_
  have dn5:H5 s2.heap.objs.size=none:=a6.fp.1
  have I7:Inv X pins σ H5 s6:=by
   refine I3'.call' (s':=s6) (ch:=s2.heap.objs.size :: fp) I6.os I6.base I6.hok I6.bare fun b hb=>?_
   obtain⟨_,a1,a2,a3,a4,a5⟩:=exOk b hb
   exact⟨a3,a1,a4,a5⟩
  have I8:Inv X pins σ (upd H5 s2.heap.objs.size (.lst ys)) s6:=by
   obtain⟨_,a1,a2,a3,a4,a5⟩:=hDok
   exact I7.track dn5 I2.sz (Ne.symm a1) a4 a5 ⟨a6.len,its,nn,a6.vals,a6.here⟩
  obtain⟨mm,hmm,_⟩:=I6.loc
  have dne:h3.objs.size≠s2.heap.objs.size:=by rw [hsz3]; exact Nat.succ_ne_self _
  refine hRR _ _ s6 ys H5 mm I8 (I3'.fpOk (H':=upd H5 s2.heap.objs.size (.lst ys)) (Nat.le_refl _) ?_) hmm (qn _ dn5)
  show upd H5 s2.heap.objs.size (.lst ys) h3.objs.size=none
  rw [zl dne]
  exact I6.free
 exact zgj rfl (loop _ rfl) (T.self _ 0 _ _ _ (T.keep _ _ _ hst3 fun b hb o e=>old b o e) (loop _ rfl))
theorem zgk {wi:TI} (SC:CompSc X N' ix scope) (hc:X.calm=true) (hgs:GS js g) (hdis:∀ j∈js,j∉js') (hjs:∀ j∈js++js',ix[j]? = some none) (hi:PI X tg iter wi)
  (hg:∀ s₃ H₃ ex pins,PG (zQ X N' scope s₃ H₃ ex pins) tg g) (ht:∀ s₃ H₃ ex pins,zdU (zQ X N' scope s₃ H₃ ex pins) ifs ts) (hm:∀ s₃ H₃ ex pins D,PM (zQ X N' scope s₃ H₃ ex pins) D js' (mk D (zQ X N' scope s₃ H₃ ex pins).env) tm)
  (hturn:∀ it D env,compTurn (.ListComp elt (⟨tg,iter,ifs,0⟩ :: gs) scope pos) 0 it (.ref D) env=zb5 tg ifs iter.pos (mk D env) (.compLoop (.ListComp elt (⟨tg,iter,ifs,0⟩ :: gs) scope pos) 0 it (.ref D) env) it env)
  (hs:∀ x,foldedSetIterable iter X.env x=pure x:=by intro _; rfl):PE X (.ListComp elt (⟨tg,iter,ifs,0⟩ :: gs) scope pos) (zhf ix wi g ts tm):=by
 intro pins s σ H Q I h
 rw [eval_ListComp]
 have hfr:∀ y∈scope.names,y.2 = .free→∃ c,X.env.cells.lookup y.1=some c:=fun y hy hf=>I.ok.has y.1 (SC.free y hy hf)
 refine wpAny_comprehension_free (use:=none) rfl hs (zcQ hfr) SC.kind SC.names (thn (hi pins s σ H _ I h) fun v s1 h1=>thn h1 fun itv s2 h2=>?_)
 obtain⟨it,fp,tn,J,H2,e,I2,T,st2,f2,q⟩:=h2
 subst e
 refine zdF (RR:=fun acc C=>compPost (model X.prog X.w) X.A X.xe none (EP X pins σ Q) acc C) SC hc hgs hdis hjs hg ht hm hturn I2 T st2 f2 q ?_
 intro D C s' ys H' m I' fpC hm q'
 refine⟨m,hm,fun h'' hs''=>⟨.ref D,_,?_,rfl,q'⟩⟩
 obtain⟨f0,f1,f2',f3,f4,f5⟩:=fpC
 exact I'.turned (t':=s'.toks) (fun b o hb e=>hs''.extBut b o hb e) f0 f1 f3 f4 f5
theorem zgl {wi:TI} {i:Nat} {x:Str} {pos' spos:Pos} (hN:X.N.Nodup) (hxi:X.N[i]? = some x) (hx:Loc X.env.scope x) (SC:CompSc X N' ix scope) (hc:X.calm=true) (hgs:GS js g) (hdis:∀ j∈js,j∉js') (hjs:∀ j∈js++js',ix[j]? = some none) (hi:PI X tg iter wi)
  (hg:∀ s₃ H₃ ex pins,PG (zQ X N' scope s₃ H₃ ex pins) tg g) (ht:∀ s₃ H₃ ex pins,zdU (zQ X N' scope s₃ H₃ ex pins) ifs ts) (hm:∀ s₃ H₃ ex pins D,PM (zQ X N' scope s₃ H₃ ex pins) D js' (mk D (zQ X N' scope s₃ H₃ ex pins).env) tm)
  (hturn:∀ it D env,compTurn (.ListComp elt (⟨tg,iter,ifs,0⟩ :: gs) scope pos) 0 it (.ref D) env=zb5 tg ifs iter.pos (mk D env) (.compLoop (.ListComp elt (⟨tg,iter,ifs,0⟩ :: gs) scope pos) 0 it (.ref D) env) it env)
  (hsw:swapsWith (.ListComp elt (⟨tg,iter,ifs,0⟩ :: gs) scope pos) (some (.Name x pos')) spos.line X.env=pure true:=by rfl)
  (hs:∀ x,foldedSetIterable iter X.env x=pure x:=by intro _; rfl) (hf:X.fn x=true∨X.env.scope.names.lookup x=some .local:=by first | exact .inl rfl | exact .inr rfl | assumption) :
  PS X (.Assign [.Name x pos'] (.ListComp elt (⟨tg,iter,ifs,0⟩ :: gs) scope pos) spos) (zfw (zhf ix wi g ts tm) (za1 i)):=by
 intro pins s σ H D I h
 have hfr:∀ y∈scope.names,y.2 = .free→∃ c,X.env.cells.lookup y.1=some c:=fun y hy hf=>I.ok.has y.1 (SC.free y hy hf)
 rw [exec_Assign_Name_used _ _ _ _ hsw]; refine wpAny_bind (wpAny_standAt (wpAny_bind ?_))
 show wpAny _ X.A (do let _ ← comprehension (.ListComp elt (⟨tg,iter,ifs,0⟩ :: gs) scope pos) scope X.env _ (newList []) false (eval iter X.env) (some (assign (.Name x pos') X.env))) _ _ s
 refine wpAny_bind (wpAny_mono (wpAny_comprehension_free (use:=some (assign (.Name x pos') X.env)) (Q:=fun _ s'=>SP X pins D .next s') rfl hs (zcQ hfr) SC.kind SC.names
  (thn (hi pins s σ H _ I h) fun v s1 h1=>thn h1 fun itv s2 h2=>?_)) (fun _ s' hq=>wpAny_pure (wpAny_pure hq)) fun _ _ e=>e)
 obtain⟨it,fp,tn,J,H2,e,I2,T,st2,f2,q⟩:=h2
 subst e
 refine zdF (Q:=fun x H1=>za1 i x σ H1 D.nx) (RR:=fun acc C=>compPost (model X.prog X.w) X.A X.xe (some (assign (.Name x pos') X.env)) (fun _ s'=>SP X pins D .next s') acc C) SC hc hgs hdis hjs hg ht hm hturn I2 T st2 f2 q ?_
 intro Da C s' ys H' m I' fpC hm q'
 show wpAny _ X.A (assign (.Name x pos') X.env (.ref Da)) _ _ _
 refine wpAny_assign_Name (ze3 I' hN hxi hx (show RelV (.ref Da) (.ref Da) from rfl) (fun s'' I'' ⟨a,hsb,ha⟩=>?_) hf)
 obtain⟨f0,f1,f2',f3,f4,f5⟩:=fpC
 have hCa:C≠a:=by
  rcases ha with e | e
  ·rw [e]; exact f1
  ·exact Ne.symm (f4 x a e)
 refine⟨m,hm.sameBut hsb hCa,fun h₃ hs₃=>⟨_,_,?_,q'⟩⟩
 exact I''.turned (t':=s''.toks) (fun b o hb e=>hs₃.extBut b o hb e) f0 f1 f3 f4 f5
end
theorem zmK {elt t1 i1 t2 i2:Expr} {f1 f2:List Expr} {scope:Scope} {pos:Pos} (it:Value) (D:Addr) (env:Env):compTurn (.ListComp elt [⟨t1,i1,f1,0⟩,⟨t2,i2,f2,0⟩] scope pos) 0 it (.ref D) env =
  zb5 t1 f1 i1.pos (zh1 (.ListComp elt [⟨t1,i1,f1,0⟩,⟨t2,i2,f2,0⟩] scope pos) i2 1 (.ref D) env) (.compLoop (.ListComp elt [⟨t1,i1,f1,0⟩,⟨t2,i2,f2,0⟩] scope pos) 0 it (.ref D) env) it env:=by rfl
theorem zmL {elt t1 i1 t2 i2:Expr} {f1 f2:List Expr} {scope:Scope} {pos:Pos} (it:Value) (D:Addr) (env:Env):compTurn (.ListComp elt [⟨t1,i1,f1,0⟩,⟨t2,i2,f2,0⟩] scope pos) 1 it (.ref D) env =
  zb5 t2 f2 i2.pos (zfg elt (.ref D) env) (.compLoop (.ListComp elt [⟨t1,i1,f1,0⟩,⟨t2,i2,f2,0⟩] scope pos) 1 it (.ref D) env) it env:=by rfl
def zdv (ix:List (Option Nat)):List Nat:=(List.range ix.length).filter fun j=>ix[j]? == some none
theorem zb6 {ix:List (Option Nat)} {i:Nat}:i∈zdv ix↔ix[i]? = some none:=by
 unfold zdv
 rw [List.mem_filter,List.mem_range,beq_iff_eq]
 exact⟨fun h=>h.2,fun h=>⟨(List.getElem?_eq_some_iff.mp h).1,h⟩⟩
def GK (ix:List (Option Nat)) (g:TG):Prop:=GS (zdv ix) g
def GKs (ix:List (Option Nat)) (g:TGs):Prop:=GSs (zdv ix) g
theorem zT {ix:List (Option Nat)} {i:Nat} (hi:ix[i]? = some none):GK ix (za1 i):=zfE (zb6.2 hi)
theorem zah {ix:List (Option Nat)}:GKs ix zjr:=zfF
theorem zt {ix:List (Option Nat)} {i:Nat} {u:TGs} (hi:ix[i]? = some none) (h2:GKs ix u):GKs ix (zdD (za1 i) u):=zcm (zb6.2 hi) h2
theorem zaz {ix:List (Option Nat)} {K:PySem.W.Frag} {n:Nat} {t:TGs} (h:GKs ix t):GK ix (zir K n t):=zhe h
theorem zmb {elt t1 i1:Expr} {f1:List Expr} {scope:Scope} {pos:Pos} (it:Value) (D:Addr) (env:Env):compTurn (.ListComp elt [⟨t1,i1,f1,0⟩] scope pos) 0 it (.ref D) env =
  zb5 t1 f1 i1.pos (zfg elt (.ref D) env) (.compLoop (.ListComp elt [⟨t1,i1,f1,0⟩] scope pos) 0 it (.ref D) env) it env:=by rfl
section
variable {X:Cx} {elt tg iter:Expr} {ifs:List Expr} {scope:Scope} {pos:Pos} {N':List Str} {ix:List (Option Nat)} {g:TG} {ts:TT} {te:TE}
theorem zA {wi:TI} (SC:CompSc X N' ix scope) (hc:X.calm=true) (hk:GK ix g) (hi:PI X tg iter wi)
  (hg:∀ s₃ H₃ ex pins,PG (zQ X N' scope s₃ H₃ ex pins) tg g) (ht:∀ s₃ H₃ ex pins,zdU (zQ X N' scope s₃ H₃ ex pins) ifs ts) (he:∀ s₃ H₃ ex pins,PE (zQ X N' scope s₃ H₃ ex pins) elt te)
  (hs:∀ x,foldedSetIterable iter X.env x=pure x:=by intro _; rfl):PE X (.ListComp elt [⟨tg,iter,ifs,0⟩] scope pos) (zma ix wi g ts te) :=
 zgk (mk:=fun D env=>zfg elt (.ref D) env) (js:=zdv ix) (js':=[]) SC hc hk (fun _ _ h=>nomatch h) (fun j h=>zb6.1 (by simpa using h)) hi hg ht (fun s₃ H₃ ex pins D=>zhg rfl (he s₃ H₃ ex pins)) (fun _ _ _=>zmb _ _ _) hs
theorem zaY {wi:TI} {i:Nat} {x:Str} {pos' spos:Pos} (hN:X.N.Nodup) (hxi:X.N[i]? = some x) (hx:Loc X.env.scope x) (SC:CompSc X N' ix scope) (hc:X.calm=true) (hk:GK ix g) (hi:PI X tg iter wi)
  (hg:∀ s₃ H₃ ex pins,PG (zQ X N' scope s₃ H₃ ex pins) tg g) (ht:∀ s₃ H₃ ex pins,zdU (zQ X N' scope s₃ H₃ ex pins) ifs ts) (he:∀ s₃ H₃ ex pins,PE (zQ X N' scope s₃ H₃ ex pins) elt te)
  (hsw:swapsWith (.ListComp elt [⟨tg,iter,ifs,0⟩] scope pos) (some (.Name x pos')) spos.line X.env=pure true:=by rfl)
  (hs:∀ x,foldedSetIterable iter X.env x=pure x:=by intro _; rfl) (hf:X.fn x=true∨X.env.scope.names.lookup x=some .local:=by first | exact .inl rfl | exact .inr rfl | assumption) :
  PS X (.Assign [.Name x pos'] (.ListComp elt [⟨tg,iter,ifs,0⟩] scope pos) spos) (zfw (zma ix wi g ts te) (za1 i)) :=
 zgl (mk:=fun D env=>zfg elt (.ref D) env) (js:=zdv ix) (js':=[]) hN hxi hx SC hc hk (fun _ _ h=>nomatch h) (fun j h=>zb6.1 (by simpa using h)) hi hg ht (fun s₃ H₃ ex pins D=>zhg rfl (he s₃ H₃ ex pins)) (fun _ _ _=>zmb _ _ _) hsw hs hf
end
end L2
end
section
set_option maxHeartbeats 4000000
namespace L2
open PySem PySem.Spec PyProof.Rows
section
variable {X:Cx} {pins:List (Addr×Obj)} {σ:St} {H:Hp} {s:Shared} {h':Heap}
theorem Inv.turnedL {t':Nat} {ch:List Addr} (I:Inv X pins σ H s) (k:∀ b o,b∉ch→s.heap.get? b=some o→h'.get? b=some o) (hf:∀ b∈ch,zbE X pins H b)
  (th:∀ b∈ch,∃ o,h'.get? b=some o):Inv X pins σ H { s with heap:=h',toks:=t' }:=by
 have nit:∀ b u,H b=some u→b∉ch:=fun b u e z=>by rw [(hf b z).1] at e; cases e
 refine I.step (g':=s.gens) (d':=s.drawn) (ch:=ch) (fun b hb=>?_) (fun b o _ _ hc e _=>k b o hc e) (fun b o _ _ hc e _=>⟨o.slots,k b o hc e⟩) (fun _ _ _ _ n=>n)
  (fun b o hc e=>⟨o,k b o hc e⟩) (fun _ _ e=>e) (fun _ _ _ e=>e) (fun b ps e=>⟨#[],by rw [e]; simp⟩) (fun m hm=>?_) (fun b u e=>?_) I.bare
 ·obtain⟨_,a1,_,a3,a4,a5⟩:=hf b hb
  exact⟨a3,a1,a4,a5⟩
 ·obtain⟨o,es,ep,ho,r⟩:=hm
  exact⟨o,es,ep,k _ o (fun z=>(hf _ z).2.1 rfl) ho,r⟩
 ·refine (I.hok b u e).stay (fun c v hc q=>k c v ?_ q) (fun _ q=>q) fun _ _ q=>q
  rcases hc with z | z
  ·rw [z]; exact nit b u e
  ·exact nit c _ z
theorem Inv.turnedNew {t':Nat} {ch:List Addr} {T:Addr} {o:HO} (I:Inv X pins σ H s) (k:∀ b o,b∉ch→s.heap.get? b=some o→h'.get? b=some o) (hf:∀ b∈ch,zbE X pins H b)
  (th:∀ b∈ch,∃ o,h'.get? b=some o) (hT:s.heap.objs.size≤T) (ok:zab X.prog X.w (upd H T o) h' T o):Inv X pins σ (upd H T o) { s with heap:=h',toks:=t' }:=by
 have I1:Inv X pins σ H { s with heap:=h',toks:=t' }:=I.turnedL k hf th
 have hn:H T=none:=I.hok.fresh hT
 obtain⟨_,a1,a2,a3,a4,a5⟩:=I.fpOk (H':=H) hT hn
 exact I1.track hn (Nat.le_trans I.sz hT) (Ne.symm a1) a4 a5 ok
end
def zjJ (Sq:Hp→Addr→List V→Prop) (a:Addr):It :=
 ⟨fun i H=>∃ xs x,Sq H a xs∧xs[i]? = some x,fun i H x H'=>∃ T v,H T=none∧x = .ref T∧H'=upd H T (.tup [.int i,v])∧∀ xs,Sq H a xs→xs[i]? = some v,fun i H=>∃ xs,Sq H a xs∧xs.length≤i⟩
theorem zb7 {h:Heap} {T:Addr} {a b:Value} (e:h.get? T=some { cls:=.type "tuple",data:=.seq #[a,b] }):IsTup h T ([a,b]:List Value).toArray:=⟨_,e,rfl,_,rfl⟩
theorem za2:2≤sizeLine:=by rw [sizeLine_eq]; decide
theorem zhh {P:Program} {w:World} {K:PySem.W.Frag} {es:List Expr} {k:Nat} {pos:Pos} (a it e:Addr) (hei:e≠it):Turn P w K (.Tuple es k pos) (zjJ (SqL K) a) [e,it] e (fun i h=>(∃ old,IsEnum h e it i old)∧h.IsListIter it a i) where
 mem:=by simp
 obj:=fun i h st b hb=>by
  obtain⟨⟨old,he⟩,o,ho,hc,hd⟩:=st
  rcases List.mem_cons.mp hb with z | z
  ·subst z
   exact⟨_,he,fun v z=>by cases z⟩
  ·have z:b=it:=by simpa using z
   subst z
   exact⟨o,ho,fun v z=>by rw [hd] at z; cases z⟩
 keep:=fun i h h' st kk=>⟨st.1.imp fun old he=>kk e (by simp) _ he,st.2.at fun o eo=>kk it (by simp) o eo⟩
 item:=by
  intro X hP hw hK hc i pins s σ H E I hf st hg
  subst hP hw hK
  obtain⟨xs,x,hq,hx⟩:=hg
  obtain⟨⟨old,he⟩,hit⟩:=st
  obtain⟨its,rv,p,hz⟩:=I.list hq
  obtain⟨u,hu,ru⟩:=rv.get hx
  have hes:e < s.heap.objs.size:=Heap.lt_size he
  have hits:it < s.heap.objs.size:=by obtain⟨o,ho,_⟩:=hit; exact Heap.lt_size ho
  refine wpAny_pyNext_enum_item he hit p.isList (x:=u) (by simpa using hu) hei fun h' ho' hit' hT hsz kk=>?_
  have k1:∀ b o,b∉[e,it]→s.heap.get? b=some o→h'.get? b=some o:=fun b o hb eo=>kk b o (fun z=>hb (by simp [z])) (fun z=>hb (by simp [z])) eo
  have th1:∀ b∈[e,it],∃ o,h'.get? b=some o:=fun b hb=>by
   rcases List.mem_cons.mp hb with z | z
   ·subst z; exact⟨_,ho'⟩
   ·have z:b=it:=by simpa using z
    subst z
    obtain⟨o,eo,_⟩:=hit'
    exact⟨o,eo⟩
  have I1:Inv X pins σ (upd H s.heap.objs.size (.tup [.int i,x])) { s with heap:=h',toks:=s.toks+1 } :=
   I.turnedNew k1 hf th1 (Nat.le_refl _) ⟨za2,_,.cons ⟨s.toks,rfl⟩ (.cons ru .nil),zb7 hT⟩
  refine⟨_,rfl,wpAny_letOwnedTupleGo_enum ho' fun h'' he'' hs''=>?_⟩
  have fr:∀ b∈[e,it],upd H s.heap.objs.size (.tup [.int i,x]) b=none:=fun b hb=>by
   have hlt:b < s.heap.objs.size:=by
    rcases List.mem_cons.mp hb with z | z
    ·subst z; exact hes
    ·have z:b=it:=by simpa using z
     subst z; exact hits
   rw [zl (Nat.ne_of_lt hlt)]
   exact (hf b hb).1
  have I2:Inv X pins σ (upd H s.heap.objs.size (.tup [.int i,x])) { s with heap:=h'',toks:=s.toks+1 } :=
   Inv.turnedL (s:={ s with heap:=h',toks:=s.toks+1 }) (ch:=[e]) (t':=s.toks+1) I1 (fun b o hb eo=>hs''.extBut b o (by simpa using hb) eo) (fun b hb=>by
    have z:b=e:=by simpa using hb
    subst z
    exact⟨fr b (by simp),(hf b (by simp)).2⟩) (fun b hb=>by
    have z:b=e:=by simpa using hb
    subst z
    exact⟨_,he''⟩)
  refine⟨.ref s.heap.objs.size,_,I2,rfl,⟨_,x,I.fresh,rfl,rfl,fun ys hy=>by rw [I.list_inj hy hq]; exact hx⟩,⟨⟨_,by simpa using he''⟩,hit'.extBut hs''.extBut (Ne.symm hei)⟩,fr⟩
 done:=by
  intro X hP hw hK hc i pins s σ H E I hf st hg
  subst hP hw hK
  obtain⟨xs,hq,hx⟩:=hg
  obtain⟨⟨old,he⟩,hit⟩:=st
  obtain⟨its,rv,p,hz⟩:=I.list hq
  have hl:=rv.length
  obtain⟨f0,f1,f2,f3,f4,f5⟩:=hf it (by simp)
  exact wpAny_pyNext_enum_end (I.ok.hd hc) he hit p.isList (by simp; omega) fun h' eb=>⟨rfl,I.turned (t':=s.toks) (fun b o hb e=>eb b o hb e) f0 f1 f3 f4 f5⟩
 self:=fun _ _ _ _ _ st h=>by
  obtain⟨⟨old,he⟩,_⟩:=st
  exact wpAny_pyIter_enum he h
def iEn (Sq:Hp→Addr→List V→Prop) (ta:TA):TI:=fun σ H R=>ta σ H fun vs H1=>∃ a xs,vs = [.ref a]∧Sq H1 a xs∧R (zjJ Sq a) H1
theorem zgm {X:Cx} {es:List Expr} {k:Nat} {tpos p pos:Pos} {a:Expr} {ta:TA} (hg:Gl X "enumerate") (hm:X.mg "enumerate" = none) (ha:PA X [a] ta) (hs:starEach [a] X.env = [(false,eval a X.env)]:=by rfl) :
  PI X (.Tuple es k tpos) (.Call (.Name "enumerate" p) [a] [] pos) (iEn (SqL X.K) ta):=by
 intro pins s σ H R I h
 refine Call_ (zba I hg hm boot_enumerate (PyProof.Rows.callWith_type1 (thn (ha pos pins s σ H _ I h) fun us s1 ⟨vs,H1,I1,r1,q1⟩=>?_) hs rfl))
 obtain⟨l,xs,e,hq,q⟩:=q1
 subst e
 cases r1 with
 | cons r rr =>
  cases rr
  cases r
  obtain⟨its,rv,pl,hz⟩:=I1.list hq
  refine call_enumerate_list pl.isList fun h' he hi hsz kk=>?_
  have I2:Inv X pins σ H1 { s1 with heap:=h' }:=I1.kept (t':=s1.toks) kk
  refine wpAny_pyIter_enum he ?_; refine⟨_,[s1.heap.objs.size+1,s1.heap.objs.size],_,zjJ (SqL X.K) l,H1,rfl,I2,zhh l s1.heap.objs.size (s1.heap.objs.size+1) (Nat.succ_ne_self _),⟨⟨_,he⟩,hi⟩,fun b hb=>?_,q⟩
  have hle:s1.heap.objs.size≤b:=by
   rcases List.mem_cons.mp hb with z | z
   ·rw [z]; exact Nat.le_succ _
   ·have z:b=s1.heap.objs.size:=by simpa using z
    rw [z]; exact Nat.le_refl _
  exact I1.fpOk hle (I1.hok.fresh hle)
def ziy (Sq1 Sq2:Hp→Addr→List V→Prop) (a b:Addr):It :=
 ⟨fun i H=>∃ xs ys x y,Sq1 H a xs∧Sq2 H b ys∧xs[i]? = some x∧ys[i]? = some y,
  fun i H x H'=>∃ T u v,H T=none∧x = .ref T∧H'=upd H T (.tup [u,v])∧(∀ xs,Sq1 H a xs→xs[i]? = some u)∧∀ ys,Sq2 H b ys→ys[i]? = some v,
  fun i H=>∃ xs ys,Sq1 H a xs∧Sq2 H b ys∧(xs.length≤i∨ys.length≤i)⟩
theorem ziz {P:Program} {w:World} {K:PySem.W.Frag} {es:List Expr} {k:Nat} {pos:Pos} (a b:Addr) (n:Nat) (ha:a < n) (hb:b < n):Turn P w K (.Tuple es k pos) (ziy (SqL K) (SqL K) a b) [n+4,n+2,n+3,n,n+1] (n+4)
  (fun i h=>IsZip h (n+4) (n+2) (n+3) .none∧IsPair h (n+2) (.ref n) (.ref (n+1))∧(∃ u v,IsPair h (n+3) u v)∧h.IsListIter n a i∧h.IsListIter (n+1) b i) where
 mem:=by simp
 obj:=fun i h st c hc=>by
  obtain⟨h1,h2,⟨u,v,h3⟩,⟨o4,e4,_,d4⟩,⟨o5,e5,_,d5⟩⟩:=st
  simp only [List.mem_cons,List.not_mem_nil,or_false] at hc
  rcases hc with z | z | z | z | z <;> subst z
  ·exact⟨_,h1,fun v z=>by cases z⟩
  ·exact⟨_,h2,fun v z=>by cases z⟩
  ·exact⟨_,h3,fun v z=>by cases z⟩
  ·exact⟨_,e4,fun v z=>by rw [d4] at z; cases z⟩
  ·exact⟨_,e5,fun v z=>by rw [d5] at z; cases z⟩
 keep:=fun i h h' st kk=>by
  obtain⟨h1,h2,⟨u,v,h3⟩,h4,h5⟩:=st
  exact⟨kk _ (by simp) _ h1,kk _ (by simp) _ h2,⟨u,v,kk _ (by simp) _ h3⟩,h4.at fun o eo=>kk _ (by simp) o eo,h5.at fun o eo=>kk _ (by simp) o eo⟩
 item:=by
  intro X hP hw hK hc i pins s σ H E I hf st hg
  subst hP hw hK
  obtain⟨xs,ys,x,y,hq1,hq2,hx,hy⟩:=hg
  obtain⟨h1,h2,⟨u0,v0,h3⟩,h4,h5⟩:=st
  obtain⟨its1,rv1,p1,hz1⟩:=I.list hq1
  obtain⟨its2,rv2,p2,hz2⟩:=I.list hq2
  obtain⟨u,hu,ru⟩:=rv1.get hx
  obtain⟨v,hv,rv⟩:=rv2.get hy
  have hzs:n+4 < s.heap.objs.size:=Heap.lt_size h1
  refine wpAny_pyNext_zip_item (zipApart_new ha hb) h1 h2 h3 h4 h5 p1.isList p2.isList (x:=u) (y:=v) (by simpa using hu) (by simpa using hv) fun h' a1 a2 a3 a4 a5 a6 kk=>?_
  have k1:∀ c o,c∉[n+4,n+3,n,n+1]→s.heap.get? c=some o→h'.get? c=some o:=fun c o hc' eo =>
   kk c o (fun z=>hc' (by simp [z])) (fun z=>hc' (by simp [z])) (fun z=>hc' (by simp [z])) (fun z=>hc' (by simp [z])) eo
  have sub:∀ c∈[n+4,n+3,n,n+1],c∈[n+4,n+2,n+3,n,n+1]:=fun c hc'=>by
   simp only [List.mem_cons,List.not_mem_nil,or_false] at hc' ⊢
   rcases hc' with z | z | z | z <;> subst z <;> simp
  have th1:∀ c∈[n+4,n+3,n,n+1],∃ o,h'.get? c=some o:=fun c hc'=>by
   simp only [List.mem_cons,List.not_mem_nil,or_false] at hc'
   rcases hc' with z | z | z | z <;> subst z
   ·exact⟨_,a1⟩
   ·exact⟨_,a2⟩
   ·obtain⟨o,e,_⟩:=a3; exact⟨o,e⟩
   ·obtain⟨o,e,_⟩:=a4; exact⟨o,e⟩
  have I1:Inv X pins σ (upd H s.heap.objs.size (.tup [x,y])) { s with heap:=h' } :=
   I.turnedNew (t':=s.toks) k1 (fun c hc'=>hf c (sub c hc')) th1 (Nat.le_refl _) ⟨za2,_,.cons ru (.cons rv .nil),zb7 a5⟩
  refine⟨_,rfl,wpAny_letOwnedTupleGo_zip a1 fun h'' hz'' hs''=>?_⟩
  have fr:∀ c∈[n+4,n+2,n+3,n,n+1],upd H s.heap.objs.size (.tup [x,y]) c=none:=fun c hc'=>by
   have hlt:c < s.heap.objs.size:=by
    simp only [List.mem_cons,List.not_mem_nil,or_false] at hc'
    rcases hc' with z | z | z | z | z <;> subst z <;> omega
   rw [zl (Nat.ne_of_lt hlt)]
   exact (hf c hc').1
  have I2:Inv X pins σ (upd H s.heap.objs.size (.tup [x,y])) { s with heap:=h'' } :=
   Inv.turnedL (s:={ s with heap:=h' }) (ch:=[n+4]) (t':=s.toks) I1 (fun c o hc' eo=>hs''.extBut c o (by simpa using hc') eo) (fun c hc'=>by
    have z:c=n+4:=by simpa using hc'
    subst z
    exact⟨fr _ (by simp),(hf _ (by simp)).2⟩) (fun c hc'=>by
    have z:c=n+4:=by simpa using hc'
    subst z
    exact⟨_,hz''⟩)
  refine⟨.ref s.heap.objs.size,_,I2,rfl,⟨_,x,y,I.fresh,rfl,rfl,fun zs hz=>by rw [I.list_inj hz hq1]; exact hx,fun zs hz=>by rw [I.list_inj hz hq2]; exact hy⟩,
   ⟨hz'',hs''.extBut _ _ (zipApart_new ha hb).TIz (kk _ _ (zipApart_new ha hb).TIz (zipApart_new ha hb).TITO (zipApart_new ha hb).TIi1 (zipApart_new ha hb).TIi2 h2),⟨_,_,hs''.extBut _ _ (zipApart_new ha hb).TOz a2⟩,a3.extBut hs''.extBut (zipApart_new ha hb).i1z,a4.extBut hs''.extBut (zipApart_new ha hb).i2z⟩,fr⟩
 done:=by
  intro X hP hw hK hc i pins s σ H E I hf st hg
  subst hP hw hK
  obtain⟨xs,ys,hq1,hq2,hx⟩:=hg
  obtain⟨h1,h2,⟨u0,v0,h3⟩,h4,h5⟩:=st
  obtain⟨its1,rv1,p1,hz1⟩:=I.list hq1
  obtain⟨its2,rv2,p2,hz2⟩:=I.list hq2
  have hl1:=rv1.length
  have hl2:=rv2.length
  refine wpAny_pyNext_zip_end (I.ok.hd hc) (zipApart_new ha hb) h1 h2 h3 h4 h5 p1.isList p2.isList ?_ fun h' kk=>⟨rfl,?_⟩
  ·rcases hx with z | z
   ·exact .inl (by simp; omega)
   ·exact .inr (by simp; omega)
  ·have hth:∀ c∈[n+4,n+3,n,n+1],c∈[n+4,n+2,n+3,n,n+1]:=fun c hc'=>by
    simp only [List.mem_cons,List.not_mem_nil,or_false] at hc' ⊢
    rcases hc' with z | z | z | z <;> subst z <;> simp
   refine I.step (g':=s.gens) (d':=s.drawn) (t':=s.toks) (ch:=[n+4,n+3,n,n+1]) (fun c hc'=>?_) (fun c o _ _ hcc e _=>kk c o (fun z=>hcc (by simp [z])) (fun z=>hcc (by simp [z])) (fun z=>hcc (by simp [z])) (fun z=>hcc (by simp [z])) e)
    (fun c o _ _ hcc e _=>⟨o.slots,kk c o (fun z=>hcc (by simp [z])) (fun z=>hcc (by simp [z])) (fun z=>hcc (by simp [z])) (fun z=>hcc (by simp [z])) e⟩) (fun _ _ _ _ n=>n)
    (fun c o hcc e=>⟨o,kk c o (fun z=>hcc (by simp [z])) (fun z=>hcc (by simp [z])) (fun z=>hcc (by simp [z])) (fun z=>hcc (by simp [z])) e⟩) (fun _ _ e=>e) (fun _ _ _ e=>e) (fun c ps e=>⟨#[],by rw [e]; simp⟩) (fun m hm=>?_) (fun c u e=>?_) I.bare
   ·obtain⟨_,a1,_,a3,a4,a5⟩:=hf c (hth c hc')
    exact⟨a3,a1,a4,a5⟩
   ·obtain⟨o,es',ep,ho,r⟩:=hm
    have ne:∀ c∈[n+4,n+2,n+3,n,n+1],X.env.locals≠c:=fun c hc'=>Ne.symm (hf c hc').2.1
    exact⟨o,es',ep,kk _ o (ne _ (by simp)) (ne _ (by simp)) (ne _ (by simp)) (ne _ (by simp)) ho,r⟩
   ·have nit:∀ d u',H d=some u'→∀ c∈[n+4,n+2,n+3,n,n+1],d≠c:=fun d u' e' c hc' z=>by rw [z,(hf c hc').1] at e'; cases e'
    refine (I.hok c u e).stay (fun d v' hd q=>kk d v' ?_ ?_ ?_ ?_ q) (fun _ q=>q) fun _ _ q=>q
    all_goals
     rcases hd with z | z
     ·rw [z]; exact nit c u e _ (by simp)
     ·exact nit d _ z _ (by simp)
 self:=fun _ _ _ _ _ st h=>wpAny_pyIter_zip st.1 h
def iZp (Sq1 Sq2:Hp→Addr→List V→Prop) (ta:TA):TI:=fun σ H R=>ta σ H fun vs H1=>∃ a b xs ys,vs = [.ref a,.ref b]∧Sq1 H1 a xs∧Sq2 H1 b ys∧R (ziy Sq1 Sq2 a b) H1
theorem zc6 {X:Cx} {es:List Expr} {k:Nat} {tpos p pos:Pos} {a b:Expr} {ta:TA} (hg:Gl X "zip") (hm:X.mg "zip" = none) (ha:PA X [a,b] ta) (hs:starEach [a,b] X.env = [(false,eval a X.env),(false,eval b X.env)]:=by rfl) (hs2:starEach [b] X.env = [(false,eval b X.env)]:=by rfl) :
  PI X (.Tuple es k tpos) (.Call (.Name "zip" p) [a,b] [] pos) (iZp (SqL X.K) (SqL X.K) ta):=by
 intro pins s σ H R I h
 refine Call_ (zba I hg hm boot_zip (PyProof.Rows.callWith_type1 (thn (ha pos pins s σ H _ I h) fun us s1 ⟨vs,H1,I1,r1,q1⟩=>?_) (by rw [hs,hs2]) (by rw [hs2]; rfl)))
 obtain⟨l1,l2,xs,ys,e,hq1,hq2,q⟩:=q1
 subst e
 cases r1 with
 | cons r rr =>
  cases rr with
  | cons r' rr =>
   cases rr
   cases r
   cases r'
   obtain⟨its1,rv1,pl1,hz1⟩:=I1.list hq1
   obtain⟨its2,rv2,pl2,hz2⟩:=I1.list hq2
   have hlt1:l1 < s1.heap.objs.size:=by obtain⟨_,_,e,_⟩:=pl1; exact Heap.lt_size e
   have hlt2:l2 < s1.heap.objs.size:=by obtain⟨_,_,e,_⟩:=pl2; exact Heap.lt_size e
   refine call_zip_2 pl1.isList pl2.isList fun h' b1 b2 b3 b4 b5 b6 kk=>?_
   have I2:Inv X pins σ H1 { s1 with heap:=h' }:=I1.kept (t':=s1.toks) kk
   refine wpAny_pyIter_zip b1 ?_
   refine⟨_,_,_,ziy (SqL X.K) (SqL X.K) l1 l2,H1,rfl,I2,ziz l1 l2 s1.heap.objs.size hlt1 hlt2,⟨b1,b2,⟨_,_,b3⟩,b4,b5⟩,fun c hc=>?_,q⟩
   have hle:s1.heap.objs.size≤c:=by
    simp only [List.mem_cons,List.not_mem_nil,or_false] at hc
    rcases hc with z | z | z | z | z <;> subst z <;> omega
   exact I1.fpOk hle (I1.hok.fresh hle)
end L2
end
section
set_option maxHeartbeats 4000000
namespace PySem
namespace F
end F
section
variable {prog:Program} {w:World} {A:Around} {E:Value→Shared→Prop} {s:Shared}
theorem zgn {it t:Addr} {i:Nat} {items:Array Value} {x:Value} {Q:Value→Shared→Prop} (hit:s.heap.IsTupleIter it t i) (ht:s.heap.IsTuple t items) (hx:items[i]? = some x)
  (hQ:∀ h',h'.IsTupleIter it t (i+1)→Heap.SameBut it s.heap h'→Q x { s with heap:=h' }):wpAny (model prog w) A (Builtin.SmallTypes.nextOf (.ref it)) Q E s:=by
 obtain⟨o,ho,hc,hd⟩:=id hit; obtain⟨ot,hot,_,nt,hdt⟩:=ht
 unfold Builtin.SmallTypes.nextOf; refine wpAny_bind (wpAny_callSpecial?_slot (name:=Str.ofString "__next__") hit.typeIs F.slot_tuple_iterator_next (wpAny_call_entry F.slot_tuple_iterator_next hit.typeIs F.entry_tuple_iterator_next ?_ (F.args_tuple_iterator_next_1 _)))
 show wpAny _ _ (field (.ref it) 0 >>= _) _ _ s; refine wpAny_bind (wpAny_field ho hd (x:=.ref t) rfl ?_); show wpAny _ _ (if (Value.ref t == Value.none)=true then _ else _) _ _ _; rw [if_neg (by exact Bool.false_ne_true)]
 refine wpAny_bind (wpAny_field ho hd (x:=.int _ 0) rfl ?_); refine wpAny_bind (m:=seqItems? _) (wpAny_seqItems hot hdt ?_); simp only [Int.toNat_natCast,hx]
 have hn:=Heap.get?_update_self (Obj.mapFields (·.setIfInBounds 1 (rawInt ((i+1:Nat):Int)))) ho (Obj.isFreed_of_fields (Obj.data_mapFields hd _))
 refine wpAny_bind (wpAny_setField ho hd (by simp) (wpAny_pure ⟨x,rfl,wpAny_pure (hQ _ ⟨_,hn,(Obj.cls_mapFields ..).trans hc,?_⟩ (Heap.SameBut.update ..))⟩)); rw [Obj.data_mapFields hd]; simp [rawInt]
theorem zdG {it t:Addr} {i:Nat} {items:Array Value} {Q:Value→Shared→Prop} (hh:A.handled=none) (hit:s.heap.IsTupleIter it t i) (ht:s.heap.IsTuple t items) (hx:items[i]? = none)
  (hE:∀ h' e,Heap.ExtBut it s.heap h'→(∃ o,h'.get? e=some o∧o.cls = .type "StopIteration")→E (.ref e) { s with heap:=h' }):wpAny (model prog w) A (Builtin.SmallTypes.nextOf (.ref it)) Q E s:=by
 obtain⟨o,ho,hc,hd⟩:=id hit; obtain⟨ot,hot,_,nt,hdt⟩:=ht
 unfold Builtin.SmallTypes.nextOf; refine wpAny_bind (wpAny_callSpecial?_slot (name:=Str.ofString "__next__") hit.typeIs F.slot_tuple_iterator_next (wpAny_call_entry F.slot_tuple_iterator_next hit.typeIs F.entry_tuple_iterator_next ?_ (F.args_tuple_iterator_next_1 _)))
 show wpAny _ _ (field (.ref it) 0 >>= _) _ _ s; refine wpAny_bind (wpAny_field ho hd (x:=.ref t) rfl ?_); show wpAny _ _ (if (Value.ref t == Value.none)=true then _ else _) _ _ _; rw [if_neg (by exact Bool.false_ne_true)]
 refine wpAny_bind (wpAny_field ho hd (x:=.int _ 0) rfl ?_); refine wpAny_bind (m:=seqItems? _) (wpAny_seqItems hot hdt ?_); simp only [Int.toNat_natCast,hx]
 refine wpAny_bind (wpAny_rule (wpAny_bind (wpAny_setField ho hd (by simp) ?_))); show wpAny _ _ (newExc (.type "StopIteration") [] >>= _) _ _ _; refine wpAny_bind ?_
 simp only [newExc,newTuple]; refine wpAny_bind (wpAny_newObj_type ?_ (by size_fits)); refine wpAny_bind (m:=firstArgMember _ _) (wpAny_of_eq (a:=Value.none) (by first | rfl | (simp only [firstArgMember]; rfl)) ?_)
 refine wpAny_newObj_type ?_ (by size_fits); simp only [raiseNew]; refine wpAny_bind (wpAny_handled ?_); first | rw [show A.in1.handled=none from hh] | rw [hh]
 refine wpAny_bind (wpAny_pure (wpAny_throw ?_)); exact hE _ _ (((Heap.SameBut.update ..).extBut.push _).push _) ⟨_,Heap.get?_push_size _ rfl,rfl⟩
end
theorem Draws.tuple {prog:Program} {w:World} {A:Around} (hh:A.handled=none) (it t:Addr) (hne:t≠it) (items:Array Value):Draws prog w A it [it,t] items.size (fun i v=>items[i]? = some v) (fun i h=>h.IsTupleIter it t i∧h.IsTuple t items) where
 live:=fun i h st=>st.1.imp fun o r=>r.1
 frame:=fun i h h' st kk=>⟨st.1.at fun o=>kk it (by simp) o,st.2.at fun o=>kk t (by simp) o⟩
 item:=fun i s Q E hi st hQ=>zgn st.1 st.2 (x:=items[i]) (by simp [hi]) fun h' a b=>hQ _ h' s.toks (by simp [hi]) ⟨a,st.2.extBut b.extBut hne⟩ b
 done:=fun s Q E st hE=>zdG hh st.1 st.2 (by simp) hE
def zbr (t:Addr):Obj:={ cls:=.type "tuple_iterator",data:=.fields #[.ref t,.int 0 0] }
def zjK (it:Addr):Obj:={ cls:=.type "enumerate",data:=.fields #[.none,.bool false,.ref it,rawInt 0,.none,.none] }
open AutoSeq1 (wpAny_loadPart') in
theorem zgo (l:Addr) (items:Array Value) (n:Nat) (dct:Option Addr) (sl:Array (Option Value)) :
  Meets (Builtin.«enumerate.__new__» ⟨[.type "enumerate",.ref l],[]⟩) (fun _ R s=>s.heap.get? l=some { cls:=.type "tuple",dict:=dct,data:=.seq items n,slots:=sl } ∧
   R (.ok (.ret (.ref (s.heap.push (zbr l)).objs.size))) { s with heap:=(s.heap.push (zbr l)).push (zjK s.heap.objs.size) }) :=
 .of_wp fun prog w A R s h=>by
  obtain⟨hp,g,d,tk,os⟩:=s; obtain⟨hl,h⟩:=h; have hT:Heap.IsTuple (Shared.heap ⟨hp,g,d,tk,os⟩) l items:=⟨_,hl,rfl,n,rfl⟩
  have hsub:=sub_enumerate; wp_walk using wpAny_loadPart' hl
  refine wpAny_stack_any fun st=>wpAny_pure ?_; split
  ·rename_i c _ _ _ _ _; cases (c == Value.type "enumerate") <;> (wp_walk using wpAny_loadPart' hl,wpAny_pyIter_tuple hT; exact⟨_,rfl,h⟩)
  ·wp_walk using wpAny_loadPart' hl,wpAny_pyIter_tuple hT; exact⟨_,rfl,h⟩
theorem zcn {prog:Program} {w:World} {A:Around} {E:Value→Shared→Prop} {s:Shared} {l:Addr} {items:Array Value} {Q:Value→Shared→Prop} (hL:s.heap.IsTuple l items)
  (h:∀ h',IsEnum h' (s.heap.objs.size+1) s.heap.objs.size 0 .none→h'.IsTupleIter s.heap.objs.size l 0→h'.objs.size=s.heap.objs.size+2 →
   (∀ b o,s.heap.get? b=some o→h'.get? b=some o)→Q (.ref (s.heap.objs.size+1)) { s with heap:=h' }):wpAny (model prog w) A (call (.type "enumerate") [.ref l]) Q E s:=by
 obtain⟨⟨c,dct,dt,sl⟩,hl,hc,n,hd⟩:=hL; replace hc:c = .type "tuple":=hc; replace hd:dt = .seq items n:=hd; subst hc hd
 refine callType_new F.called_enumerate (by decide) (F.typeCall_enumerate_1 _) (F.newCall_enumerate_1 _) (fun obj=>F.args_object_init_2 obj _) F.entry_enumerate_new (zgo l items n dct sl) ⟨hl,?_⟩
 have hz:(s.heap.push (zbr l)).objs.size=s.heap.objs.size+1:=Heap.size_push ..
 have he:=Heap.get?_push_size (s.heap.push (zbr l)) (o:=zjK s.heap.objs.size) rfl
 show _∧_
 rw [hz] at he ⊢
 exact⟨⟨_,he,rfl⟩,h _ he ⟨_,Heap.get?_push_of_some _ (Heap.get?_push_size _ rfl),rfl,rfl⟩ (by rw [Heap.size_push,hz]) fun b o x=>Heap.get?_push_of_some _ (Heap.get?_push_of_some _ x)⟩
end PySem
namespace L2
open PySem PySem.Spec PyProof.Rows
theorem zhi {P:Program} {w:World} {K:PySem.W.Frag} {es:List Expr} {k:Nat} {pos:Pos} (a it e:Addr) (hei:e≠it) (hai:a≠it) (hae:a≠e):Turn P w K (.Tuple es k pos) (zjJ (SqT K) a) [e,it] e (fun i h=>(∃ old,IsEnum h e it i old)∧h.IsTupleIter it a i) where
 mem:=by simp
 obj:=fun i h st b hb=>by
  obtain⟨⟨old,he⟩,o,ho,hc,hd⟩:=st
  rcases List.mem_cons.mp hb with z | z
  ·subst z
   exact⟨_,he,fun v z=>by cases z⟩
  ·have z:b=it:=by simpa using z
   subst z
   exact⟨o,ho,fun v z=>by rw [hd] at z; cases z⟩
 keep:=fun i h h' st kk=>⟨st.1.imp fun old he=>kk e (by simp) _ he,st.2.at fun o eo=>kk it (by simp) o eo⟩
 item:=by
  intro X hP hw hK hc i pins s σ H E I hf st hg
  subst hP hw hK
  obtain⟨xs,x,hq,hx⟩:=hg
  obtain⟨⟨old,he⟩,hit⟩:=st
  obtain⟨its,rv,p,hz⟩:=I.tuple hq
  obtain⟨u,hu,ru⟩:=rv.get hx
  have hes:e < s.heap.objs.size:=Heap.lt_size he
  have hits:it < s.heap.objs.size:=by obtain⟨o,ho,_⟩:=hit; exact Heap.lt_size ho
  have hlt:i < its.toArray.size:=by
   have:=(List.getElem?_eq_some_iff.mp hu).1
   simpa using this
  have hh:X.A.in1.handled=none:=by simp [I.ok.hd hc]
  refine wpAny_pyNext_enum_itemD (Draws.tuple hh it a hai its.toArray) he ⟨hit,(show s.heap.IsTuple a its.toArray from p)⟩ hlt hei (by simp [hei,Ne.symm hae]) fun u' h' tk hPu ho' hst' hT hsz kk=>?_
  obtain⟨hit',htup'⟩:=hst'
  have eu:u'=u:=by
   have e1:its[i]? = some u':=by simpa using hPu
   rw [hu] at e1
   exact (Option.some.inj e1).symm
  subst eu
  have k1:∀ b o,b∉[e,it]→s.heap.get? b=some o→h'.get? b=some o:=fun b o hb eo=>kk b o (fun z=>hb (by simp [z])) (fun z=>hb (by simp [z])) eo
  have th1:∀ b∈[e,it],∃ o,h'.get? b=some o:=fun b hb=>by
   rcases List.mem_cons.mp hb with z | z
   ·subst z; exact⟨_,ho'⟩
   ·have z:b=it:=by simpa using z
    subst z
    obtain⟨o,eo,_⟩:=hit'
    exact⟨o,eo⟩
  have I1:Inv X pins σ (upd H s.heap.objs.size (.tup [.int i,x])) { s with heap:=h',toks:=tk+1 } :=
   I.turnedNew k1 hf th1 (Nat.le_refl _) ⟨za2,_,.cons ⟨tk,rfl⟩ (.cons ru .nil),zb7 hT⟩
  refine⟨_,rfl,wpAny_letOwnedTupleGo_enum ho' fun h'' he'' hs''=>?_⟩
  have fr:∀ b∈[e,it],upd H s.heap.objs.size (.tup [.int i,x]) b=none:=fun b hb=>by
   have hlt:b < s.heap.objs.size:=by
    rcases List.mem_cons.mp hb with z | z
    ·subst z; exact hes
    ·have z:b=it:=by simpa using z
     subst z; exact hits
   rw [zl (Nat.ne_of_lt hlt)]
   exact (hf b hb).1
  have I2:Inv X pins σ (upd H s.heap.objs.size (.tup [.int i,x])) { s with heap:=h'',toks:=tk+1 } :=
   Inv.turnedL (s:={ s with heap:=h',toks:=tk+1 }) (ch:=[e]) (t':=tk+1) I1 (fun b o hb eo=>hs''.extBut b o (by simpa using hb) eo) (fun b hb=>by
    have z:b=e:=by simpa using hb
    subst z
    exact⟨fr b (by simp),(hf b (by simp)).2⟩) (fun b hb=>by
    have z:b=e:=by simpa using hb
    subst z
    exact⟨_,he''⟩)
  refine⟨.ref s.heap.objs.size,_,I2,rfl,⟨_,x,I.fresh,rfl,rfl,fun ys hy=>by rw [I.tuple_inj hy hq]; exact hx⟩,⟨⟨_,by simpa using he''⟩,hit'.extBut hs''.extBut (Ne.symm hei)⟩,fr⟩
 done:=by
  intro X hP hw hK hc i pins s σ H E I hf st hg
  subst hP hw hK
  obtain⟨xs,hq,hx⟩:=hg
  obtain⟨⟨old,he⟩,hit⟩:=st
  obtain⟨its,rv,p,hz⟩:=I.tuple hq
  have hl:=rv.length
  obtain⟨f0,f1,f2,f3,f4,f5⟩:=hf it (by simp)
  have hT:s.TypeIs (.ref e) "enumerate":=⟨_,he,rfl⟩; have hh:X.A.in1.handled=none:=by simp [I.ok.hd hc]
  unfold pyNext; refine wpAny_bind (wpAny_attempt (wpAny_callSpecial?_slot (name:=Str.ofString "__next__") hT F.slot_enumerate_next (wpAny_call_entry F.slot_enumerate_next hT F.entry_enumerate_next ?_ (F.args_enumerate_next_1 _))))
  show wpAny _ _ (field (.ref e) 2 >>= _) _ _ _; refine wpAny_bind (wpAny_field he rfl (x:=.ref it) rfl ?_)
  refine wpAny_bind (zdG hh hit (show s.heap.IsTuple a its.toArray from p) (by simp; omega) fun h' x he' hx'=>?_)
  obtain⟨o,ho,hc⟩:=hx'
  refine wpAny_bind (wpAny_isInstance (T:="StopIteration") (b:=true) ⟨o,ho,hc⟩ isSubtype_stop ?_); exact wpAny_pure ⟨rfl,I.turned (t':=s.toks) (fun b o hb e=>he' b o hb e) f0 f1 f3 f4 f5⟩
 self:=fun _ _ _ _ _ st h=>by
  obtain⟨⟨old,he⟩,_⟩:=st
  exact wpAny_pyIter_enum he h
theorem zc7 {X:Cx} {es:List Expr} {k:Nat} {tpos p pos:Pos} {a:Expr} {ta:TA} (hg:Gl X "enumerate") (hm:X.mg "enumerate" = none) (ha:PA X [a] ta) (hs:starEach [a] X.env = [(false,eval a X.env)]:=by rfl) :
  PI X (.Tuple es k tpos) (.Call (.Name "enumerate" p) [a] [] pos) (iEn (SqT X.K) ta):=by
 intro pins s σ H R I h
 refine Call_ (zba I hg hm boot_enumerate (PyProof.Rows.callWith_type1 (thn (ha pos pins s σ H _ I h) fun us s1 ⟨vs,H1,I1,r1,q1⟩=>?_) hs rfl))
 obtain⟨l,xs,e,hq,q⟩:=q1
 subst e
 cases r1 with
 | cons r rr =>
  cases rr
  cases r
  obtain⟨its,rv,pl,hz⟩:=I1.tuple hq
  have hlt:l < s1.heap.objs.size:=by obtain⟨_,e,_⟩:=pl; exact Heap.lt_size e
  refine zcn (show s1.heap.IsTuple l its.toArray from pl) fun h' he hi hsz kk=>?_
  have I2:Inv X pins σ H1 { s1 with heap:=h' }:=I1.kept (t':=s1.toks) kk
  refine wpAny_pyIter_enum he ?_; refine⟨_,[s1.heap.objs.size+1,s1.heap.objs.size],_,zjJ (SqT X.K) l,H1,rfl,I2,zhi l s1.heap.objs.size (s1.heap.objs.size+1) (Nat.succ_ne_self _) (Nat.ne_of_lt hlt) (Nat.ne_of_lt (Nat.lt_succ_of_lt hlt)),⟨⟨_,he⟩,hi⟩,fun b hb=>?_,q⟩
  have hle:s1.heap.objs.size≤b:=by
   rcases List.mem_cons.mp hb with z | z
   ·rw [z]; exact Nat.le_succ _
   ·have z:b=s1.heap.objs.size:=by simpa using z
    rw [z]; exact Nat.le_refl _
  exact I1.fpOk hle (I1.hok.fresh hle)
end L2
end
section
set_option maxHeartbeats 4000000
namespace L2
open PySem PySem.Spec PyProof.Rows
inductive EqD (K:PySem.W.Frag) (H:Hp):Nat→V→V→Bool→Prop where
 | flat {d:Nat} {x y:V} (hx:zck x=true) (hy:zck y=true):EqD K H d x y (eqV x y)
 | same {d:Nat} {a:Addr}:EqD K H d (.ref a) (.ref a) true
 | lists {d:Nat} {a b:Addr} {xs ys:List V} {e:Nat→Bool} (hne:a≠b) (ha:SqL K H a xs) (hb:SqL K H b ys) (hl:xs.length=ys.length)
   (he:∀ (j:Nat) x y,xs[j]? = some x→ys[j]? = some y→EqD K H d x y (e j)):EqD K H (d+1) (.ref a) (.ref b) ((List.range xs.length).all e)
 | lens {d:Nat} {a b:Addr} {xs ys:List V} (hne:a≠b) (ha:SqL K H a xs) (hb:SqL K H b ys) (hl:xs.length≠ys.length):EqD K H (d+1) (.ref a) (.ref b) false
 | tups {d:Nat} {a b:Addr} {xs ys:List V} {e:Nat→Bool} (hne:a≠b) (ha:SqT K H a xs) (hb:SqT K H b ys)
   (he:∀ (j:Nat) x y,xs[j]? = some x→ys[j]? = some y→EqD K H d x y (e j)):EqD K H (d+1) (.ref a) (.ref b) ((List.range (min xs.length ys.length)).all e && xs.length == ys.length)
theorem zK.getE {xs:List V} {us:List Value} (r:zK xs us) {j:Nat} (h:j < us.toArray.size):∃ x,xs[j]? = some x∧RelV x us.toArray[j]:=by
 have hl:=r.length
 have hj:j < xs.length:=by rw [hl]; simpa using h
 obtain⟨u,hu,ru⟩:=r.get (i:=j) (x:=xs[j]) (by simp)
 refine⟨xs[j],by simp,?_⟩
 have:us.toArray[j]=u:=by
  have h2:j < us.length:=by simpa using h
  rw [List.getElem?_eq_getElem h2] at hu
  simpa using Option.some.inj hu
 rw [this]
 exact ru
theorem EqD.at {X:Cx} {pins:List (Addr×Obj)} {σ:St} {H:Hp} {s:Shared} (I:Inv X pins σ H s) {d:Nat} {x y:V} {b:Bool} (h:EqD X.K H d x y b) :
  ∀ (A:Around) (u v:Value),RelV x u→RelV y v→A.units+d < cLine→SeqAt.EqAt A s u v b:=by
 induction h with
 | flat hx hy=>exact fun A u v rx ry _=>zjA rx ry hx hy
 | same=>intro A u v rx ry _; cases rx; cases ry; exact SeqAt.EqAt.same _
 | lists hne ha hb hl he ih =>
  intro A u v rx ry hu
  cases rx; cases ry
  obtain⟨is1,r1,p1,_⟩:=I.list ha
  obtain⟨is2,r2,p2,_⟩:=I.list hb
  have l1:=r1.length
  have l2:=r2.length
  refine SeqAt.EqAt.of_refs hne ?_
  have q:=SeqAt.RcAt.lists (A:=A) p1.isList p2.isList (by simp only [List.size_toArray]; omega) (by omega) fun j h1 h2=>by
   obtain⟨x,hx,rx⟩:=r1.getE h1
   obtain⟨y,hy,ry⟩:=r2.getE h2
   exact ih j x y hx hy A.in1 _ _ rx ry (by simp only [Around.in1_units]; omega)
  rw [List.size_toArray,← l1] at q
  exact q
 | lens hne ha hb hl =>
  intro A u v rx ry hu
  cases rx; cases ry
  obtain⟨is1,r1,p1,_⟩:=I.list ha
  obtain⟨is2,r2,p2,_⟩:=I.list hb
  have l1:=r1.length
  have l2:=r2.length
  exact SeqAt.EqAt.of_refs hne (SeqAt.RcAt.lists_lengths p1.isList p2.isList (by simp only [List.size_toArray,bne_iff_ne]; omega) (by omega))
 | tups hne ha hb he ih =>
  intro A u v rx ry hu
  cases rx; cases ry
  obtain⟨is1,r1,p1,_⟩:=I.tuple ha
  obtain⟨is2,r2,p2,_⟩:=I.tuple hb
  have l1:=r1.length
  have l2:=r2.length
  refine SeqAt.EqAt.of_refs hne ?_
  have q:=SeqAt.RcAt.tuples (A:=A) (s:=s) p1 p2 (by omega) fun j h1 h2=>by
   obtain⟨x,hx,rx⟩:=r1.getE h1
   obtain⟨y,hy,ry⟩:=r2.getE h2
   exact ih j x y hx hy A.in1 _ _ rx ry (by simp only [Around.in1_units]; omega)
  rw [List.size_toArray,List.size_toArray,← l1,← l2] at q
  exact q
def zob (K:PySem.W.Frag) (neg:Bool):R2:=fun x y H Q=>∃ a b xs ys,x = .ref a∧y = .ref b∧((SqL K H a xs∧SqL K H b ys)∨(SqT K H a xs∧SqT K H b ys)) ∧
 ((xs.length≠ys.length∧(∀ (j:Nat) x y,xs[j]? = some x→ys[j]? = some y→∃ c,EqD K H 8 x y c)∧Q (.bl neg) H) ∨
  (xs.length=ys.length∧∃ e:Nat→Bool,(∀ (j:Nat) x y,xs[j]? = some x→ys[j]? = some y→EqD K H 8 x y (e j))∧Q (.bl (if neg then !(List.range xs.length).all e else (List.range xs.length).all e)) H))
theorem zjL {X:Cx} (hu:X.A.units+20 < cLine):OpR X (compareOp .NotEq) (zob X.K true):=by
 intro pins s σ H x y v u Q I rx ry h
 obtain⟨a,b,xs,ys,rfl,rfl,hk,h⟩:=h
 cases rx; cases ry
 rcases hk with ⟨ha,hb⟩ | ⟨ha,hb⟩
 ·obtain⟨is1,r1,p1,_⟩:=I.list ha
  obtain⟨is2,r2,p2,_⟩:=I.list hb
  have l1:=r1.length
  have l2:=r2.length
  rcases h with ⟨hl,_,q⟩ | ⟨hl,e,he,q⟩
  ·exact SeqAt.RcNeAt.lists_lengths p1.isList p2.isList (by simp only [List.size_toArray,bne_iff_ne]; omega) (by omega) _ _ _ _ ⟨.bl true,H,I,rfl,q⟩
  ·refine SeqAt.RcNeAt.lists p1.isList p2.isList (e:=e) (by simp only [List.size_toArray]; omega) (by omega) (fun j h1 h2=>?_) _ _ _ _ ⟨.bl _,H,I,rfl,?_⟩
   ·obtain⟨x,hx,rx⟩:=r1.getE h1
    obtain⟨y,hy,ry⟩:=r2.getE h2
    exact (he j x y hx hy).at I _ _ _ rx ry (by simp only [Around.in1_units]; omega)
   ·rw [List.size_toArray,← l1]
    exact q
 ·obtain⟨is1,r1,p1,_⟩:=I.tuple ha
  obtain⟨is2,r2,p2,_⟩:=I.tuple hb
  have l1:=r1.length
  have l2:=r2.length
  rcases h with ⟨hl,he,q⟩ | ⟨hl,e,he,q⟩
  ·have he':∀ j:Nat,∃ c:Bool,∀ x y,xs[j]? = some x→ys[j]? = some y→EqD X.K H 8 x y c:=fun j=>by
    cases hx:xs[j]? with
    | none=>exact⟨true,fun x y z=>by cases z⟩
    | some x =>
     cases hy:ys[j]? with
     | none=>exact⟨true,fun x y _ z=>by cases z⟩
     | some y =>
      obtain⟨c,hc⟩:=he j x y hx hy
      exact⟨c,fun x' y' z1 z2=>by cases z1; cases z2; exact hc⟩
   obtain⟨e,he''⟩:=Classical.axiomOfChoice he'
   refine SeqAt.RcNeAt.tuples (s:=s) p1 p2 (e:=e) (by omega) (fun j h1 h2=>?_) _ _ _ _ ⟨.bl _,H,I,rfl,?_⟩
   ·obtain⟨x,hx,rx⟩:=r1.getE h1
    obtain⟨y,hy,ry⟩:=r2.getE h2
    exact (he'' j x y hx hy).at I _ _ _ rx ry (by simp only [Around.in1_units]; omega)
   ·have hb':(is1.toArray.size == is2.toArray.size)=false:=by
     rw [List.size_toArray,List.size_toArray]; exact beq_eq_false_iff_ne.mpr (by omega)
    rw [hb',Bool.and_false]
    exact q
  ·refine SeqAt.RcNeAt.tuples (s:=s) p1 p2 (e:=e) (by omega) (fun j h1 h2=>?_) _ _ _ _ ⟨.bl _,H,I,rfl,?_⟩
   ·obtain⟨x,hx,rx⟩:=r1.getE h1
    obtain⟨y,hy,ry⟩:=r2.getE h2
    exact (he j x y hx hy).at I _ _ _ rx ry (by simp only [Around.in1_units]; omega)
   ·have hb':(is1.toArray.size == is2.toArray.size)=true:=by
     rw [List.size_toArray,List.size_toArray]; exact beq_iff_eq.mpr (by omega)
    have hmin:min is1.toArray.size is2.toArray.size=xs.length:=by rw [List.size_toArray,List.size_toArray]; omega
    rw [hb',Bool.and_true,hmin]
    exact q
theorem zco {X:Cx}:zbh X (.builtin "isinstance") (fun xs H Q=>∃ x t n b,xs = [x,.ty n]∧TyOf X.K H x t∧PySem.W.kitOne X.K t (.type n)=some b∧Q (.bl b) H):=by
 intro pins s σ H xs us Q I r h
 obtain⟨x,t,n,b,rfl,ty,hk,q⟩:=h
 obtain⟨u,u',rfl,rx,r2⟩:=vals2 r
 cases r2
 exact zit I rx ty hk fun tk=>⟨.bl b,H,I.tok tk,rfl,q⟩
theorem zgp {X:Cx}:zbh X (.type "range") (fun xs H Q=>∃ j:Int,xs = [.int j]∧∀ l,H l=none→Q (.ref l) (upd H l (.rng 0 j))):=by
 intro pins s σ H xs us Q I r h
 obtain⟨j,rfl,q⟩:=h
 obtain⟨u,rfl,t,rfl⟩:=vals1 r
 refine call_range_1 ?_
 exact⟨.ref s.heap.objs.size,_,I.laid (o:=.rng 0 j) (fun b o e=>Heap.get?_push_of_some _ e) (Nat.le_refl _) ⟨_,_,_,Heap.get?_push_size _ rfl⟩,rfl,q _ I.fresh⟩
def zbG (lo:Int) (n:Nat):List Int:=(List.range n).map fun (i:Nat)=>lo+(i:Int)
theorem zcR (lo:Int) (n:Nat):(zbG lo n).length=n:=by simp [zbG]
theorem zeU {acc:Array Value} {lo:Int} {n:Nat} (h:ItemsOf (fun i v=>∃ t,v = .int (lo+(i:Nat)*1) t) acc n):zK ((zbG lo n).map V.int) acc.toList:=by
 obtain⟨hsz,hv⟩:=h
 have go:∀ (us:List Value) (k:Nat),(∀ (j:Nat) v,us[j]? = some v→∃ t,v = .int (lo+((k+j:Nat):Int)) t)→zK (((List.range us.length).map fun (i:Nat)=>V.int (lo+((k+i:Nat):Int)))) us:=by
  intro us
  induction us with
  | nil=>intro k _; exact .nil
  | cons u us ih =>
   intro k hu
   rw [List.length_cons,List.range_succ_eq_map,List.map_cons,List.map_map]
   refine .cons ?_ ?_
   ·obtain⟨t,e⟩:=hu 0 u rfl
    exact⟨t,e⟩
   ·have:=ih (k+1) fun j v e=>by
     obtain⟨t,z⟩:=hu (j+1) v (by simpa using e)
     exact⟨t,by rw [z]; congr 1; omega⟩
    have e2:(fun (i:Nat)=>V.int (lo+((k+1+i:Nat):Int)))=((fun (i:Nat)=>V.int (lo+((k+i:Nat):Int))) ∘ Nat.succ):=by
     funext i
     show V.int _=V.int _
     congr 2
     show ((k+1+i:Nat):Int)=((k+(i+1):Nat):Int)
     omega
    rw [← e2]
    exact this
 have h1:=go acc.toList 0 fun j v e=>by
  obtain⟨t,z⟩:=hv j v (by simpa using e)
  exact⟨t,by rw [z]; simp⟩
 have e1:acc.toList.length=n:=by simpa using hsz
 rw [e1] at h1
 unfold zbG
 rw [List.map_map]
 have e2:(V.int ∘ fun (i:Nat)=>lo+(i:Int))=fun (i:Nat)=>V.int (lo+((0+i:Nat):Int)):=by
  funext i
  show V.int (lo+(i:Int))=V.int (lo+((0+i:Nat):Int))
  rw [Nat.zero_add]
 rw [e2]
 exact h1
theorem zeV {X:Cx} (hc:X.calm=true):zbh X (.type "list") (fun xs H Q=>∃ p hi,xs = [.ref p]∧H p=some (.rng 0 hi)∧0≤hi∧hi≤1000∧∀ l,H l=none→Q (.ref l) (upd H l (.lst ((zbG 0 hi.toNat).map V.int)))):=by
 intro pins s σ H xs us Q I r h
 obtain⟨p,hi,rfl,hp,h0,h1,q⟩:=h
 obtain⟨u,rfl,rx⟩:=vals1 r
 cases rx
 obtain⟨t,u',v,e⟩:=(show zab X.prog X.w H s.heap p (.rng 0 hi) from I.hok p _ hp)
 have hsl:=sizeLine_eq
 refine call_list_range (n:=hi.toNat) (I.ok.hd hc) (show IsRange s.heap p 0 hi 1 t u' v from e) (small_one (by omega) (by omega) (by omega) (by omega)) (by rw [rangeSize_one]; split <;> omega) (by omega) fun h' tk acc' c' kk ho hacc=>?_
 have hv:=zeU (lo:=0) (n:=hi.toNat) hacc
 refine⟨.ref s.heap.objs.size,_,I.laid kk (Nat.le_refl _) ?_,rfl,q _ I.fresh⟩
 exact⟨by rw [List.length_map,zcR]; omega,acc'.toList,c',hv,by simpa using ho⟩
def zoc (K:PySem.W.Frag) (tl:TE):TI:=fun σ H R=>tl σ H fun x H1=>∃ a,x = .ref a∧(((∃ xs,SqL K H1 a xs)∧R (Itl K a) H1)∨((∃ xs,SqT K H1 a xs)∧R (Itt K a) H1))
theorem zjM {X:Cx} {tg l:Expr} {tl:TE} (hl:PE X l tl):PI X tg l (zoc X.K tl):=by
 intro pins s σ H R I h
 refine thn (hl pins s σ H _ I h) fun v s1 ⟨x,H1,I1,r1,q1⟩=>?_
 obtain⟨a,e,q⟩:=q1
 subst e
 cases r1
 rcases q with ⟨⟨xs,hq⟩,q⟩ | ⟨⟨xs,hq⟩,q⟩
 ·obtain⟨its,rv,p,hz⟩:=I1.list hq
  refine wpAny_pyIter_list p.isList ?_
  refine⟨s1.heap.objs.size,[s1.heap.objs.size],_,_,H1,rfl,I1.kept (t':=s1.toks) fun b o e=>Heap.get?_push_of_some _ e,ze5 a _,⟨_,Heap.get?_push_size _ rfl,rfl,rfl⟩,fun b hb=>?_,q⟩
  have e:b=s1.heap.objs.size:=by simpa using hb
  subst e
  exact I1.fpOk (Nat.le_refl _) (I1.hok.fresh (Nat.le_refl _))
 ·obtain⟨its,rv,p,hz⟩:=I1.tuple hq
  refine wpAny_pyIter_tuple (show s1.heap.IsTuple a its.toArray from p) ?_
  refine⟨s1.heap.objs.size,[s1.heap.objs.size],_,_,H1,rfl,I1.kept (t':=s1.toks) fun b o e=>Heap.get?_push_of_some _ e,zeh a _,⟨_,Heap.get?_push_size _ rfl,rfl,rfl⟩,fun b hb=>?_,q⟩
  have e:b=s1.heap.objs.size:=by simpa using hb
  subst e
  exact I1.fpOk (Nat.le_refl _) (I1.hok.fresh (Nat.le_refl _))
def intsOf:List Expr→Option (List Int)
 | []=>some []
 | .Constant (.int i) _ _ :: r=>(intsOf r).map (i :: ·)
 | _=>none
def zfh (ns:List Int):TA:=fun _ H Q=>Q (ns.map V.int) H
theorem zjN {X:Cx}:∀ (es:List Expr) (ns:List Int),intsOf es=some ns→PA X es (zfh ns):=by
 intro es
 induction es with
 | nil =>
  intro ns h
  have e:ns = []:=(Option.some.inj h).symm
  subst e
  exact zd
 | cons e r ih =>
  intro ns h
  unfold intsOf at h
  split at h
  ·rename_i heq
   cases heq
  ·rename_i i j p r' heq
   injection heq with e1 e2
   subst e1 e2
   cases hr:intsOf r with
   | none=>rw [hr] at h; cases h
   | some ms =>
    rw [hr] at h
    have e:i :: ms=ns:=Option.some.inj h
    subst e
    exact za zf (ih ms hr)
  ·cases h
theorem zlf {X:Cx} {es:List Expr} {ns:List Int} (h:intsOf es=some ns):PA X es (zfh ns):=zjN es ns h
theorem zcp {X:Cx} {i:Int} {j:Nat} {p:Pos} {es:List Expr} {t:TA} (hr:PA X es t):PA X (.Constant (.int i) j p :: es) (zhX (tC (.int i)) t):=za zf hr
theorem zjO {X:Cx} {i:Nat} {x:Str} {pos' pos2 spos:Pos} {rest:List Stmt} {u:TS} {es:List Expr} {ns:List Int} (h:intsOf es=some ns) (hN:X.N.Nodup) (hi:X.N[i]? = some x) (hx:Loc X.env.scope x)
  (hf:X.fn x=true∨X.env.scope.names.lookup x=some .local) (hr:PSs X rest u):PSs X (.Assign [.Name x pos'] (.List es pos2) spos :: rest) (zmw (zfw (zhb (zfh ns)) (za1 i)) u):=by
 have h1:PE X (.List es pos2) (zhb (zfh ns)):=@zY X es (zfh ns) pos2 (@zlf X es ns h)
 have h2:PS X (.Assign [.Name x pos'] (.List es pos2) spos) (zfw (zhb (zfh ns)) (za1 i)):=zm hN hi hx h1 (by rfl) hf
 exact ze h2 hr
section
variable {X:Cx} {K:PySem.W.Frag}
theorem zar (hK:X.K=K):IxR X (znB K):=by subst hK; exact zu
theorem zh3 (hK:X.K=K):IxR X (znC K):=by subst hK; exact zb2
theorem zjP (hK:X.K=K):SlR X (znE K):=by subst hK; exact zcA
def znF (K:PySem.W.Frag):List V→Hp→VK→Prop:=fun xs H Q=>∃ p ys,xs = [.ref p]∧(SqL K H p ys∨SqT K H p ys)∧Q (.int ys.length) H
theorem zbf (hK:X.K=K):zbh X (.builtin "len") (znF K):=by subst hK; exact zx
theorem zac {es:List Expr} {k:Nat} {t:TGs} {n:Nat} {pos:Pos} (hK:X.K=K) (hc:X.calm=true) (h:PGs X es t)
  (hn:(assignEach es X.env).length=n:=by rfl) (hst:(assignEach es X.env).findIdx? (·.1)=none:=by rfl):PG X (.Tuple es k pos) (zir K n t):=by subst hK; exact zaP hc h hn hst
theorem zmM {o e:Expr} {es:List Expr} {to:TE} {t:TA} {name:Str} {apos cpos:Pos} {T id:String} {r:V→List V→Hp→VK→Prop} (hK:X.K=K) (pa:PlainAttrs T) (slot:Slot T name id) (hty:typeOf (.builtin id)=pure (.type "method_descriptor")) (hm:MtR X id r) (ho:PE X o to) (ha:PA X (e :: es) t)
  (hbase:attributeBase o name X.env (eval o X.env)=eval o X.env:=by rfl)
  (hfew:((backTo cpos (starEach (e :: es) X.env)).all (fun x=>!x.1) && (backToKw cpos (keywordEach [] X.env)).all (fun x=>x.1.isSome)
   && decide ((e :: es).length+([]:List Keyword).length+(if ([]:List Keyword).isEmpty then 0 else 1) < 30))=true:=by rfl)
  (hline:(apos.endLine == cpos.line)=true:=by rfl) (hs:starEach (e :: es) X.env=(false,eval e X.env) :: starEach es X.env:=by rfl) (hplain:(backTo cpos (starEach es X.env)).any (·.1)=false:=by rfl) :
  PE X (.Call (.Attribute o name apos) (e :: es) [] cpos) (tBM K T r to t):=by subst hK; exact zcd pa slot hty hm ho ha hbase hfew hline hs hplain
end
end L2
end
section
namespace My
def Cg (p a b:Int):Prop:=∃ k,a=b+p*k
theorem Cg.refl (p a:Int):Cg p a a:=⟨0,by grind⟩
theorem Cg.symm {p a b:Int} (h:Cg p a b):Cg p b a:=by obtain⟨k,e⟩:=h; exact⟨-k,by grind⟩
theorem Cg.trans {p a b c:Int} (h:Cg p a b) (h':Cg p b c):Cg p a c:=by
 obtain⟨k,e⟩:=h; obtain⟨l,e'⟩:=h'; exact⟨k+l,by grind⟩
theorem Cg.add {p a b c d:Int} (h:Cg p a b) (h':Cg p c d):Cg p (a+c) (b+d):=by
 obtain⟨k,e⟩:=h; obtain⟨l,e'⟩:=h'; exact⟨k+l,by grind⟩
theorem Cg.sub {p a b c d:Int} (h:Cg p a b) (h':Cg p c d):Cg p (a - c) (b - d):=by
 obtain⟨k,e⟩:=h; obtain⟨l,e'⟩:=h'; exact⟨k - l,by grind⟩
theorem Cg.mul {p a b c d:Int} (h:Cg p a b) (h':Cg p c d):Cg p (a*c) (b*d):=by
 obtain⟨k,e⟩:=h; obtain⟨l,e'⟩:=h'
 exact⟨k*d+b*l+p*k*l,by subst e e'; grind⟩
theorem Cg.of_eq {p a b:Int} (h:a=b):Cg p a b:=h ▸ Cg.refl p a
theorem Cg.emod (p a:Int):Cg p (a % p) a:=⟨-(a / p),by have:=Int.emod_add_mul_ediv a p; grind⟩
theorem Cg.mod_eq {p a b:Int} (h:Cg p a b):a % p=b % p:=by
 obtain⟨k,e⟩:=h; rw [e,Int.add_mul_emod_self_left]
theorem Cg.of_mod {p a b:Int} (h:a % p=b % p):Cg p a b:=(Cg.emod p a).symm.trans (h ▸ Cg.emod p b)
theorem Cg.eq {p a b:Int} (h:Cg p a b) (ha:0≤a) (ha':a < p) (hb:0≤b) (hb':b < p):a=b:=by
 have:=h.mod_eq
 rwa [Int.emod_eq_of_lt ha ha',Int.emod_eq_of_lt hb hb'] at this
def zc8 (p x:Int):List Int→Int
 | []=>0
 | c :: r=>(c+x*zc8 p x r) % p
theorem zh4 {p x:Int} (hp:0 < p):∀ l,0≤zc8 p x l
 | []=>Int.le_refl 0
 | _ :: _=>Int.emod_nonneg _ (by omega)
theorem zh5 {p x:Int} (hp:0 < p):∀ l,zc8 p x l < p
 | []=>hp
 | _ :: _=>Int.emod_lt_of_pos _ hp
theorem ziA (p x c:Int) (r:List Int):Cg p (zc8 p x (c :: r)) (c+x*zc8 p x r):=Cg.emod _ _
def lv (p x:Int):Int→Int→List Int→Int
 | total,_,[]=>total
 | total,power,c :: r=>lv p x ((total+c*power) % p) (power*x % p) r
theorem zmc {p x:Int}:∀ (l:List Int) (total power:Int),Cg p (lv p x total power l) (total+power*zc8 p x l)
 | [],total,power=>Cg.of_eq (by show total=total+power*0; grind)
 | c :: r,total,power=>by
  have h1:=zmc (p:=p) (x:=x) r ((total+c*power) % p) (power*x % p)
  refine h1.trans ?_
  have h2:Cg p ((total+c*power) % p+power*x % p*zc8 p x r) (total+c*power+power*x*zc8 p x r):=(Cg.emod p _).add ((Cg.emod p (power*x)).mul (Cg.refl p _))
  refine h2.trans ?_
  have h3:Cg p (total+power*(c+x*zc8 p x r)) (total+power*zc8 p x (c :: r)):=(Cg.refl p _).add ((Cg.refl p _).mul (ziA p x c r).symm)
  refine (Cg.of_eq ?_).trans h3
  grind
theorem zjQ {p x:Int} (hp:0 < p):∀ (l:List Int) (total power:Int),0≤total→total < p→0≤lv p x total power l∧lv p x total power l < p
 | [],total,power,h1,h2=>⟨h1,h2⟩
 | c :: r,total,power,h1,h2=>zjQ hp r _ _ (Int.emod_nonneg _ (by omega)) (Int.emod_lt_of_pos _ hp)
theorem zh6 {p x:Int} (hp:0 < p) (l:List Int):lv p x 0 1 l=zc8 p x l:=by
 obtain⟨a,b⟩:=zjQ (x:=x) hp l 0 1 (Int.le_refl _) hp
 exact ((zmc l 0 1).trans (Cg.of_eq (by grind))).eq a b (zh4 hp l) (zh5 hp l)
def zJ:List Int:=[5,7,11,13,17,19,23,29,31,37,41,43,47,53,59,61,67,71,73,79,83,89,97]
def zcB (p:Int):Nat→Int→Int→Int→Int
 | 0,prod,_,_=>prod
 | n+1,prod,sq,left=>if 0 < left then zcB p n (if left % 2=1 then prod*sq % p else prod) (sq*sq % p) (left / 2) else prod
def inv (p h:Int):Int:=zcB p 7 1 (h % p) (p - 2)
def zod:Bool:=zJ.all fun p=>(List.range p.toNat).all fun h=>h == 0 || (inv p h*h) % p == 1
theorem ziB:zod=true:=by decide +kernel
theorem zV {p:Int} (hp:p∈zJ):5≤p∧p≤97:=by
 have:zJ.all (fun p=>decide (5≤p∧p≤97))=true:=by decide +kernel
 have:=List.all_eq_true.mp this p hp
 simpa using this
theorem zhj {p h:Int} (hp:p∈zJ) (h0:0 < h) (h1:h < p):Cg p (inv p h*h) 1:=by
 have e:=List.all_eq_true.mp (List.all_eq_true.mp ziB p hp) h.toNat (List.mem_range.mpr (by omega))
 have hh:((h.toNat:Nat):Int)=h:=by omega
 have:h.toNat≠0:=by omega
 simp only [Bool.or_eq_true,beq_iff_eq,hh,this,false_or] at e
 have hr:=zV hp
 exact Cg.of_mod (by rw [e,Int.emod_eq_of_lt (by omega) (by omega)])
def trF (p r:Int) (high low:Int):Int:=(high - r*low) % p
def zc9 (p r:Int) (v:List Int):List Int:=List.zipWith (trF p r) (0 :: v) (v++[0])
theorem zcC (p r:Int) (v:List Int):(zc9 p r v).length=v.length+1:=by simp [zc9]
theorem zep {α β γ:Type} {f:α→β→γ}:∀ {as:List α} {bs:List β} {c:γ},c∈List.zipWith f as bs→∃ a b,c=f a b
 | [],_,c,h=>by simp at h
 | _ :: _,[],c,h=>by simp at h
 | a :: as,b :: bs,c,h=>by
  rcases List.mem_cons.mp h with e | e
  ·exact⟨a,b,e⟩
  ·exact zep e
structure Pts (p:Int) (pts:List (Int×Int)):Prop where
 nd:(pts.map (·.1)).Nodup
 rg:∀ q∈pts,0≤q.1∧q.1 < p∧0≤q.2∧q.2 < p
end My
end
section
set_option maxHeartbeats 4000000
namespace My
open PySem L2 PyProof.Rows
section
variable {K:PySem.W.Frag}
theorem zjR {ns:List Int} {k:Int} (h0:0≤k) (h1:k < ns.length):∃ c:Int,ns[k.toNat]? = some c∧atI (ns.map V.int) k=some (.int c):=by
 have hlt:k.toNat < ns.length:=by omega
 have e:atI (ns.map V.int) ((k.toNat:Nat):Int)=some (.int ns[k.toNat]):=zM (by simp [List.getElem?_map,List.getElem?_eq_getElem hlt])
 have hk:((k.toNat:Nat):Int)=k:=by omega
 rw [hk] at e
 exact⟨ns[k.toNat],by simp,e⟩
theorem zd5 {ns:List Int} {k:Int} (h0:0≤k) (h1:k < ns.length):∃ c:Int,atI (ns.map V.int) k=some (.int c):=let ⟨c,_,e⟩:=zjR h0 h1; ⟨c,e⟩
theorem zb {H:Hp} {a:Addr} {o:HO} (h:H a=none):zw H (upd H a o):=fun b u e=>by rw [zl (zq e h)]; exact e
theorem zW {H H':Hp} {a:Addr} {o:HO} (s:zw H H') (h:H a=none):zw H (upd H' a o):=fun b u e=>by rw [zl (zq e h)]; exact s b u e
theorem zae {n:Nat} (h:n≤10000):n < sizeLine:=by rw [sizeLine_eq]; omega
def ziC (K:PySem.W.Frag):Sp:=fun vs H Q _=>∃ (a:Addr) (ns:List Int) (k:Int),vs = [.ref a,.int k]∧SqL K H a (ns.map V.int)∧ns.length≤63∧0≤k∧k≤1000∧∀ c:Int,Q (.int c) H
def zfG (many:Nat) (base:Int) (ds:List Int):Prop:=ds.length=many∧∀ d∈ds,0≤d∧d < base
def zhk (K:PySem.W.Frag):Sp:=fun vs H Q _=>∃ (a:Addr) (ns:List Int) (k many base:Int),vs = [.ref a,.int k,.int many,.int base]∧SqL K H a (ns.map V.int)∧ns.length≤63∧0≤k∧k≤1000∧0≤many∧many≤1000∧0 < base∧base < 1073741824 ∧
 ∀ (l:Addr) (ds:List Int) (H':Hp),H l=none→zw H H'→zfG many.toNat base ds→H' l=some (.lst (ds.map V.int))→Q (.ref l) H'
abbrev zlg:List V:=[.int 2147483647,.int 2147483629,.int 2147483587,.int 2147483579,.int 2147483563,.int 2147483549,.int 2147483543,.int 2147483497]
theorem zlh {m:Int} (h0:0≤m) (h1:m < 8):∃ q:Int,atI zlg m=some (.int q)∧0 < q∧q < 2147483648:=by
 have:m=0∨m=1∨m=2∨m=3∨m=4∨m=5∨m=6∨m=7:=by omega
 rcases this with e | e | e | e | e | e | e | e <;> subst e <;> exact⟨_,rfl,by decide,by decide⟩
theorem zeq (j:Int):∃ q:Int,atI zlg (j % 8)=some (.int q)∧0 < q∧q < 2147483648:=zlh (Int.emod_nonneg _ (by decide)) (Int.emod_lt_of_pos _ (by decide))
theorem gY {i:Nat} {x:V} {σ:L2.St} {H:Hp} {A B:L2.St→Hp→Prop} (h:A (σ.set i (some x)) H):za1 i x σ H (fun σ2 H2=>zle σ2 H2 fun b H3=>if b=true then A σ2 H3 else B σ2 H3):=by
 show (if true=true then A (σ.set i (some x)) H else B (σ.set i (some x)) H)
 rw [if_pos rfl]
 exact h
structure CodeOk (mk mn p k:Int) (pl:List Int):Prop where
 pr:p∈zJ
 k1:1≤k
 kk:k≤mk
 kl:k≤pl.length
 ln:(pl.length:Int)≤mn
 nd:pl.Nodup
 rg:∀ x∈pl,0≤x∧x < p
def ziD (K:PySem.W.Frag):Sp:=fun vs H Q _=>∃ (a:Addr) (ns:List Int) (at' mk mn:Int),vs = [.ref a,.int at',.int mk,.int mn]∧SqL K H a (ns.map V.int)∧ns.length≤63∧0≤at'∧at'≤1000∧1≤mk∧mk≤5∧mk≤mn∧mn≤16 ∧
 ∀ (c tt:Addr) (p k:Int) (pl:List Int) (H':Hp),H c=none→zw H H'→CodeOk mk mn p k pl→H' c=some (.tup [.int p,.int k,.ref tt])→H' tt=some (.tup (pl.map V.int))→Q (.ref c) H'
theorem zmN {x y m:Int} (h0:0≤m) (h1:m < 2):∃ z:Int,atI [V.int x,V.int y] m=some (.int z)∧(z=x∨z=y):=by
 have:m=0∨m=1:=by omega
 rcases this with e | e <;> subst e
 ·exact⟨x,rfl,.inl rfl⟩
 ·exact⟨y,rfl,.inr rfl⟩
theorem zjS {ns:List Int} {k:Int} (h0:0≤k) (h1:k < ns.length):∃ c:Int,c∈ns∧atI (ns.map V.int) k=some (.int c):=by
 obtain⟨c,e,h⟩:=zjR h0 h1
 exact⟨c,List.mem_of_getElem? e,h⟩
theorem zfi {α β:Type} (f:α→β):∀ (l:List α) (k:Nat),(l.map f).eraseIdx k=(l.eraseIdx k).map f
 | [],_=>rfl
 | _ :: _,0=>rfl
 | a :: l,k+1=>by show f a :: (l.map f).eraseIdx k=f a :: (l.eraseIdx k).map f; rw [zfi f l k]
theorem zer {α:Type}:∀ {l:List α} {k:Nat} {x:α},l[k]? = some x→(x :: l.eraseIdx k).Perm l
 | [],_,_,h=>by simp at h
 | a :: l,0,x,h=>by
  have e:a=x:=by simpa using h
  subst e
  exact List.Perm.refl _
 | a :: l,k+1,x,h=>by
  have ih:=zer (l:=l) (k:=k) (x:=x) (by simpa using h)
  exact (List.Perm.swap a x _).trans (ih.cons a)
theorem zli {p:Int} {xs ls:List Int} {k:Nat} {x:Int} (h:ls[k]? = some x) (nd:(xs++ls).Nodup) (rg:∀ y∈xs++ls,0≤y∧y < p):((xs++[x])++ls.eraseIdx k).Nodup∧∀ y∈(xs++[x])++ls.eraseIdx k,0≤y∧y < p:=by
 have hp:((xs++[x])++ls.eraseIdx k).Perm (xs++ls):=by
  rw [List.append_assoc]
  exact (zer h).append_left xs
 exact⟨hp.nodup_iff.mpr nd,fun y hy=>rg y (hp.mem_iff.mp hy)⟩
theorem ziE (p:Int):(zbG 0 p.toNat).Nodup∧∀ y∈zbG 0 p.toNat,0≤y∧y < p:=by
 unfold zbG
 constructor
 ·rw [List.nodup_iff_pairwise_ne,List.pairwise_map]
  exact (List.nodup_iff_pairwise_ne.mp (List.nodup_range (n:=p.toNat))).imp fun {a b} hab=>by omega
 ·intro y hy
  obtain⟨i,hi,e⟩:=List.mem_map.mp hy
  have:=List.mem_range.mp hi
  omega
def zgq (K:PySem.W.Frag):Sp:=fun vs H Q _=>∃ (p x:Int) (a:Addr) (cs:List Int),vs = [.int p,.ref a,.int x]∧(SqL K H a (cs.map V.int)∨SqT K H a (cs.map V.int))∧0 < p∧p≤97∧0≤x∧x < p∧Q (.int (zc8 p x cs)) H
def zhl (K:PySem.W.Frag):Sp:=zgq K
theorem zao {cs:List Int} {j:Nat} {x:V} (h:(cs.map V.int)[j]? = some x):∃ c,x = .int c∧cs[j]? = some c:=by
 rw [List.getElem?_map] at h
 cases e:cs[j]? with
 | none=>rw [e] at h; cases h
 | some c=>rw [e] at h; exact⟨c,(Option.some.inj h).symm,rfl⟩
def zhm (K:PySem.W.Frag):Sp:=fun vs H Q _=>∃ i:Int,vs = [.int i]∧Q (.bl true) H
theorem zh7 {p x total power c:Int} {cs:List Int} {i:Nat} (h:cs[i]? = some c):lv p x total power (cs.drop i)=lv p x ((total+c*power) % p) (power*x % p) (cs.drop (i+1)):=by
 obtain⟨hlt,e⟩:=List.getElem?_eq_some_iff.mp h
 rw [List.drop_eq_getElem_cons hlt,e]
 rfl
def zhn (K:PySem.W.Frag):Sp:=fun vs H Q _=>∃ (p h:Int),vs = [.int p,.int h]∧p∈zJ∧0≤h∧h < p∧Q (.int (inv p h)) H
def zmO (σ:L2.St):Nat:=match (σ[4]?:Option (Option V)) with
 | some (some (V.int l))=>l.toNat
 | _=>0
theorem zfH {p prod sq left:Int} {n:Nat} (h0:0 < left) (h1:left < 2 ^ (n+1)):zcB p (n+1) prod sq left=zcB p n (if left % 2=1 then prod*sq % p else prod) (sq*sq % p) (left / 2):=by
 show (if 0 < left then _ else _)=_
 rw [if_pos h0]
theorem zgr {p prod sq:Int}:∀ n,zcB p n prod sq 0=prod
 | 0=>rfl
 | n+1=>by show (if (0:Int) < 0 then _ else prod)=prod; rw [if_neg (by decide)]
theorem gY2 {K:PySem.W.Frag} {i j:Nat} {T:Addr} {x y:V} {σ:L2.St} {H:Hp} {A B:L2.St→Hp→Prop} (hT:SqT K H T [x,y]) (h:A ((σ.set i (some x)).set j (some y)) H) :
  zir K 2 (zdD (za1 i) (zdD (za1 j) zjr)) (.ref T) σ H (fun σ2 H2=>zle σ2 H2 fun b H3=>if b=true then A σ2 H3 else B σ2 H3):=by
 refine⟨T,_,rfl,hT,rfl,x,_,rfl,y,_,rfl,rfl,?_⟩
 show (if true=true then A ((σ.set i (some x)).set j (some y)) H else B ((σ.set i (some x)).set j (some y)) H)
 rw [if_pos rfl]
 exact h
theorem zgs {f:Int→Int→Int} {as bs:List Int} {i:Nat} {x y:Int} (hx:as[i]? = some x) (hy:bs[i]? = some y):(List.zipWith f as bs).take (i+1)=(List.zipWith f as bs).take i++[f x y]:=by
 have e:(List.zipWith f as bs)[i]? = some (f x y):=by rw [List.getElem?_zipWith,hx,hy]
 rw [List.take_add_one,e,Option.toList]
theorem zjT (n:Nat):(List.replicate n [V.int 0]).flatten=(List.replicate n (0:Int)).map V.int:=by
 induction n with
 | zero=>rfl
 | succ n ih=>rw [List.replicate_succ,List.flatten_cons,ih,List.replicate_succ]; rfl
theorem zd6 {n j:Nat} (h:j < n):ixN n (j:Int)=some j:=by
 unfold ixN
 rw [if_pos (by omega),if_pos (by omega)]
 rfl
theorem zU {bs:List Addr} {i:Nat} {x:V} (h:(bs.map V.ref)[i]? = some x):∃ b,x = .ref b∧bs[i]? = some b:=by
 rw [List.getElem?_map] at h
 cases e:bs[i]? with
 | none=>rw [e] at h; cases h
 | some b=>rw [e] at h; exact⟨b,(Option.some.inj h).symm,rfl⟩
theorem take_snoc {α:Type} {l:List α} {i:Nat} {x:α} (h:l[i]? = some x):l.take (i+1)=l.take i++[x]:=by
 rw [List.take_add_one,h,Option.toList]
theorem zjU {f:Int→Int→Int} {as bs:List Int} {n:Nat} (h1:n≤as.length) (h2:n≤bs.length) (h3:as.length≤n∨bs.length≤n):(List.zipWith f as bs).length=n:=by
 rw [List.length_zipWith]
 omega
theorem zdw {a b:Addr} {as bs:List Int} {n:Nat} {f:Int→Int→Int} {g:TG} {ts:TT} {te:TE} {σ0:L2.St} {Q:VK} {H:Hp} (ha:H a=some (.lst (as.map V.int))) (hb:H b=some (.lst (bs.map V.int))) (h1:n≤as.length) (h2:n≤bs.length) (h3:as.length≤n∨bs.length≤n) (hn:n≤10000)
  (hs:∀ (i:Nat) (x y:Int) (H1:Hp) (T:Addr) (R:VK) (B:L2.St→Hp→Prop),as[i]? = some x→bs[i]? = some y→zw H H1→H1 T=none→R (.int (f x y)) (upd H1 T (.tup [.int x,.int y]))→g (.ref T) σ0 (upd H1 T (.tup [.int x,.int y])) fun σ2 H2=>ts σ2 H2 fun b H3=>if b=true then te σ2 H3 R else B σ2 H3)
  (hd:∀ D H1,zw H H1→H1 D=none→Q (.ref D) (upd H1 D (.lst ((List.zipWith f as bs).map V.int)))):cGo g ts te σ0 (ziy (SqL K) (SqL K) a b) Q H:=by
 have hl:=zjU (f:=f) h1 h2 h3
 refine zI (n:=n) (fun i ys H'=>ys=((List.zipWith f as bs).take i).map V.int∧zw H H') ⟨by simp,fun _ _ e=>e⟩ ?_ ?_ ?_ ?_
 ·rintro i ys H3 hi ⟨_,s3⟩
  obtain⟨x,hx⟩:∃ x,as[i]? = some x:=⟨as[i]'(by omega),by simp⟩
  obtain⟨y,hy⟩:∃ y,bs[i]? = some y:=⟨bs[i]'(by omega),by simp⟩
  exact⟨_,_,.int x,.int y,SqL.of (s3 _ _ ha),SqL.of (s3 _ _ hb),by rw [List.getElem?_map,hx]; rfl,by rw [List.getElem?_map,hy]; rfl⟩
 ·rintro ys H3 ⟨_,s3⟩
  exact⟨_,_,SqL.of (s3 _ _ ha),SqL.of (s3 _ _ hb),by rw [List.length_map,List.length_map]; exact h3⟩
 ·rintro i x ys H3 H4 hi ⟨rfl,s3⟩ ⟨T,u,v,hT,rfl,rfl,hu,hv⟩
  obtain⟨x,rfl,hx⟩:=zao (hu _ (SqL.of (s3 _ _ ha)))
  obtain⟨y,rfl,hy⟩:=zao (hv _ (SqL.of (s3 _ _ hb)))
  refine hs i x y H3 T _ _ hx hy s3 hT ⟨zae ?_,?_,s3.trans (zb hT)⟩
  ·rw [List.length_map]
   exact Nat.le_trans (List.length_take_le _ _) (by omega)
  ·rw [zgs hx hy,List.map_append]
   rfl
 ·rintro ys H3 D ⟨rfl,s3⟩ hD
  rw [List.take_of_length_le (by omega)]
  exact hd D H3 s3 hD
theorem zaC {a:Addr} {xs fs:List V} {g:TG} {ts:TT} {te:TE} {σ0:L2.St} {Q:VK} {H:Hp} (ha:SqL K H a xs) (hl:fs.length=xs.length) (hn:xs.length≤10000)
  (hs:∀ (i:Nat) (x y:V) (R:VK) (B:L2.St→Hp→Prop),xs[i]? = some x→fs[i]? = some y→R y H→g x σ0 H fun σ2 H2=>ts σ2 H2 fun b H3=>if b=true then te σ2 H3 R else B σ2 H3)
  (hd:∀ D,H D=none→Q (.ref D) (upd H D (.lst fs))):cGo g ts te σ0 (Itl K a) Q H:=by
 refine zI (n:=xs.length) (fun i ys H'=>ys=fs.take i∧H'=H) ⟨by simp,rfl⟩ ?_ ?_ ?_ ?_
 ·rintro i ys H3 hi ⟨_,rfl⟩
  exact⟨_,xs[i],ha,by simp⟩
 ·rintro ys H3 ⟨_,rfl⟩
  exact⟨_,ha,Nat.le_refl _⟩
 ·rintro i x ys H3 H4 hi ⟨rfl,rfl⟩ ⟨rfl,hx⟩
  have hy:fs[i]? = some fs[i]:=by simp
  refine hs i x fs[i] _ _ (hx _ ha) hy ⟨zae (Nat.le_trans (List.length_take_le _ _) (by omega)),?_,rfl⟩
  rw [take_snoc hy]
 ·rintro ys H3 D ⟨rfl,rfl⟩ hD
  rw [List.take_of_length_le (by omega)]
  exact hd D hD
theorem zdx {a:Addr} {xs fs:List V} {g:TG} {ts:TT} {te:TE} {σ0:L2.St} {Q:VK} {H:Hp} (ha:SqT K H a xs) (hl:fs.length=xs.length) (hn:xs.length≤10000)
  (hs:∀ (i:Nat) (x y:V) (R:VK) (B:L2.St→Hp→Prop),xs[i]? = some x→fs[i]? = some y→R y H→g x σ0 H fun σ2 H2=>ts σ2 H2 fun b H3=>if b=true then te σ2 H3 R else B σ2 H3)
  (hd:∀ D,H D=none→Q (.ref D) (upd H D (.lst fs))):cGo g ts te σ0 (Itt K a) Q H:=by
 refine zI (n:=xs.length) (fun i ys H'=>ys=fs.take i∧H'=H) ⟨by simp,rfl⟩ ?_ ?_ ?_ ?_
 ·rintro i ys H3 hi ⟨_,rfl⟩
  exact⟨_,xs[i],ha,by simp⟩
 ·rintro ys H3 ⟨_,rfl⟩
  exact⟨_,ha,Nat.le_refl _⟩
 ·rintro i x ys H3 H4 hi ⟨rfl,rfl⟩ ⟨rfl,hx⟩
  have hy:fs[i]? = some fs[i]:=by simp
  refine hs i x fs[i] _ _ (hx _ ha) hy ⟨zae (Nat.le_trans (List.length_take_le _ _) (by omega)),?_,rfl⟩
  rw [take_snoc hy]
 ·rintro ys H3 D ⟨rfl,rfl⟩ hD
  rw [List.take_of_length_le (by omega)]
  exact hd D hD
theorem zgt (ds:List Int) (lo hi:Option Int):∃ ms:List Int,zcS (ds.map V.int) lo hi=ms.map V.int∧ms.length≤ds.length:=by
 refine⟨(ds.drop (HT.sIx (ds.map V.int).length 0 lo)).take (HT.sIx (ds.map V.int).length (ds.map V.int).length hi - HT.sIx (ds.map V.int).length 0 lo),?_,?_⟩
 ·unfold zcS; rw [List.map_take,List.map_drop]
 ·rw [List.length_take,List.length_drop]
  omega
theorem zgu {ms:List Int} {f:Int→V} {i:Nat} {x y:V} (hx:(ms.map V.int)[i]? = some x) (hy:(ms.map f)[i]? = some y):∃ c,ms[i]? = some c∧x = .int c∧y=f c:=by
 obtain⟨c,rfl,hc⟩:=zao hx
 rw [List.getElem?_map,hc] at hy
 exact⟨c,hc,rfl,(Option.some.inj hy).symm⟩
def zfI (K:PySem.W.Frag):Sp:=fun vs H Q _=>∃ (a:Addr) (ns:List Int),vs = [.ref a]∧SqL K H a (ns.map V.int)∧ns.length≤63∧∀ H',Q (.bl true) H'
end
end My
end
section
set_option maxHeartbeats 4000000
namespace PySem
abbrev IsZ (h:Heap) (z TI TO:Addr) (f0 f1:Value):Prop:=h.get? z=some { cls:=.type "zip",dict:=none,data:=.fields #[f0,f1,.bool false,.ref TI,.ref TO],slots:=#[] }
def ZF (f0 f1:Value):Prop:=(f0 = .none∨∃ a t,f0 = .int a t)∧∃ b,f1 = .bool b
structure Zap (z TI TO i1 i2:Addr) (fp1 fp2:List Addr):Prop where
 zTI:TI≠z
 zTO:TO≠z
 z1:i1≠z
 z2:i2≠z
 TT:TI≠TO
 T1:TI≠i1
 T2:TI≠i2
 O1:TO≠i1
 O2:TO≠i2
 ii:i1≠i2
 a1:z∉fp1
 a2:TO∉fp1
 a3:i2∉fp1
 b1:z∉fp2
 b2:TO∉fp2
 b3:i1∉fp2
section
variable {prog:Program} {w:World} {A:Around} {E:Value→Shared→Prop} {s:Shared}
theorem ziF {a:Addr} {Q:Option Obj→Shared→Prop} (h:Q (s.heap.get? a) s):wpAny (model prog w) A (loadIfAlive a) Q E s:=fun _ _ _=>h
theorem zjV {z TI TO:Addr} {f0 f1:Value} {Q:Bool→Shared→Prop} (hz:IsZ s.heap z TI TO f0 f1) (hf:ZF f0 f1) (h1:Q true s)
  (h2:∀ h',IsZ h' z TI TO f0 (.bool true)→Heap.SameBut z s.heap h'→Q false { s with heap:=h' }):wpAny (model prog w) A (Builtin.SmallTypes.ownedTupleIsFree (.ref z)) Q E s:=by
 obtain⟨hf,b,rfl⟩:=hf
 unfold Builtin.SmallTypes.ownedTupleIsFree; rcases hf with rfl | ⟨a,t,rfl⟩
 ·exact wpAny_bind (wpAny_field hz rfl (x:=.none) rfl (wpAny_pure h1))
 ·refine wpAny_bind (wpAny_field hz rfl (x:=.int a t) rfl ?_)
  refine wpAny_bind (ziF ?_)
  cases s.heap.get? a.toNat with
  | none=>exact wpAny_pure h1
  | some o =>
   refine wpAny_bind (wpAny_field hz rfl (x:=.bool b) rfl ?_)
   cases b with
   | true=>exact wpAny_pure (h2 s.heap hz ⟨rfl,fun _ _=>rfl⟩)
   | false=>exact wpAny_bind (wpAny_setField_rec hz (by simp) fun h' a' b'=>wpAny_pure (h2 h' a' b'))
theorem zlj {z TI TO i1 i2:Addr} {fp1 fp2:List Addr} {n1 n2 k1 k2:Nat} {P1 P2:Nat→Value→Prop} {S1 S2:Nat→Heap→Prop} {f0 f1 a b:Value} {Q:Value→Shared→Prop} (D1:Draws prog w A i1 fp1 n1 P1 S1) (D2:Draws prog w A i2 fp2 n2 P2 S2) (Z:Zap z TI TO i1 i2 fp1 fp2)
  (hz:IsZ s.heap z TI TO f0 f1) (hf:ZF f0 f1) (hTI:IsPair s.heap TI (.ref i1) (.ref i2)) (hTO:IsPair s.heap TO a b) (st1:S1 k1 s.heap) (st2:S2 k2 s.heap) (l1:k1 < n1) (l2:k2 < n2)
  (hQ:∀ x y h' tk g0 g1 a' b',P1 k1 x→P2 k2 y→IsZ h' z TI TO g0 g1→ZF g0 g1→IsPair h' TI (.ref i1) (.ref i2)→IsPair h' TO a' b'→S1 (k1+1) h'→S2 (k2+1) h'→IsPair h' s.heap.objs.size x y→h'.objs.size=s.heap.objs.size+1 →
   (∀ c o,c≠z→c≠TO→c≠i1→c≠i2→s.heap.get? c=some o→h'.get? c=some o)→Q (.ref s.heap.objs.size) { s with heap:=h',toks:=tk }):wpAny (model prog w) A (Builtin.«zip.__next__» ⟨[.ref z],[]⟩) (fun fin s'=>∃ v,fin = .done (.ret v)∧Q v s') E s:=by
 obtain⟨hp,g,d,tk0,os⟩:=s
 show wpAny _ _ (field (.ref z) 2 >>= _) _ _ _; refine wpAny_bind (wpAny_field hz rfl (x:=.bool false) rfl ?_); show wpAny _ _ (field (.ref z) 3 >>= _) _ _ _
 refine wpAny_bind (wpAny_field hz rfl (x:=.ref TI) rfl ?_); refine wpAny_bind (wpAny_seqItems hTI rfl ?_)
 show wpAny _ _ (Builtin.SmallTypes.ownedTupleIsFree (.ref z) >>= _) _ _ _; refine wpAny_bind (zjV hz hf ?_ fun h0 hz0 hs0=>?_)
 ·simp only [if_true]
  refine wpAny_bind (wpAny_rule (wpAny_bind (wpAny_field hz rfl (x:=.ref TO) rfl ?_)))
  refine wpAny_bind (wpAny_setField_rec hz (by simp) fun ha hza hsa=>?_)
  replace hza:IsZ ha z TI TO .ellipsis f1:=hza
  replace hsa:Heap.SameBut z hp ha:=hsa
  refine wpAny_bind ?_
  simp only [List.zipIdx_cons,List.zipIdx_nil,List.forIn_cons,List.forIn_nil]; refine wpAny_bind (wpAny_bind (wpAny_onRaise ?_)); show wpAny _ _ (Builtin.SmallTypes.nextOf (.ref i1) >>= _) _ _ _
  refine wpAny_bind (D1.item k1 _ _ _ l1 (D1.frame _ _ _ st1 fun c hc o e=>hsa.extBut c o (fun q=>Z.a1 (q ▸ hc)) e) fun x hb tkb px stb hsb=>wpAny_pure ?_)
  replace hsb:Heap.SameBut i1 ha hb:=hsb
  have hTOb:IsPair hb TO a b:=hsb.extBut _ _ Z.O1 (hsa.extBut _ _ Z.zTO hTO)
  refine wpAny_bind (wpAny_seqItems hTOb rfl (wpAny_bind (wpAny_updateSeq_pair hTOb fun hc hTOc hsc=>?_)))
  replace hTOc:IsPair hc TO x b:=hTOc
  replace hsc:Heap.SameBut TO hb hc:=hsc
  refine wpAny_bind (wpAny_letGo (wpAny_pure (wpAny_bind (wpAny_bind (wpAny_onRaise ?_))))); show wpAny _ _ (Builtin.SmallTypes.nextOf (.ref i2) >>= _) _ _ _
  refine wpAny_bind (D2.item k2 _ _ _ l2 (D2.frame _ _ _ st2 fun c hcf o e=>hsc.extBut c o (fun q=>Z.b2 (q ▸ hcf)) (hsb.extBut c o (fun q=>Z.b3 (q ▸ hcf)) (hsa.extBut c o (fun q=>Z.b1 (q ▸ hcf)) e))) fun y hd tkd py std hsd=>wpAny_pure ?_)
  replace hsd:Heap.SameBut i2 hc hd:=hsd
  have hTOd:IsPair hd TO x b:=hsd.extBut _ _ Z.O2 hTOc
  refine wpAny_bind (wpAny_seqItems hTOd rfl (wpAny_bind (wpAny_updateSeq_pair hTOd fun he hTOe hse=>?_)))
  replace hTOe:IsPair he TO x y:=hTOe
  replace hse:Heap.SameBut TO hd he:=hse
  refine wpAny_bind (wpAny_letGo (wpAny_pure (wpAny_pure ?_))); refine wpAny_bind (wpAny_seqItems hTOe rfl (wpAny_bind (wpAny_newTuple ?_)))
  have hsz:he.objs.size=hp.objs.size:=by rw [hse.1,hsd.1,hsc.1,hsb.1,hsa.1]
  have hze:IsZ he z TI TO .ellipsis f1:=hse.extBut _ _ Z.zTO.symm (hsd.extBut _ _ Z.z2.symm (hsc.extBut _ _ Z.zTO.symm (hsb.extBut _ _ Z.z1.symm hza)))
  have kk:∀ c o,c≠z→c≠TO→c≠i1→c≠i2→hp.get? c=some o→he.get? c=some o:=fun c o c1 c2 c3 c4 e=>hse.extBut _ _ c2 (hsd.extBut _ _ c4 (hsc.extBut _ _ c2 (hsb.extBut _ _ c3 (hsa.extBut _ _ c1 e))))
  have st1e:S1 (k1+1) he:=D1.frame _ _ _ stb fun c hcf o e=>hse.extBut c o (fun q=>Z.a2 (q ▸ hcf)) (hsd.extBut c o (fun q=>Z.a3 (q ▸ hcf)) (hsc.extBut c o (fun q=>Z.a2 (q ▸ hcf)) e))
  have st2e:S2 (k2+1) he:=D2.frame _ _ _ std fun c hcf o e=>hse.extBut c o (fun q=>Z.b2 (q ▸ hcf)) e
  have zlt:z < he.objs.size:=Heap.lt_size hze
  show wpAny _ _ (Builtin.SmallTypes.ownedTupleHandOut (.ref z) (.ref he.objs.size) >>= _) _ _ _
  refine wpAny_bind ?_
  unfold Builtin.SmallTypes.ownedTupleHandOut; have hzf:IsZ (he.push { cls:=.type "tuple",data:=.seq #[x,y] }) z TI TO .ellipsis f1:=Heap.get?_push_of_some _ hze
  refine wpAny_bind (wpAny_setField_rec hzf (by simp) fun h7 hz7 hs7=>?_)
  replace hz7:IsZ h7 z TI TO (rawInt he.objs.size) f1:=hz7
  refine wpAny_setField_rec hz7 (by simp) fun h8 hz8 hs8=>wpAny_pure ⟨_,rfl,?_⟩
  replace hz8:IsZ h8 z TI TO (rawInt he.objs.size) (.bool false):=hz8
  have up:∀ c o,c≠z→he.get? c=some o→h8.get? c=some o:=fun c o c1 e=>hs8.extBut _ _ c1 (hs7.extBut _ _ c1 (Heap.get?_push_of_some _ e))
  have hT8:IsPair h8 he.objs.size x y:=hs8.extBut _ _ (Nat.ne_of_gt zlt) (hs7.extBut _ _ (Nat.ne_of_gt zlt) (Heap.get?_push_size _ rfl))
  have hs8':h8.objs.size=he.objs.size+1:=by rw [hs8.1,hs7.1,Heap.size_push]
  show Q (.ref he.objs.size) _
  rw [hsz] at hz8 hT8 hs8' ⊢
  exact hQ x y h8 tkd _ _ _ _ px py hz8 ⟨.inr ⟨_,_,rfl⟩,_,rfl⟩ (up _ _ Z.zTI (kk _ _ Z.zTI Z.TT Z.T1 Z.T2 hTI)) (up _ _ Z.zTO hTOe) (D1.frame _ _ _ st1e fun c hcf o e=>up c o (fun q=>Z.a1 (q ▸ hcf)) e) (D2.frame _ _ _ st2e fun c hcf o e=>up c o (fun q=>Z.b1 (q ▸ hcf)) e) hT8 hs8' fun c o c1 c2 c3 c4 e=>up c o c1 (kk c o c1 c2 c3 c4 e)
 ·simp only [Bool.false_eq_true,if_false]; replace hs0:Heap.SameBut z hp h0:=hs0
  rw [show (#[Value.ref i1,Value.ref i2]:Array Value) = [Value.ref i1,Value.ref i2].toArray from rfl]
  simp only [List.forIn_toArray,List.forIn_cons,List.forIn_nil]
  refine wpAny_bind (wpAny_bind (wpAny_bind (wpAny_holding ?_))); show wpAny _ _ (Builtin.SmallTypes.nextOf (.ref i1) >>= _) _ _ _
  refine wpAny_bind (D1.item k1 _ _ _ l1 (D1.frame _ _ _ st1 fun c hc o e=>hs0.extBut c o (fun q=>Z.a1 (q ▸ hc)) e) fun x hb tkb px stb hsb=>wpAny_pure (wpAny_pure ?_))
  replace hsb:Heap.SameBut i1 h0 hb:=hsb
  refine wpAny_bind (wpAny_bind (wpAny_holding ?_)); show wpAny _ _ (Builtin.SmallTypes.nextOf (.ref i2) >>= _) _ _ _
  refine wpAny_bind (D2.item k2 _ _ _ l2 (D2.frame _ _ _ st2 fun c hcf o e=>hsb.extBut c o (fun q=>Z.b3 (q ▸ hcf)) (hs0.extBut c o (fun q=>Z.b1 (q ▸ hcf)) e)) fun y hd tkd py std hsd=>wpAny_pure (wpAny_pure (wpAny_pure ?_)))
  replace hsd:Heap.SameBut i2 hb hd:=hsd
  show wpAny _ _ (newTuple [x,y] >>= _) _ _ _
  refine wpAny_bind (wpAny_newTuple (wpAny_pure ⟨_,rfl,?_⟩))
  have hsz:hd.objs.size=hp.objs.size:=by rw [hsd.1,hsb.1,hs0.1]
  have kk:∀ c o,c≠z→c≠TO→c≠i1→c≠i2→hp.get? c=some o→hd.get? c=some o:=fun c o c1 c2 c3 c4 e=>hsd.extBut _ _ c4 (hsb.extBut _ _ c3 (hs0.extBut _ _ c1 e))
  have hzd:IsZ hd z TI TO f0 (.bool true):=hsd.extBut _ _ Z.z2.symm (hsb.extBut _ _ Z.z1.symm hz0)
  have hTOd:IsPair hd TO a b:=hsd.extBut _ _ Z.O2 (hsb.extBut _ _ Z.O1 (hs0.extBut _ _ Z.zTO hTO))
  have st1d:S1 (k1+1) hd:=D1.frame _ _ _ stb fun c hcf o e=>hsd.extBut c o (fun q=>Z.a3 (q ▸ hcf)) e
  have up:∀ c o,hd.get? c=some o→(hd.push { cls:=.type "tuple",data:=.seq #[x,y] }).get? c=some o:=fun c o e=>Heap.get?_push_of_some _ e
  have hT8:IsPair (hd.push { cls:=.type "tuple",data:=.seq #[x,y] }) hd.objs.size x y:=Heap.get?_push_size _ rfl
  have hs8':(hd.push { cls:=.type "tuple",data:=.seq #[x,y] }).objs.size=hd.objs.size+1:=Heap.size_push ..
  show Q (.ref hd.objs.size) _
  rw [hsz] at hT8 hs8' ⊢
  exact hQ x y _ tkd _ _ _ _ px py (up _ _ hzd) ⟨hf.1,_,rfl⟩ (up _ _ (kk _ _ Z.zTI Z.TT Z.T1 Z.T2 hTI)) (up _ _ hTOd) (D1.frame _ _ _ st1d fun c _ o e=>up c o e) (D2.frame _ _ _ std fun c _ o e=>up c o e) hT8 hs8' fun c o c1 c2 c3 c4 e=>up c o (kk c o c1 c2 c3 c4 e)
theorem zmP {z TI TO i1 i2:Addr} {fp1 fp2:List Addr} {n1 n2 k1 k2:Nat} {P1 P2:Nat→Value→Prop} {S1 S2:Nat→Heap→Prop} {f0 f1 a b:Value} {Q:Fin→Shared→Prop} (D1:Draws prog w A i1 fp1 n1 P1 S1) (D2:Draws prog w A i2 fp2 n2 P2 S2) (Z:Zap z TI TO i1 i2 fp1 fp2)
  (hz:IsZ s.heap z TI TO f0 f1) (hf:ZF f0 f1) (hTI:IsPair s.heap TI (.ref i1) (.ref i2)) (hTO:IsPair s.heap TO a b) (st1:S1 k1 s.heap) (st2:S2 k2 s.heap) (l1:k1=n1∨(k1 < n1∧k2=n2))
  (hE:∀ h' tk e,(∀ c o,c≠z→c≠TO→c≠i1→c≠i2→s.heap.get? c=some o→h'.get? c=some o)→(∃ o,h'.get? e=some o∧o.cls = .type "StopIteration")→E (.ref e) { s with heap:=h',toks:=tk }):wpAny (model prog w) A (Builtin.«zip.__next__» ⟨[.ref z],[]⟩) Q E s:=by
 obtain⟨hp,g,d,tk0,os⟩:=s
 have nz:∀ {h:Heap} {e:Addr} {o:Obj} {x y:Value},IsZ h z TI TO x y→h.get? e=some o→o.cls = .type "StopIteration"→e≠z:=fun h1 h2 h3 q=>by subst q; rw [h1] at h2; cases h2; simp at h3
 show wpAny _ _ (field (.ref z) 2 >>= _) _ _ _; refine wpAny_bind (wpAny_field hz rfl (x:=.bool false) rfl ?_); show wpAny _ _ (field (.ref z) 3 >>= _) _ _ _
 refine wpAny_bind (wpAny_field hz rfl (x:=.ref TI) rfl ?_); refine wpAny_bind (wpAny_seqItems hTI rfl ?_)
 show wpAny _ _ (Builtin.SmallTypes.ownedTupleIsFree (.ref z) >>= _) _ _ _; refine wpAny_bind (zjV hz hf ?_ fun h0 hz0 hs0=>?_)
 ·simp only [if_true]
  refine wpAny_bind (wpAny_rule (wpAny_bind (wpAny_field hz rfl (x:=.ref TO) rfl ?_)))
  refine wpAny_bind (wpAny_setField_rec hz (by simp) fun ha hza hsa=>?_)
  replace hza:IsZ ha z TI TO .ellipsis f1:=hza
  replace hsa:Heap.SameBut z hp ha:=hsa
  refine wpAny_bind ?_
  simp only [List.zipIdx_cons,List.zipIdx_nil,List.forIn_cons,List.forIn_nil]; refine wpAny_bind (wpAny_bind (wpAny_onRaise ?_)); show wpAny _ _ (Builtin.SmallTypes.nextOf (.ref i1) >>= _) _ _ _
  have st1a:S1 k1 ha:=D1.frame _ _ _ st1 fun c hc o e=>hsa.extBut c o (fun q=>Z.a1 (q ▸ hc)) e
  rcases l1 with rfl | ⟨l1,rfl⟩
  ·refine wpAny_bind (D1.done _ _ _ st1a fun hb e hsb ⟨oe,hoe,hce⟩=>?_)
   have hzb:IsZ hb z TI TO .ellipsis f1:=hsb _ _ Z.z1.symm hza
   exact wpAny_setField_rec hzb (by simp) fun h3 _ hs3=>hE h3 tk0 e (fun c o c1 _ c3 _ x=>hs3.extBut _ _ c1 (hsb _ _ c3 (hsa.extBut _ _ c1 x))) ⟨oe,hs3.extBut _ _ (nz hzb hoe hce) hoe,hce⟩
  ·refine wpAny_bind (D1.item k1 _ _ _ l1 st1a fun x hb tkb px stb hsb=>wpAny_pure ?_)
   replace hsb:Heap.SameBut i1 ha hb:=hsb
   have hTOb:IsPair hb TO a b:=hsb.extBut _ _ Z.O1 (hsa.extBut _ _ Z.zTO hTO)
   refine wpAny_bind (wpAny_seqItems hTOb rfl (wpAny_bind (wpAny_updateSeq_pair hTOb fun hc hTOc hsc=>?_)))
   replace hsc:Heap.SameBut TO hb hc:=hsc
   refine wpAny_bind (wpAny_letGo (wpAny_pure (wpAny_bind (wpAny_bind (wpAny_onRaise ?_))))); show wpAny _ _ (Builtin.SmallTypes.nextOf (.ref i2) >>= _) _ _ _
   refine wpAny_bind (D2.done _ _ _ (D2.frame _ _ _ st2 fun c hcf o e=>hsc.extBut c o (fun q=>Z.b2 (q ▸ hcf)) (hsb.extBut c o (fun q=>Z.b3 (q ▸ hcf)) (hsa.extBut c o (fun q=>Z.b1 (q ▸ hcf)) e))) fun hd e hsd ⟨oe,hoe,hce⟩=>?_)
   have hzd:IsZ hd z TI TO .ellipsis f1:=hsd _ _ Z.z2.symm (hsc.extBut _ _ Z.zTO.symm (hsb.extBut _ _ Z.z1.symm hza))
   exact wpAny_setField_rec hzd (by simp) fun h3 _ hs3=>hE h3 tkb e (fun c o c1 c2 c3 c4 x=>hs3.extBut _ _ c1 (hsd _ _ c4 (hsc.extBut _ _ c2 (hsb.extBut _ _ c3 (hsa.extBut _ _ c1 x))))) ⟨oe,hs3.extBut _ _ (nz hzd hoe hce) hoe,hce⟩
 ·simp only [Bool.false_eq_true,if_false]; replace hs0:Heap.SameBut z hp h0:=hs0
  rw [show (#[Value.ref i1,Value.ref i2]:Array Value) = [Value.ref i1,Value.ref i2].toArray from rfl]
  simp only [List.forIn_toArray,List.forIn_cons,List.forIn_nil]
  refine wpAny_bind (wpAny_bind (wpAny_bind (wpAny_holding ?_))); show wpAny _ _ (Builtin.SmallTypes.nextOf (.ref i1) >>= _) _ _ _
  have st1a:S1 k1 h0:=D1.frame _ _ _ st1 fun c hc o e=>hs0.extBut c o (fun q=>Z.a1 (q ▸ hc)) e
  rcases l1 with rfl | ⟨l1,rfl⟩
  ·exact wpAny_bind (D1.done _ _ _ st1a fun hb e hsb he=>hE hb tk0 e (fun c o c1 _ c3 _ x=>hsb _ _ c3 (hs0.extBut _ _ c1 x)) he)
  ·refine wpAny_bind (D1.item k1 _ _ _ l1 st1a fun x hb tkb px stb hsb=>wpAny_pure (wpAny_pure ?_))
   replace hsb:Heap.SameBut i1 h0 hb:=hsb
   refine wpAny_bind (wpAny_bind (wpAny_holding ?_)); show wpAny _ _ (Builtin.SmallTypes.nextOf (.ref i2) >>= _) _ _ _
   exact wpAny_bind (D2.done _ _ _ (D2.frame _ _ _ st2 fun c hcf o e=>hsb.extBut c o (fun q=>Z.b3 (q ▸ hcf)) (hs0.extBut c o (fun q=>Z.b1 (q ▸ hcf)) e)) fun hd e hsd he=>hE hd tkb e (fun c o c1 _ c3 c4 x=>hsd _ _ c4 (hsb.extBut _ _ c3 (hs0.extBut _ _ c1 x))) he)
end
def zmd (l:Addr):Obj:={ cls:=.type "list_iterator",data:=.fields #[.ref l,.int 0 0] }
def zfJ (x y:Value):Obj:={ cls:=.type "tuple",data:=.seq #[x,y] }
def znG (a b:Addr):Obj:={ cls:=.type "zip",data:=.fields #[.none,.bool false,.bool false,.ref a,.ref b] }
abbrev zt2 (h:Heap) (l1 l2:Addr):Heap:=(h.push (zbr l1)).push (zmd l2)
abbrev zt4 (h:Heap) (l1 l2:Addr):Heap:=((zt2 h l1 l2).push (zfJ (.ref h.objs.size) (.ref (h.push (zbr l1)).objs.size))).push (zfJ .none .none)
abbrev zt5 (h:Heap) (l1 l2:Addr):Heap:=(zt4 h l1 l2).push (znG (zt2 h l1 l2).objs.size ((zt2 h l1 l2).push (zfJ (.ref h.objs.size) (.ref (h.push (zbr l1)).objs.size))).objs.size)
theorem zgv (l1 l2:Addr) (xs ys:Array Value):Meets (Builtin.«zip.__new__» ⟨[.type "zip",.ref l1,.ref l2],[]⟩) (fun _ R s=>s.heap.IsTuple l1 xs∧s.heap.IsList l2 ys∧R (.ok (.ret (.ref (zt4 s.heap l1 l2).objs.size))) { s with heap:=zt5 s.heap l1 l2 }) :=
 .of_wp fun prog w A R s h=>by
  obtain⟨hp,g,d,tk,os⟩:=s; obtain⟨hl1,hl2,h⟩:=h; have hsub:=sub_zip
  have hL1:Heap.IsTuple (Shared.heap ⟨hp,g,d,tk,os⟩) l1 xs:=hl1
  have hL2:Heap.IsList (Shared.heap ⟨hp.push { cls:=.type "tuple_iterator",data:=.fields #[.ref l1,.int 0 0] },g,d,tk,os⟩) l2 ys:=Heap.IsList.push hl2 _
  wp_walk using wpAny_pyIter_tuple hL1,wpAny_pyIter_list hL2
  exact⟨_,rfl,h⟩
section
variable {prog:Program} {w:World} {A:Around} {E:Value→Shared→Prop} {s:Shared}
theorem zho {l1 l2:Addr} {xs ys:Array Value} {Q:Value→Shared→Prop} (hl1:s.heap.IsTuple l1 xs) (hl2:s.heap.IsList l2 ys)
  (h:∀ h' n,n=s.heap.objs.size→IsZ h' (n+4) (n+2) (n+3) .none (.bool false)→IsPair h' (n+2) (.ref n) (.ref (n+1))→IsPair h' (n+3) .none .none→h'.IsTupleIter n l1 0→h'.IsListIter (n+1) l2 0→h'.objs.size=n+5 →
   (∀ c o,s.heap.get? c=some o→h'.get? c=some o)→Q (.ref (n+4)) { s with heap:=h' }):wpAny (model prog w) A (call (.type "zip") [.ref l1,.ref l2]) Q E s:=by
 refine callType_new F.called_zip (by decide) (F.typeCall_zip_2 _ _) (F.newCall_zip_2 _ _) (fun obj=>F.args_object_init_3 obj _ _) F.entry_zip_new (zgv l1 l2 xs ys) ⟨hl1,hl2,?_⟩
 have z1:(s.heap.push (zbr l1)).objs.size=s.heap.objs.size+1:=Heap.size_push ..
 have z2:(zt2 s.heap l1 l2).objs.size=s.heap.objs.size+2:=by rw [Heap.size_push,z1]
 have z3:((zt2 s.heap l1 l2).push (zfJ (.ref s.heap.objs.size) (.ref (s.heap.push (zbr l1)).objs.size))).objs.size=s.heap.objs.size+3:=by rw [Heap.size_push,z2]
 have z4:(zt4 s.heap l1 l2).objs.size=s.heap.objs.size+4:=by rw [Heap.size_push,z3]
 have g5:=Heap.get?_push_size (zt4 s.heap l1 l2) (o:=znG (zt2 s.heap l1 l2).objs.size ((zt2 s.heap l1 l2).push (zfJ (.ref s.heap.objs.size) (.ref (s.heap.push (zbr l1)).objs.size))).objs.size) rfl
 have g4:(zt5 s.heap l1 l2).get? _=some _:=Heap.get?_push_of_some _ (Heap.get?_push_size ((zt2 s.heap l1 l2).push (zfJ (.ref s.heap.objs.size) (.ref (s.heap.push (zbr l1)).objs.size))) (o:=zfJ .none .none) rfl)
 have g3:(zt5 s.heap l1 l2).get? _=some _:=Heap.get?_push_of_some _ (Heap.get?_push_of_some _ (Heap.get?_push_size (zt2 s.heap l1 l2) (o:=zfJ (.ref s.heap.objs.size) (.ref (s.heap.push (zbr l1)).objs.size)) rfl))
 have g2:(zt5 s.heap l1 l2).get? _=some _:=Heap.get?_push_of_some _ (Heap.get?_push_of_some _ (Heap.get?_push_of_some _ (Heap.get?_push_size (s.heap.push (zbr l1)) (o:=zmd l2) rfl)))
 have g1:(zt5 s.heap l1 l2).get? s.heap.objs.size=some (zbr l1):=Heap.get?_push_of_some _ (Heap.get?_push_of_some _ (Heap.get?_push_of_some _ (Heap.get?_push_of_some _ (Heap.get?_push_size _ rfl))))
 have z5:(zt5 s.heap l1 l2).objs.size=s.heap.objs.size+5:=by rw [Heap.size_push,z4]
 have k5:∀ c o,s.heap.get? c=some o→(zt5 s.heap l1 l2).get? c=some o:=fun c o x=>Heap.get?_push_of_some _ (Heap.get?_push_of_some _ (Heap.get?_push_of_some _ (Heap.get?_push_of_some _ (Heap.get?_push_of_some _ x))))
 show _∧_
 rw [z4] at g5 ⊢
 rw [z3] at g4
 rw [z2] at g3
 rw [z1] at g2
 refine⟨⟨_,g5,rfl⟩,h _ _ rfl ?_ ?_ g4 ⟨_,g1,rfl,rfl⟩ ⟨_,g2,rfl,rfl⟩ z5 k5⟩
 ·have:IsZ (zt5 s.heap l1 l2) (s.heap.objs.size+4) (zt2 s.heap l1 l2).objs.size ((zt2 s.heap l1 l2).push (zfJ (.ref s.heap.objs.size) (.ref (s.heap.push (zbr l1)).objs.size))).objs.size .none (.bool false):=g5
  rw [z2,z3] at this
  exact this
 ·have:IsPair (zt5 s.heap l1 l2) (s.heap.objs.size+2) (.ref s.heap.objs.size) (.ref (s.heap.push (zbr l1)).objs.size):=g3
  rw [z1] at this
  exact this
end
end PySem
end
section
set_option maxHeartbeats 4000000
namespace L2
open PySem PySem.Spec PyProof.Rows
theorem nq {x y:Nat} (h:x≠y):@Ne Addr x y:=h
theorem nl {x y:Nat} (h:x < y):@LT.lt Nat _ x y:=h
theorem nm2 {c x y:Nat} (h1:c≠x) (h2:c≠y):¬ @Membership.mem Addr (List Addr) _ [x,y] c:=fun h=>by
 rcases List.mem_cons.mp h with e | e
 ·exact h1 e
 ·exact h2 (List.mem_singleton.mp e)
theorem zd7 {n a b:Nat} (ha:a < n) (hb:b < n):Zap (n+4) (n+2) (n+3) n (n+1) [n,a] [n+1,b] :=
 ⟨nq (by omega),nq (by omega),nq (by omega),nq (by omega),nq (by omega),nq (by omega),nq (by omega),nq (by omega),nq (by omega),nq (by omega),nm2 (by omega) (by omega),nm2 (by omega) (by omega),nm2 (by omega) (by omega),nm2 (by omega) (by omega),nm2 (by omega) (by omega),nm2 (by omega) (by omega)⟩
end L2
end
section
set_option maxHeartbeats 4000000
namespace L2
open PySem PySem.Spec PyProof.Rows
theorem zda:∀ (bs:List Bool),(List.range bs.length).all (fun i=>bs.getD i false)=bs.all id
 | []=>rfl
 | b :: bs=>by
  rw [List.length_cons,List.range_succ_eq_map,List.all_cons,List.all_map,List.all_cons]
  have ih:=zda bs
  have e:((fun i=>(b :: bs).getD i false) ∘ Nat.succ)=fun i=>bs.getD i false:=by funext i; rfl
  rw [e,ih]
  rfl
theorem ziG {X:Cx} (hc:X.calm=true):zbh X (.builtin "all") (fun xs H Q=>∃ (p:Addr) (bs:List Bool),xs = [.ref p]∧SqL X.K H p (bs.map V.bl)∧Q (.bl (bs.all id)) H):=by
 intro pins s σ H xs us Q I r h
 obtain⟨p,bs,rfl,hq,q⟩:=h
 obtain⟨u,rfl,rx⟩:=vals1 r
 cases rx
 obtain⟨its,rv,pl,hz⟩:=I.list hq
 have hl:=rv.length
 rw [List.length_map] at hl
 have hlt:p < s.heap.objs.size:=by obtain⟨_,_,e,_⟩:=pl; exact Heap.lt_size e
 refine call_all_walk (wpAny_pyIter_list pl.isList ?_)
 refine⟨s.heap.objs.size,_,_,its.toArray.size,_,_,fun i=>bs.getD i false,rfl,Walks.list (by simp [I.ok.hd hc]) s.heap.objs.size p (Nat.ne_of_lt hlt) its.toArray,⟨⟨_,Heap.get?_push_size _ rfl,rfl,rfl⟩,pl.isList.push _⟩,fun i v s' Q' E' hP hQ=>?_,fun h' tk kk=>?_⟩
 ·have e1:its[i]? = some v:=by simpa using hP
  obtain⟨hi,_⟩:=List.getElem?_eq_some_iff.mp e1
  have hi':i < bs.length:=by omega
  obtain⟨u,hu,ru⟩:=rv.get (i:=i) (x:=V.bl bs[i]) (by rw [List.getElem?_map,List.getElem?_eq_getElem hi']; rfl)
  rw [e1] at hu
  cases hu
  have ru:v=Value.bool bs[i]:=ru
  subst ru
  have e2:bs.getD i false=bs[i]:=by simp [hi']
  have hQ:Q' (bs.getD i false) s':=hQ
  rw [e2] at hQ
  exact wpAny_truthy_bool hQ
 ·rw [List.size_toArray,← hl,zda]
  exact⟨.bl (bs.all id),H,I.kept fun b o e=>kk b o (fun z=>by
   have z:b=s.heap.objs.size:=by simpa using z
   exact absurd (Heap.lt_size e) (by rw [z]; exact Nat.lt_irrefl _)) (Heap.get?_push_of_some _ e),rfl,q⟩
end L2
end
section
set_option maxHeartbeats 4000000
namespace My
open PySem L2 PyProof.Rows
section
variable {K:PySem.W.Frag}
def zbH (H:Hp) (c tt:Addr) (p k:Int) (pl:List Int):Prop:=H c=some (.tup [.int p,.int k,.ref tt])∧H tt=some (.tup (pl.map V.int))
theorem zbH.same {H H':Hp} {c tt:Addr} {p k:Int} {pl:List Int} (s:zw H H') (h:zbH H c tt p k pl):zbH H' c tt p k pl:=⟨s _ _ h.1,s _ _ h.2⟩
def enc:Option Int→V
 | none=>.non
 | some i=>.int i
theorem zh8 {rw:List (Option Int)} {j:Nat} {x:V} (h:(rw.map enc)[j]? = some x):∃ o,x=enc o∧rw[j]? = some o:=by
 rw [List.getElem?_map] at h
 cases e:rw[j]? with
 | none=>rw [e] at h; cases h
 | some c=>rw [e] at h; exact⟨c,(Option.some.inj h).symm,rfl⟩
end
end My
end
section
set_option maxHeartbeats 4000000
namespace My
open PySem L2 PyProof.Rows
end My
end
section
set_option maxHeartbeats 4000000
namespace PySem
section
variable {prog:Program} {w:World} {A:Around} {E:Value→Shared→Prop} {s:Shared}
theorem zh9 {z TI TO i1 i2:Addr} {fp1 fp2:List Addr} {n1 n2 k1 k2:Nat} {P1 P2:Nat→Value→Prop} {S1 S2:Nat→Heap→Prop} {f0 f1 a b:Value} {Q:Option Value→Shared→Prop} (D1:Draws prog w A.in1 i1 fp1 n1 P1 S1) (D2:Draws prog w A.in1 i2 fp2 n2 P2 S2) (Z:Zap z TI TO i1 i2 fp1 fp2)
  (hz:IsZ s.heap z TI TO f0 f1) (hf:ZF f0 f1) (hTI:IsPair s.heap TI (.ref i1) (.ref i2)) (hTO:IsPair s.heap TO a b) (st1:S1 k1 s.heap) (st2:S2 k2 s.heap) (l1:k1 < n1) (l2:k2 < n2)
  (hQ:∀ x y h' tk g0 g1 a' b',P1 k1 x→P2 k2 y→IsZ h' z TI TO g0 g1→ZF g0 g1→IsPair h' TI (.ref i1) (.ref i2)→IsPair h' TO a' b'→S1 (k1+1) h'→S2 (k2+1) h'→IsPair h' s.heap.objs.size x y→h'.objs.size=s.heap.objs.size+1 →
   (∀ c o,c≠z→c≠TO→c≠i1→c≠i2→s.heap.get? c=some o→h'.get? c=some o)→Q (some (.ref s.heap.objs.size)) { s with heap:=h',toks:=tk }):wpAny (model prog w) A (pyNext (.ref z)) Q E s:=by
 have hTz:s.TypeIs (.ref z) "zip":=⟨_,hz,rfl⟩
 unfold pyNext
 refine wpAny_bind (wpAny_attempt (wpAny_callSpecial?_slot (name:=Str.ofString "__next__") hTz F.slot_zip_next (wpAny_call_entry F.slot_zip_next hTz F.entry_zip_next ?_ (F.args_zip_next_1 _))))
 exact zlj D1 D2 Z hz hf hTI hTO st1 st2 l1 l2 fun x y h1 tk g0 g1 a' b' px py hz1 hf1 hTI1 hTO1 st1' st2' hp1 hsz1 kk=>wpAny_pure (hQ x y h1 tk g0 g1 a' b' px py hz1 hf1 hTI1 hTO1 st1' st2' hp1 hsz1 kk)
theorem zjW {z TI TO i1 i2:Addr} {fp1 fp2:List Addr} {n1 n2 k1 k2:Nat} {P1 P2:Nat→Value→Prop} {S1 S2:Nat→Heap→Prop} {f0 f1 a b:Value} {Q:Option Value→Shared→Prop} (D1:Draws prog w A.in1 i1 fp1 n1 P1 S1) (D2:Draws prog w A.in1 i2 fp2 n2 P2 S2) (Z:Zap z TI TO i1 i2 fp1 fp2)
  (hz:IsZ s.heap z TI TO f0 f1) (hf:ZF f0 f1) (hTI:IsPair s.heap TI (.ref i1) (.ref i2)) (hTO:IsPair s.heap TO a b) (st1:S1 k1 s.heap) (st2:S2 k2 s.heap) (l1:k1=n1∨(k1 < n1∧k2=n2))
  (hQ:∀ h' tk,(∀ c o,c≠z→c≠TO→c≠i1→c≠i2→s.heap.get? c=some o→h'.get? c=some o)→Q none { s with heap:=h',toks:=tk }):wpAny (model prog w) A (pyNext (.ref z)) Q E s:=by
 have hTz:s.TypeIs (.ref z) "zip":=⟨_,hz,rfl⟩
 unfold pyNext
 refine wpAny_bind (wpAny_attempt (wpAny_callSpecial?_slot (name:=Str.ofString "__next__") hTz F.slot_zip_next (wpAny_call_entry F.slot_zip_next hTz F.entry_zip_next ?_ (F.args_zip_next_1 _))))
 refine zmP D1 D2 Z hz hf hTI hTO st1 st2 l1 fun h' tk x kk ⟨o,ho,hc⟩=>?_
 exact wpAny_bind (wpAny_isInstance (T:="StopIteration") (b:=true) ⟨o,ho,hc⟩ isSubtype_stop (wpAny_pure (hQ h' tk kk)))
theorem zfK {z TI TO:Addr} {f0 f1:Value} {Q:Value→Shared→Prop} (hz:IsZ s.heap z TI TO f0 f1) (h:Q (.ref z) s):wpAny (model prog w) A (pyIter (.ref z)) Q E s:=by
 have hT:s.TypeIs (.ref z) "zip":=⟨_,hz,rfl⟩; refine wpAny_pyIter_slot hT F.slot_zip_iter (wpAny_call_entry F.slot_zip_iter hT F.entry_zip_iter ?_ (F.args_zip_iter_1 _))
 show wpAny _ _ (ret (.ref z)) _ _ s; exact wpAny_pure ⟨_,rfl,"zip",_,hT,F.slot_zip_next.lookup,h⟩
theorem znH {elts:List Expr} {x1} {pos:Pos} {z TI TO T:Addr} {f0 f1:Value} {Q:Unit→Shared→Prop} (hz:IsZ s.heap z TI TO f0 f1) (hf:ZF f0 f1)
  (hQ:∀ h' g0,IsZ h' z TI TO g0 f1→ZF g0 f1→Heap.SameBut z s.heap h'→Q () { s with heap:=h' }):wpAny (model prog w) A (letOwnedTupleGo (.Tuple elts x1 pos) (.ref z) (.ref T)) Q E s:=by
 unfold letOwnedTupleGo; refine wpAny_bind (wpAny_load hz ?_)
 show wpAny _ _ (if _ then _ else _) Q E s
 split
 ·refine wpAny_bind (wpAny_rule ?_); show wpAny _ _ (setField (.ref z) 0 .none) Q E s
  exact wpAny_setField_rec hz (by simp) fun h' hz' hs'=>hQ h' .none hz' ⟨.inl rfl,hf.2⟩ hs'
 ·exact wpAny_pure (hQ s.heap f0 hz hf ⟨rfl,fun _ _=>rfl⟩)
end
end PySem
namespace L2
open PySem PySem.Spec PyProof.Rows
def zmQ (Sq1 Sq2:Hp→Addr→List V→Prop) (a b:Addr):It :=
 ⟨(ziy Sq1 Sq2 a b).go,(ziy Sq1 Sq2 a b).yld,fun i H=>∃ xs ys,Sq1 H a xs∧Sq2 H b ys∧(xs.length=i∨(i < xs.length∧ys.length=i))⟩
abbrev zbI (n:Nat):List Addr:=[n+4,n+2,n+3,n,n+1]
abbrev znI (n a b:Nat) (i:Nat) (h:Heap):Prop:=(∃ f0 f1,IsZ h (n+4) (n+2) (n+3) f0 f1∧ZF f0 f1)∧IsPair h (n+2) (.ref n) (.ref (n+1))∧(∃ u v,IsPair h (n+3) u v)∧h.IsTupleIter n a i∧h.IsListIter (n+1) b i
theorem zjX {P:Program} {w:World} {K:PySem.W.Frag} {es:List Expr} {k:Nat} {pos:Pos} (a b n:Nat) (ha:a < n) (hb:b < n):Turn P w K (.Tuple es k pos) (zmQ (SqT K) (SqL K) a b) (zbI n) (n+4) (znI n a b) where
 mem:=by simp
 obj:=fun i h st c hc=>by
  obtain⟨⟨f0,f1,h1,_⟩,h2,⟨u,v,h3⟩,⟨o4,e4,_,d4⟩,⟨o5,e5,_,d5⟩⟩:=st
  simp only [zbI,List.mem_cons,List.not_mem_nil,or_false] at hc
  rcases hc with z | z | z | z | z <;> subst z
  ·exact⟨_,h1,fun v z=>by cases z⟩
  ·exact⟨_,h2,fun v z=>by cases z⟩
  ·exact⟨_,h3,fun v z=>by cases z⟩
  ·exact⟨_,e4,fun v z=>by rw [d4] at z; cases z⟩
  ·exact⟨_,e5,fun v z=>by rw [d5] at z; cases z⟩
 keep:=fun i h h' st kk=>by
  obtain⟨⟨f0,f1,h1,hf⟩,h2,⟨u,v,h3⟩,h4,h5⟩:=st
  exact⟨⟨f0,f1,kk _ (by simp) _ h1,hf⟩,kk _ (by simp) _ h2,⟨u,v,kk _ (by simp) _ h3⟩,h4.at fun o eo=>kk _ (by simp) o eo,h5.at fun o eo=>kk _ (by simp) o eo⟩
 item:=by
  intro X hP hw hK hc i pins s σ H E I hf st hg
  subst hP hw hK
  obtain⟨xs,ys,x,y,hq1,hq2,hx,hy⟩:=hg
  obtain⟨⟨f0,f1,h1,hzf⟩,h2,⟨u0,v0,h3⟩,h4,h5⟩:=st
  obtain⟨its1,rv1,p1,hz1⟩:=I.tuple hq1
  obtain⟨its2,rv2,p2,hz2⟩:=I.list hq2
  obtain⟨u,hu,ru⟩:=rv1.get hx
  obtain⟨v,hv,rv⟩:=rv2.get hy
  have hes:n+4 < s.heap.objs.size:=Heap.lt_size h1
  have hh:X.A.in1.handled=none:=by simp [I.ok.hd hc]
  have hlt1:i < its1.toArray.size:=by have:=(List.getElem?_eq_some_iff.mp hu).1; simpa using this
  have hlt2:i < its2.toArray.size:=by have:=(List.getElem?_eq_some_iff.mp hv).1; simpa using this
  refine zh9 (Draws.tuple hh n a (nq (by omega)) its1.toArray) (Draws.list hh (n+1) b (nq (by omega)) its2.toArray) (zd7 ha hb) h1 hzf h2 h3 ⟨h4,(show s.heap.IsTuple a its1.toArray from p1)⟩ ⟨h5,p2.isList⟩ hlt1 hlt2
   fun x' y' h' tk g0 g1 a' b' px py ez ezf e2 e3 t4 t5 pp hsz kk=>?_
  have eu:x'=u:=by
   have e1:its1[i]? = some x':=by simpa using px
   rw [hu] at e1; exact (Option.some.inj e1).symm
  have ev:y'=v:=by
   have e1:its2[i]? = some y':=by simpa using py
   rw [hv] at e1; exact (Option.some.inj e1).symm
  subst eu ev
  have ch:∀ c∈[n+4,n+3,n,n+1],c∈zbI n:=fun c hc'=>by
   simp only [zbI,List.mem_cons,List.not_mem_nil,or_false] at hc' ⊢
   rcases hc' with z | z | z | z <;> subst z <;> simp
  have k1:∀ c o,c∉[n+4,n+3,n,n+1]→s.heap.get? c=some o→h'.get? c=some o:=fun c o hc' eo=>by
   simp only [List.mem_cons,List.not_mem_nil,or_false,not_or] at hc'
   exact kk c o hc'.1 hc'.2.1 hc'.2.2.1 hc'.2.2.2 eo
  have th1:∀ c∈[n+4,n+3,n,n+1],∃ o,h'.get? c=some o:=fun c hc'=>by
   simp only [List.mem_cons,List.not_mem_nil,or_false] at hc'
   rcases hc' with z | z | z | z <;> subst z
   ·exact⟨_,ez⟩
   ·exact⟨_,e3⟩
   ·obtain⟨o,e,_⟩:=t4.1; exact⟨o,e⟩
   ·obtain⟨o,e,_⟩:=t5.1; exact⟨o,e⟩
  have I1:Inv X pins σ (upd H s.heap.objs.size (.tup [x,y])) { s with heap:=h',toks:=tk } :=
   I.turnedNew k1 (fun c hc'=>hf c (ch c hc')) th1 (Nat.le_refl _) ⟨za2,_,.cons ru (.cons rv .nil),zb7 pp⟩
  refine⟨_,rfl,znH (s:={ s with heap:=h',toks:=tk }) ez ezf fun h'' g2 hz'' hzf'' hs''=>?_⟩
  have fr:∀ c∈zbI n,upd H s.heap.objs.size (.tup [x,y]) c=none:=fun c hc'=>by
   have hlt:c < s.heap.objs.size:=by
    simp only [zbI,List.mem_cons,List.not_mem_nil,or_false] at hc'
    rcases hc' with z | z | z | z | z <;> subst z <;> exact nl (by omega)
   rw [zl (Nat.ne_of_lt hlt)]
   exact (hf c hc').1
  have I2:Inv X pins σ (upd H s.heap.objs.size (.tup [x,y])) { s with heap:=h'',toks:=tk } :=
   Inv.turnedL (s:={ s with heap:=h',toks:=tk }) (ch:=[n+4]) (t':=tk) I1 (fun c o hc' eo=>hs''.extBut c o (by simpa using hc') eo) (fun c hc'=>by
    have z:c=n+4:=by simpa using hc'
    subst z
    exact⟨fr _ (by simp),(hf _ (by simp)).2⟩) (fun c hc'=>by
    have z:c=n+4:=by simpa using hc'
    subst z
    exact⟨_,hz''⟩)
  have up:∀ c o,c≠n+4→h'.get? c=some o→h''.get? c=some o:=fun c o hc' e=>hs''.extBut c o hc' e
  exact⟨.ref s.heap.objs.size,_,I2,rfl,⟨_,x,y,I.fresh,rfl,rfl,fun zs hz=>by rw [I.tuple_inj hz hq1]; exact hx,fun zs hz=>by rw [I.list_inj hz hq2]; exact hy⟩,
   ⟨⟨g2,g1,hz'',hzf''⟩,up _ _ (nq (by omega)) e2,⟨_,_,up _ _ (nq (by omega)) e3⟩,t4.1.at fun o e=>up _ o (nq (by omega)) e,t5.1.at fun o e=>up _ o (nq (by omega)) e⟩,fr⟩
 done:=by
  intro X hP hw hK hc i pins s σ H E I hf st hg
  subst hP hw hK
  obtain⟨xs,ys,hq1,hq2,hx⟩:=hg
  obtain⟨⟨f0,f1,h1,hzf⟩,h2,⟨u0,v0,h3⟩,h4,h5⟩:=st
  obtain⟨its1,rv1,p1,hz1⟩:=I.tuple hq1
  obtain⟨its2,rv2,p2,hz2⟩:=I.list hq2
  have hh:X.A.in1.handled=none:=by simp [I.ok.hd hc]
  have hl1:=rv1.length
  have hl2:=rv2.length
  refine zjW (Draws.tuple hh n a (nq (by omega)) its1.toArray) (Draws.list hh (n+1) b (nq (by omega)) its2.toArray) (zd7 ha hb) h1 hzf h2 h3 ⟨h4,(show s.heap.IsTuple a its1.toArray from p1)⟩ ⟨h5,p2.isList⟩ (by rw [List.size_toArray,List.size_toArray]; omega) fun h' tk kk=>⟨rfl,?_⟩
  have sub:∀ c∈[n+4,n+3,n,n+1],c∈zbI n:=fun c hc'=>by
   simp only [zbI,List.mem_cons,List.not_mem_nil,or_false] at hc' ⊢
   rcases hc' with z | z | z | z <;> subst z <;> simp
  have k1:∀ c o,c∉[n+4,n+3,n,n+1]→s.heap.get? c=some o→h'.get? c=some o:=fun c o hc' e=>by
   simp only [List.mem_cons,List.not_mem_nil,or_false,not_or] at hc'
   exact kk c o hc'.1 hc'.2.1 hc'.2.2.1 hc'.2.2.2 e
  have nit:∀ d u',H d=some u'→d∉[n+4,n+3,n,n+1]:=fun d u' e' hd=>by rw [(hf d (sub d hd)).1] at e'; cases e'
  refine I.step (g':=s.gens) (d':=s.drawn) (t':=tk) (ch:=[n+4,n+3,n,n+1]) (fun c hc'=>?_) (fun c o _ _ hcc e _=>k1 c o hcc e) (fun c o _ _ hcc e _=>⟨o.slots,k1 c o hcc e⟩) (fun _ _ _ _ n=>n)
   (fun c o hcc e=>⟨o,k1 c o hcc e⟩) (fun _ _ e=>e) (fun _ _ _ e=>e) (fun c ps e=>⟨#[],by rw [e]; simp⟩) (fun m hm=>?_) (fun c u e=>?_) I.bare
  ·obtain⟨_,a1,_,a3,a4,a5⟩:=hf c (sub c hc')
   exact⟨a3,a1,a4,a5⟩
  ·obtain⟨o,es',ep,ho,r⟩:=hm
   exact⟨o,es',ep,k1 _ o (fun z=>(hf _ (sub _ z)).2.1 rfl) ho,r⟩
  ·refine (I.hok c u e).stay (fun d v' hd q=>k1 d v' ?_ q) (fun _ q=>q) fun _ _ q=>q
   rcases hd with z | z
   ·rw [z]; exact nit c u e
   ·exact nit d _ z
 self:=fun _ _ _ _ _ st h=>by
  obtain⟨⟨f0,f1,hz,_⟩,_⟩:=st
  exact zfK hz h
def iZq (Sq1 Sq2:Hp→Addr→List V→Prop) (ta:TA):TI:=fun σ H R=>ta σ H fun vs H1=>∃ a b xs ys,vs = [.ref a,.ref b]∧Sq1 H1 a xs∧Sq2 H1 b ys∧R (zmQ Sq1 Sq2 a b) H1
theorem zgw {X:Cx} {es:List Expr} {k:Nat} {tpos p pos:Pos} {a b:Expr} {ta:TA} (hg:Gl X "zip") (hm:X.mg "zip" = none) (ha:PA X [a,b] ta) (hs:starEach [a,b] X.env = [(false,eval a X.env),(false,eval b X.env)]:=by rfl) (hs2:starEach [b] X.env = [(false,eval b X.env)]:=by rfl) :
  PI X (.Tuple es k tpos) (.Call (.Name "zip" p) [a,b] [] pos) (iZq (SqT X.K) (SqL X.K) ta):=by
 intro pins s σ H R I h
 refine Call_ (zba I hg hm boot_zip (PyProof.Rows.callWith_type1 (thn (ha pos pins s σ H _ I h) fun us s1 ⟨vs,H1,I1,r1,q1⟩=>?_) (by rw [hs,hs2]) (by rw [hs2]; rfl)))
 obtain⟨l1,l2,xs,ys,e,hq1,hq2,q⟩:=q1
 subst e
 cases r1 with
 | cons r rr =>
  cases rr with
  | cons r' rr =>
   cases rr
   cases r
   cases r'
   obtain⟨its1,rv1,pl1,hz1⟩:=I1.tuple hq1
   obtain⟨its2,rv2,pl2,hz2⟩:=I1.list hq2
   have hlt1:l1 < s1.heap.objs.size:=by obtain⟨_,e,_⟩:=pl1; exact Heap.lt_size e
   have hlt2:l2 < s1.heap.objs.size:=by obtain⟨_,_,e,_⟩:=pl2; exact Heap.lt_size e
   refine zho (show s1.heap.IsTuple l1 its1.toArray from pl1) pl2.isList fun h' n hn b1 b2 b3 b4 b5 b6 kk=>?_
   have I2:Inv X pins σ H1 { s1 with heap:=h' }:=I1.kept (t':=s1.toks) kk
   refine zfK b1 ?_
   refine⟨_,zbI n,znI n l1 l2,zmQ (SqT X.K) (SqL X.K) l1 l2,H1,rfl,I2,zjX l1 l2 n (by rw [hn]; exact hlt1) (by rw [hn]; exact hlt2),⟨⟨_,_,b1,.inl rfl,_,rfl⟩,b2,⟨_,_,b3⟩,b4,b5⟩,fun c hc=>?_,q⟩
   have hle:s1.heap.objs.size≤c:=by
    simp only [zbI,List.mem_cons,List.not_mem_nil,or_false] at hc
    rw [← hn]
    rcases hc with z | z | z | z | z <;> subst z
    all_goals first | exact Nat.le_add_right _ _ | exact Nat.le_refl _
   exact I1.fpOk hle (I1.hok.fresh hle)
end L2
end
section
set_option maxHeartbeats 4000000
namespace L2
open PySem PySem.Spec PyProof.Rows
end L2
end
section
set_option maxHeartbeats 4000000
namespace L2
open PySem PySem.Spec PyProof.Rows
section
variable {prog:Program} {w:World} {A:Around} {h:Heap} {g:Array GenState} {d:Drawn} {tk:Nat} {os:OsState} {K:PySem.W.Frag} {x C:Addr} {E:Value→Shared→Prop}
theorem zhp {R:Result→Shared→Prop} {tp:Value} (J:∀ M,PySem.W.Looks M h (typeOf (.ref x)) (.ref C)) (X:K.In h)
  (hm:PySem.W.mroIn K C (.type "object")=some true) (q:R (.ok (.ret (.ref C))) ⟨h,g,d,tk,os⟩) :
  codeAny (model prog w) A (Code.call (.builtin "getset_descriptor.__get__") { pos:=[.builtin "object.__class__",.ref x,tp] }) R ⟨h,g,d,tk,os⟩:=by
 refine codeAny_call_builtin PySem.W.KF.slot_gs.plain PySem.W.KF.entry_gs (PySem.W.KF.slot_gs.check _ _ _ _ _ _ _ _ ?_ (PySem.W.KF.args_gs _ _ _) ?_)
 ·exact PySem.W.KF.type_class
 ·unfold Builtin.«getset_descriptor.__get__» Builtin.Getset_descriptor.descrGet
  rw [PySem.W.dga_obj]
  refine wpAny_bind (wpAny_pure ?_)
  try dsimp only
  unfold Builtin.Getset_descriptor.descrGetter
  try dsimp only
  refine wpAny_bind ?_
  unfold Builtin.Getset_descriptor.descrCheckInstance Builtin.Getset_descriptor.descrNameAndClass
  try dsimp only
  rw [PySem.W.KF.owner_class]
  refine wpAny_bind (wpAny_pure ?_)
  try dsimp only
  unfold isInstance
  refine wpAny_bind (wpAny_bind ((J _).at ((PySem.W.looks_mroIn X hm).at ?_)))
  refine wpAny_ite_false rfl (wpAny_pure ?_)
  unfold again
  refine wpAny_pure ⟨Code.quiet_builtin _ (by decide +kernel),?_⟩
  refine codeAny_builtin PySem.W.KF.entry_class ?_
  unfold Builtin.«object.__class__»
  try dsimp only
  unfold shownTypeOf
  refine wpAny_bind (wpAny_bind ((J _).at ?_))
  refine wpAny_ite_false rfl (wpAny_pure ?_)
  unfold ret
  exact wpAny_pure q
theorem ziH {M:Model} {nameV:Value} {Q:Unit→Shared→Prop} (J:∀ M,PySem.W.Looks M h (typeOf (.ref x)) (.ref C)) (X:K.In h) (hm:PySem.W.mroIn K C (.type "BaseException")=some true) (q:Q () ⟨h,g,d,tk,os⟩) :
  wpAny M A (checkBuiltinCall "BaseException.__getattribute__" { pos:=[.ref x,nameV] }) Q E ⟨h,g,d,tk,os⟩:=by
 have hk:builtinKind "BaseException.__getattribute__" = some Manifest.AttrKind.slot:=(by decide +kernel)
 have hs:splitId "BaseException.__getattribute__" = some ("BaseException","__getattribute__"):=by decide +kernel
 unfold checkBuiltinCall
 rw [hk,hs]
 try dsimp only
 unfold isInstance
 refine wpAny_bind (wpAny_bind ((J _).at ((PySem.W.looks_mroIn X hm).at ?_)))
 refine wpAny_ite_false rfl ?_
 have ok:=F.args_bexc_ga (.ref x) nameV
 unfold argsOk at ok
 generalize Manifest.signature? "BaseException.__getattribute__" = sg at ok ⊢
 cases sg with
 | none=>exact wpAny_pure q
 | some sig =>
  dsimp only at ok ⊢
  rw [ok]
  exact wpAny_pure q
theorem ziI {Q:Option Value→Shared→Prop} (J:∀ M,PySem.W.Looks M h (typeOf (.ref x)) (.ref C)) (X:K.In h)
  (F1:PySem.W.findIn K (.ref C) "__getattribute__" = some (some (.builtin "BaseException.__getattribute__"))) (F2:PySem.W.findIn K (.ref C) "__getattr__" = some none)
  (F3:PySem.W.findIn K (.ref C) "__class__" = some (some (.builtin "object.__class__"))) (hm:PySem.W.mroIn K C (.type "object")=some true) (hb:PySem.W.mroIn K C (.type "BaseException")=some true)
  (q:Q (some (.ref C)) ⟨h,g,d,tk+1,os⟩):wpAny (model prog w) A (getAttr? (.ref x) "__class__") Q E ⟨h,g,d,tk,os⟩:=by
 unfold getAttr?
 (refine wpAny_bind (wpAny_mkText ?_))
 unfold getAttrBy?
 (refine wpAny_bind (wpAny_attempt ?_))
 unfold getAttrBy
 refine wpAny_holding (wpAny_bind ((J _).at (wpAny_bind ((PySem.W.looks_findIn X F1).at ?_))))
 try dsimp only
 refine wpAny_ite_false rfl ?_
 unfold getAttrByItsOwn
 refine wpAny_bind ((PySem.W.looks_hook (mc:=.ref C) X (r:=none) (by rw [show onTheHeap (Value.ref C)=true from rfl,if_pos rfl]; exact F2)).at ?_)
 (refine wpAny_bind (wpAny_attempt (wpAny_holding ?_)))
 unfold callGetattribute
 refine wpAny_ite_false rfl ?_
 unfold boundAndCalled
 rw [F.attrBase_ValueError.ga.bind]
 refine wpAny_bind (wpAny_pure ?_)
 try dsimp only
 refine wpAny_call ?_
 refine codeAny_call_builtin F.attrBase_ValueError.ga.plain F.entry_bexc_ga (ziH J X hb ?_)
 (unfold Builtin.«object.__getattribute__»)
 refine wpAny_bind ?_
 unfold slotArgs
 try dsimp only
 refine wpAny_ite_false rfl (wpAny_ite_false rfl (wpAny_pure ?_))
 try dsimp only
 unfold Builtin.ObjectAttr.attrName
 try dsimp only
 refine wpAny_bind (wpAny_pure (wpAny_bind ((J _).at (wpAny_bind ?_))))
 unfold Builtin.ObjectAttr.find
 refine wpAny_bind ((PySem.W.looks_findIn X F3).at ?_)
 unfold Builtin.ObjectAttr.getOf
 try dsimp only
 refine wpAny_bind (wpAny_specialOf_val PySem.W.KF.type_class F.slot_gs_get.lookup ?_)
 unfold Builtin.ObjectAttr.dataDescriptor?
 try dsimp only
 refine wpAny_bind ?_
 unfold Builtin.ObjectAttr.takesStores
 refine wpAny_bind (wpAny_bind (wpAny_specialOf_val PySem.W.KF.type_class F.slot_gs_set.lookup ?_))
 refine wpAny_ite_true rfl (wpAny_pure ?_)
 refine wpAny_ite_true rfl (wpAny_pure ?_)
 try dsimp only
 (refine wpAny_bind (wpAny_rule (wpAny_pure ?_)))
 try dsimp only
 unfold Builtin.ObjectAttr.bindTo
 try dsimp only
 refine wpAny_bind (wpAny_holding (wpAny_call (zhp J X hm ?_)))
 try dsimp only
 unfold ret
 refine wpAny_pure ?_
 try dsimp only
 unfold handedOut
 try dsimp only
 refine wpAny_pure ?_
 try dsimp only
 exact wpAny_pure q
end
end L2
end
section
set_option maxHeartbeats 4000000
namespace L2
open PySem PySem.Spec PyProof.Rows
structure Xc (K:PySem.W.Frag) (C:Addr):Prop where
 f1:PySem.W.findIn K (.ref C) "__getattribute__" = some (some (.builtin "BaseException.__getattribute__"))
 f2:PySem.W.findIn K (.ref C) "__getattr__" = some none
 f3:PySem.W.findIn K (.ref C) "__class__" = some (some (.builtin "object.__class__"))
 ob:PySem.W.mroIn K C (.type "object")=some true
 bb:PySem.W.mroIn K C (.type "BaseException")=some true
 kc:PySem.W.kitCls K (.ref C) (.ref C)=some true
theorem zes {h:Heap} {x C:Addr} (e:∃ o,h.get? x=some o∧o.cls = .ref C) (M:Model):PySem.W.Looks M h (typeOf (.ref x)) (.ref C):=by
 obtain⟨o,e,c⟩:=e
 intro A Q E s k q
 obtain⟨h',g,d,t,os⟩:=s
 unfold typeOf
 refine wpAny_bind (wpAny_loadPart_at (k _ _ e) (wpAny_pure ?_))
 rw [c]
 exact q
theorem zmR {K:PySem.W.Frag} {C:Addr} {b:Value} {r:Bool} (m:PySem.W.mroIn K C b=some r):∃ oc dd cd sl,K.lookup C=some ⟨oc,dd,.cls cd,sl⟩:=by
 unfold PySem.W.mroIn PySem.W.clsIn at m
 cases e:List.lookup C K with
 | none=>rw [e] at m; cases m
 | some o =>
  obtain⟨oc,dd,da,sl⟩:=o
  cases da with
  | cls cd=>exact⟨oc,dd,cd,sl,rfl⟩
  | _=>rw [e] at m; cases m
theorem zgx {K:PySem.W.Frag} {x C:Addr} (c:Xc K C):PySem.W.KitX K (.ref x) (.ref C) (fun h=>∃ o,h.get? x=some o∧o.cls = .ref C):=by
 refine⟨fun M h _ e=>zes e M,fun M h X e=>(PySem.W.kit_cls X c.kc).2.1,fun h tp dd its n sl X e=>?_,fun {prog w A E Q s} X e q=>?_⟩
 ·obtain⟨oc,dd',cd,sl',l⟩:=zmR c.ob
  have e2:=X _ _ l
  have ne:C≠tp:=fun z=>by
   rw [z,e] at e2
   cases e2
  exact decide_eq_false fun z=>ne (by injection z)
 ·obtain⟨h,g,d,tk,os⟩:=s
  exact ziI (fun M=>zes e M) X c.f1 c.f2 c.f3 c.ob c.bb q
def zjY (a C:Addr):HO:=.ext fun h=>∃ o,h.get? a=some o∧o.cls = .ref C
theorem zZ {X:Cx}:zbh X (.builtin "isinstance") (fun xs H Q=>∃ a C y b,xs = [.ref a,y]∧H a=some (zjY a C)∧Xc X.K C∧((∃ D,y = .ref D∧PySem.W.kitOne X.K (.ref C) (.ref D)=some b)∨∃ n,y = .ty n∧PySem.W.kitOne X.K (.ref C) (.type n)=some b)∧Q (.bl b) H):=by
 intro pins s σ H xs us Q I r h
 obtain⟨a,C,y,b,rfl,ha,c,hy,q⟩:=h
 obtain⟨u,u',rfl,rx,r2⟩:=vals2 r
 cases rx
 obtain⟨he,_,_⟩:=(show zab X.prog X.w H s.heap a (zjY a C) from I.hok a _ ha)
 rcases hy with ⟨D,rfl,hk⟩ | ⟨n,rfl,hk⟩
 ·cases r2
  exact PySem.W.kia_one (zgx c) I.kIn he hk (fun z=>nomatch z) fun tk=>⟨.bl b,H,I.tok tk,rfl,q⟩
 ·cases r2
  exact PySem.W.kia_one (zgx c) I.kIn he hk (fun z=>nomatch z) fun tk=>⟨.bl b,H,I.tok tk,rfl,q⟩
end L2
end
section
set_option maxHeartbeats 4000000
namespace L2
open PySem PySem.Spec PyProof.Rows
abbrev zhq:List Value:=[.type "ValueError",.type "Exception",.type "BaseException",.type "object"]
structure XcAt (C:Addr) (h:Heap) (bmB:List Value) (newId:String):Prop where
 ex:∃ nm q N bs bm hdct sn sub ab col dd k0 k1 k2 k3 k5,∃ mN:Str→Option Value,h.get? C=some (excClassObj nm q C N bs bm hdct sn sub ab col dd k0 k1 k2 k3 k5 newId)∧h.Ns N mN∧mN "__init__" = none∧OwnTail h bmB bm
theorem ziJ {K:PySem.W.Frag} {h:Heap} {C:Addr} {bmB:List Value} {newId:String} (X:K.In h) (e:PySem.W.excIn K C bmB newId=true):XcAt C h bmB newId:=by
 unfold PySem.W.excIn at e
 split at e
 ·rename_i dict cd sl hl
  split at e
  ·rename_i C' bm a0 a1 a2 a3 n a5 hm hs
   simp only [Bool.and_eq_true,beq_iff_eq] at e
   obtain⟨⟨⟨⟨⟨rfl,rfl⟩,hdel⟩,ht⟩,hn⟩,hi⟩:=e
   obtain⟨sll⟩:=sl
   have hs:sll = [a0,a1,a2,a3,some (Value.builtin n),a5]:=hs
   subst hs
   have ho:=X _ _ hl
   cases cd
   dsimp only at hm hn hi hdel
   subst hm
   simp only [Bool.not_eq_true'] at hdel
   subst hdel
   exact⟨_,_,_,_,_,_,_,_,_,_,_,_,_,_,_,_,_,ho,Heap.Ns.of_isNs (PySem.W.isNs_of_in X hn),PySem.W.nsMap_none_of_in X hn hi,PySem.W.tail_of_in X ht⟩
  ·cases e
 ·cases e
end L2
end
section
set_option maxHeartbeats 4000000
namespace L2
open PySem PySem.Spec PyProof.Rows
theorem zdH {h h' base B:Heap} (k:∀ b o,h.get? b=some o→h'.get? b=some o):∀ {l:List Env},h.FunFrames base l→(∀ b∈frs l,B.get? b=none)→h'.FunFrames B l
 | [],_,_=>trivial
 | env :: r,hl,hb=>by
  obtain⟨hk,⟨L,o,hf,hn,ho,hd⟩,hr⟩:=hl
  have e:frs (env :: r)=L :: frs r:=by unfold frs; rw [List.filterMap_cons,hf]
  rw [e] at hb
  exact⟨hk,⟨L,o,hf,hb L (by simp),k _ _ ho,hd⟩,zdH k hr fun b z=>hb b (List.mem_cons_of_mem _ z)⟩
structure Xl (P:Program) (w:World) (outer:List Env) (H:Hp) (h:Heap) (H':Hp) (h' B:Heap) (e C:Addr):Prop where
 new:h.get? e=none
 hok:HOk P w H' B
 fly:∃ t,B.FlyingW outer e (.ref C) t h'
 keep:∀ b o,h.get? b=some o→H b=none→b∉frs outer→B.get? b=some o
 slot:∀ b o,h.get? b=some o→H b=none→b∈frs outer→∃ sl,h'.get? b=some { o with slots:=sl }
 free:∀ b o,h.get? b=some o→H b=none→H' b=none
 there:∀ b o,h.get? b=some o→b∉frs outer→∃ o',B.get? b=some o'
 tups:∀ b xs,H b=some (.tup xs)→H' b=some (.tup xs)
 frzs:∀ b o u,H b=some (.frz o u)→H' b=some (.frz o u)
 tbls:∀ b ps,H b=some (.tbl ps)→∃ more,H' b=some (.tbl (ps++more))
def CX1 (P:Program) (w:World):CXT:=fun outer H s E ev s'=>∃ (e C:Addr) (H':Hp) (B:Heap),ev = .ref e∧s'.os=s.os∧AllBare s'.gens∧Xl P w outer H s.heap H' s'.heap B e C∧E (.ref C) none H'
section
variable {P:Program} {w:World} {outer:List Env} {H H':Hp} {h h' B:Heap} {e C:Addr}
theorem zmS {o:HO} {a:Addr} (x:zab P w H h a o):∃ ob,h.get? a=some ob:=by
 cases o with
 | lst xs=>obtain⟨_,_,_,_,e⟩:=x; exact⟨_,e⟩
 | tup xs=>obtain⟨_,_,_,o,e,_⟩:=x; exact⟨_,e⟩
 | dK kvs=>obtain⟨_,_,_,_,o,_,_,e,_⟩:=x; exact⟨_,e⟩
 | dT kvs=>obtain⟨_,_,_,_,o,_,_,e,_⟩:=x; exact⟨_,e⟩
 | set S n=>obtain⟨o,_,_,_,e,_⟩:=x; exact⟨_,e⟩
 | ins C dx fs=>obtain⟨_,_,_,e,_⟩:=x; exact⟨_,e⟩
 | own y=>obtain⟨_,e⟩:=x; exact⟨_,e⟩
 | xd fs=>obtain⟨_,⟨_,_,_,e,_⟩,_⟩:=x; exact⟨_,e⟩
 | rng lo hi=>obtain⟨_,_,_,e⟩:=x; exact⟨_,e⟩
 | frz ob u=>obtain⟨e,_⟩:=x; exact⟨_,e⟩
 | tbl ps=>exact⟨_,(show h.get? a=some _ from x)⟩
 | met f y=>exact⟨_,(show h.get? a=some _ from x)⟩
 | ext φ=>obtain⟨_,⟨_,e⟩,_⟩:=x; exact⟨_,e⟩
theorem Xl.fresh (x:Xl P w outer H h H' h' B e C):H' e=none:=by
 obtain⟨t,_,hb,_⟩:=x.fly
 cases q:H' e with
 | none=>rfl
 | some u =>
  obtain⟨ob,z⟩:=zmS (x.hok e u q)
  rw [hb] at z
  cases z
theorem Xl.un (x:Xl P w outer H h H' h' B e C) (hf:∀ b∈frs outer,H b=none):Un (frs outer) [] H H' h h' where
 keep:=fun b o q n hb _=>by
  obtain⟨t,st,_⟩:=x.fly
  exact st _ _ (x.keep b o q n hb)
 slot:=fun b o q n hb _=>x.slot b o q n hb
 free:=fun b o q n _=>x.free b o q n
 there:=fun b o q _=>by
  by_cases hb:b∈frs outer
  ·obtain⟨sl,z⟩:=x.slot b o q (hf b hb) hb
   exact⟨_,z⟩
  ·obtain⟨o',z⟩:=x.there b o q hb
   obtain⟨t,st,_⟩:=x.fly
   exact⟨o',st _ _ z⟩
 tups:=x.tups
 frzs:=x.frzs
 tbls:=x.tbls
end
section
variable {X:Cx} {σ:St} {H:Hp} {s:Shared} {pins:List (Addr×Obj)}
theorem Inv.hid (I:Inv X pins σ H s):HOk X.prog X.w H (PySem.W.hideAll s.heap (frs X.stack)):=fun a o q =>
 (I.hok a o q).stay (fun b u hb z=>PySem.W.hideAll_get _ z fun m=>by
  have n:=I.stkFree b m
  rcases hb with rfl | hb
  ·rw [q] at n; cases n
  ·rw [hb] at n; cases n) (fun _ z=>z) fun _ _ z=>z
theorem zgy {env:Env} {outer:List Env} {L:Addr} (hf:env.frame=some L):frs (env :: outer)=L :: frs outer:=by unfold frs; rw [List.filterMap_cons,hf]
theorem Inv.notHere (I:Inv X pins σ H s) {b:Addr} {o:Obj} (q:X.s₀.heap.get? b=some o):b≠X.env.locals:=Nat.ne_of_lt (Nat.lt_of_lt_of_le (Heap.lt_size q) I.ok.above)
end
section
variable {P:Program} {w:World} {K:PySem.W.Frag} {mg:Str→Option Value} {base:Heap} {N:List Str} {qual:Str} {scope:Scope} {f:Addr} {cd:Value} {A:Around} {outer:List Env} {s₀:Shared} {H₀:Hp} {E:XK}
abbrev cxX (P:Program) (w:World) (K:PySem.W.Frag) (mg:Str→Option Value) (base:Heap) (N:List Str) (qual:Str) (scope:Scope) (f:Addr) (cd:Value) (A:Around) (outer:List Env) (s:Shared) (H:Hp) (E:XK):Cx:=zby (CX1 P w) P w K mg base N qual scope f cd A outer s H E
theorem zet {pins:List (Addr×Obj)} {σ:St} {H:Hp} {s:Shared} {h1:Heap} {e C:Addr} {vs:List Value} (I:Inv (cxX P w K mg base N qual scope f cd A outer s₀ H₀ E) pins σ H s) (m:s.heap.MadeExcOf h1 e (.ref C) vs) (q:E (.ref C) none H) :
  (cxX P w K mg base N qual scope f cd A outer s₀ H₀ E).xe (.ref e) { s with heap:=h1 }:=by
 have frm:frs (cxX P w K mg base N qual scope f cd A outer s₀ H₀ E).stack=s₀.heap.objs.size :: frs outer:=zgy rfl
 obtain⟨t,he,_,_⟩:=m.there
 have stays:(PySem.W.hideAll s.heap (frs (cxX P w K mg base N qual scope f cd A outer s₀ H₀ E).stack)).StaysIn h1:=fun b o z=>m.keeps _ _ (PySem.W.of_hideAll _ z)
 have none_e:(PySem.W.hideAll s.heap (frs (cxX P w K mg base N qual scope f cd A outer s₀ H₀ E).stack)).get? e=none:=by
  cases z:(PySem.W.hideAll s.heap (frs (cxX P w K mg base N qual scope f cd A outer s₀ H₀ E).stack)).get? e with
  | none=>rfl
  | some o=>have:=PySem.W.of_hideAll _ z; rw [m.new] at this; cases this
 refine wpAny_leaving_firstW (base:=PySem.W.hideAll s.heap (frs (cxX P w K mg base N qual scope f cd A outer s₀ H₀ E).stack)) (outer:=outer) I.ok.frames (zdH m.keeps I.stack fun b z=>PySem.W.hideAll_none _ z) rfl he stays none_e rfl rfl rfl fun h2 left=>?_
 obtain⟨st2,ff2,tr2,sl2⟩:=left
 refine⟨e,C,H,PySem.W.hideAll s.heap (frs (cxX P w K mg base N qual scope f cd A outer s₀ H₀ E).stack),rfl,I.os,I.bare,⟨?_,I.hid,⟨_,st2,none_e,ff2.2.2,tr2⟩,fun b o z n hb=>?_,fun b o z n hb=>?_,fun b o z n=>I.base.free b o z n (by simp [cxX,zby]),fun b o z hb=>?_,I.base.tups,I.base.frzs,I.base.tbls⟩,q⟩
 ·cases z:s₀.heap.get? e with
  | none=>rfl
  | some o =>
   obtain⟨o',z'⟩:=I.base.there e o z (by simp [cxX,zby])
   rw [m.new] at z'; cases z'
 ·refine PySem.W.hideAll_get _ (I.base.keep b o z n hb (by simp [cxX,zby])) fun hm=>?_
  rw [frm] at hm
  rcases List.mem_cons.mp hm with z' | z'
  ·exact I.notHere z z'
  ·exact hb z'
 ·obtain⟨sl,z1⟩:=I.base.slot b o z n hb (by simp [cxX,zby])
  obtain⟨_,ob,zo,nd⟩:=I.ok.funs.mem hb
  have eo:ob=o:=by
   have z3:s₀.heap.get? b=some ob:=zo
   rw [z] at z3; exact (Option.some.inj z3).symm
  subst eo
  obtain⟨sl',z2⟩:=sl2 b _ (m.keeps _ _ z1) nd
  exact⟨sl',z2⟩
 ·obtain⟨o',z1⟩:=I.base.there b o z (by simp [cxX,zby])
  refine⟨o',PySem.W.hideAll_get _ z1 fun hm=>?_⟩
  rw [frm] at hm
  rcases List.mem_cons.mp hm with z' | z'
  ·exact I.notHere z z'
  ·exact hb z'
theorem zcT:zem (CX1 P w) (cxX P w K mg base N qual scope f cd A outer s₀ H₀ E) E:=by
 intro pins σ H s ev s' I hq
 obtain⟨e,C,H',B,rfl,os,bare,L,q⟩:=hq
 have frm:frs (cxX P w K mg base N qual scope f cd A outer s₀ H₀ E).stack=s₀.heap.objs.size :: frs outer:=zgy rfl
 obtain⟨t,fl⟩:=L.fly
 show wpAny _ _ (leaving _ _) _ _ _
 unfold leaving
 refine wpAny_bind (wpAny_looks_onW (base:=B) (outer:=outer) I.ok.frames rfl fl fun h2 held u2=>?_)
 refine wpAny_landsW held fun h3 fl3 u3=>?_
 obtain⟨st3,none_e,ff3,tr3⟩:=fl3
 refine⟨e,C,H',B,rfl,os.trans I.os,bare,⟨?_,L.hok,⟨_,st3,none_e,ff3.2.2,tr3⟩,fun b o z n hb=>?_,fun b o z n hb=>?_,fun b o z n=>?_,fun b o z hb=>?_,fun b xs z=>L.tups b xs (I.base.tups b xs z),fun b o u z=>L.frzs b o u (I.base.frzs b o u z),fun b ps z=>?_⟩,q⟩
 ·cases z:s₀.heap.get? e with
  | none=>rfl
  | some o =>
   obtain⟨o',z'⟩:=I.base.there e o z (by simp [cxX,zby])
   rw [L.new] at z'; cases z'
 ·refine L.keep b o (I.base.keep b o z n hb (by simp [cxX,zby])) (I.base.free b o z n (by simp [cxX,zby])) fun hm=>?_
  rw [frm] at hm
  rcases List.mem_cons.mp hm with z' | z'
  ·exact I.notHere z z'
  ·exact hb z'
 ·obtain⟨sl,z1⟩:=I.base.slot b o z n hb (by simp [cxX,zby])
  obtain⟨_,ob,zo,nd⟩:=I.ok.funs.mem hb
  have eo:ob=o:=by
   have z3:s₀.heap.get? b=some ob:=zo
   rw [z] at z3; exact (Option.some.inj z3).symm
  subst eo
  obtain⟨sl2,z2⟩:=L.slot b _ z1 (I.base.free b _ z n (by simp [cxX,zby])) (by rw [frm]; exact List.mem_cons_of_mem _ hb)
  obtain⟨sl3,z3⟩:=u2 b _ z2 nd
  obtain⟨sl4,z4⟩:=u3 b _ z3 nd
  exact⟨sl4,z4⟩
 ·obtain⟨o',z'⟩:=I.base.there b o z (by simp [cxX,zby])
  exact L.free b o' z' (I.base.free b o z n (by simp [cxX,zby]))
 ·obtain⟨o',z'⟩:=I.base.there b o z (by simp [cxX,zby])
  refine L.there b o' z' fun hm=>?_
  rw [frm] at hm
  rcases List.mem_cons.mp hm with z' | z'
  ·exact I.notHere z z'
  ·exact hb z'
 ·obtain⟨m1,e1⟩:=I.base.tbls b ps z
  obtain⟨m2,e2⟩:=L.tbls b _ e1
  exact⟨m1++m2,by rw [e2,Array.append_assoc]⟩
theorem Fun.okX {x:Str} {st:Stmt} {fd:FuncData} {ps:List Str} {k:Nat} {sp:Sp} (F:Fun K x qual st f fd) (S:FnScope N ps (zh st)) (len:∀ vs H Q E,sp vs H Q E→vs.length=ps.length)
  (hbody:∀ (cdv:Value) (A:Around) (outer:List Env) (s:Shared) (H:Hp) (vs:List V) (Q:VK) (E:XK),Room k (A.deeper (envOfC qual (zh st) s.heap.objs.size f cdv))→sp vs H Q E →
   ∃ t,PSs (cxX P w K mg base N qual (zh st) f cdv A outer s H E) (za5 st) t∧t { nx:=fun _ H'=>Q .non H',rt:=Q } (start N vs) H):FnOk P w K mg base (CX1 P w) (k+1) f fd ps sp:=by
 obtain⟨oc,od,kV,doc,pm,an,cdv,ct,osl,rfl,lk,hcd⟩:=F.ex
 exact zl9 lk hcd S len fun A outer s H vs Q E hr hsp=>hbody cdv A outer s H vs Q E hr hsp
end
section
variable {X:Cx} {x:Str} {C:Addr} {e:Expr} {te:TE} {np cpos pos:Pos} {E:XK}
def zjZ (X:Cx) (E:XK):Prop:=∀ (pins:List (Addr×Obj)) (σ:St) (H:Hp) (s:Shared) (h1:Heap) (e C:Addr) (vs:List Value),Inv X pins σ H s→s.heap.MadeExcOf h1 e (.ref C) vs→E (.ref C) none H→X.xe (.ref e) { s with heap:=h1 }
def zmT (C:Addr) (E:XK) (te:TE):TS:=fun _ σ H=>zhX te zmE σ H fun vs H1=>vs.length=1∧E (.ref C) none H1
theorem zgz (hx:zjZ X E) (hc:X.calm=true) (hg:Gl X x) (hm:X.mg x=some (.ref C)) (xc:PySem.W.excIn X.K C zhq "ValueError.__new__" = true) (he:PE X e te) (hd:(x == ("__debug__" : Str))=false:=by decide)
  (hpl:((backTo cpos (starEach [e] X.env)).any fun x=>x.fst)=false:=by rfl) (hst:starEach [e] X.env=(false,eval e X.env) :: starEach [] X.env:=by rfl) :
  PS X (.Raise (some (.Call (.Name x np) [e] [] cpos)) none pos) (zmT C E te):=by
 intro pins s σ H D I h
 obtain⟨nm,q,N,bs,bm,hdct,sn,sub,ab,col,dd,k0,k1,k2,k3,k5,mN,hob,hns,hin,htl⟩:=(ziJ I.mod.kin xc).ex
 refine wpAny_Raise_call_subU (nm:=nm) (q:=q) (N:=N) (bs:=bs) (hdct:=hdct) (sn:=sn) (sub:=sub) (ab:=ab) (col:=col) (dd:=dd) (k0:=k0) (k1:=k1) (k2:=k2) (k3:=k3) (k5:=k5) (bm:=bm) (bmB:=zhq) (bmN:=zhq) F.excBase_ValueError rfl F.excBase_ValueError (OwnTail.hasType htl rfl) (I.ok.hd hc) hpl hin (zcy I hg hm ⟨rfl,?_⟩ hd)
 have pa:PA X [e] (zhX te zmE):=za he zd hst
 have go:=pa cpos pins s σ H (fun vs H1=>vs.length=1∧E (.ref C) none H1) I h
 rw [hst] at go ⊢
 refine Calls.evalArgs_plain (thn go fun us s2 ⟨vs,H2,I2,r2,ql,q2⟩=>⟨rfl,?_,I2.bk _ _ hob,hns.keeps I2.bk,htl.keeps I2.bk,fun h1 ea m=>hx pins σ H2 s2 h1 ea C _ I2 m q2⟩)
 have:=r2.length
 have hsl:1≤sizeLine:=by decide
 show us.length≤sizeLine
 omega
end
end L2
end
section
set_option maxHeartbeats 4000000
namespace L2
open PySem PySem.Spec PyProof.Rows
def znJ (X:Cx) (pins:List (Addr×Obj)) (σ:St) (e:Expr) (t:TE):Prop:=∀ (s:Shared) (H:Hp) (Q:VK),Inv X pins σ H s→t σ H Q→wpAny (model X.prog X.w) X.A (eval e X.env) (EP X pins σ Q) X.xe s
def znK (X:Cx) (pins:List (Addr×Obj)) (σ:St) (st:Stmt) (t:TS):Prop:=∀ (s:Shared) (H:Hp) (D:Ends),Inv X pins σ H s→t D σ H→wpAny (model X.prog X.w) X.A (exec st X.env) (SP X pins D) X.xe s
def zme (X:Cx) (pins:List (Addr×Obj)) (σ:St) (st:List Stmt) (t:TS):Prop:=∀ (s:Shared) (H:Hp) (D:Ends),Inv X pins σ H s→t D σ H→wpAny (model X.prog X.w) X.A (execs st X.env) (SP X pins D) X.xe s
def zeu (CX:CXT) (X:Cx) (pins:List (Addr×Obj)) (σ:St) (E:XK):Prop:=∀ (H:Hp) (s:Shared) (e:Value) (s':Shared),Inv X pins σ H s→CX X.stack H s E e s'→X.xe e s'
section
variable {X:Cx} {pins:List (Addr×Obj)} {σ:St} {CX:CXT} {k:Nat} {f C:Addr} {fd:FuncData} {ps:List Str} {sp:Sp} {dvs:List V} {ds:List Value} {E:XK} {x m:Str} {p pos apos:Pos} {e o:Expr} {es:List Expr} {ta te:TE} {t:TA}
theorem ziK {H:Hp} {s:Shared} {Q:VK} {us:List Value} {vs:List V} (F:FnOk X.prog X.w X.K X.mg X.base CX k f fd ps sp) (hr:Room k X.A) (hb:Binds X.K fd ps ds) (hd:zK dvs ds) (hx:zeu CX X pins σ E)
  (I:Inv X pins σ H s) (r:zK vs us) (h:sp (vs++dvs) H Q E):wpAny (model X.prog X.w) X.A (call (.ref f) us) (EP X pins σ Q) X.xe s:=by
 have r2:zK (vs++dvs) (us++ds):=r.append hd
 have hl:(us++ds).length=ps.length:=by rw [← r2.length]; exact F.len _ _ _ _ h
 refine wpAny_call (codeAny_mono (F.run X.A X.stack s H ⟨us,[]⟩ (us++ds) (vs++dvs) Q E hr I.env0 (hb s us I.kIn hl) r2 h) fun r s' hq=>?_)
 cases r with
 | error e=>exact hx H s e s' I hq
 | ok fl =>
  cases fl with
  | ret u=>exact I.after hq
  | next=>exact False.elim hq
  | brk=>exact False.elim hq
  | cont=>exact False.elim hq
theorem zhr (F:FnOk X.prog X.w X.K X.mg X.base CX k f fd ps sp) (hr:Room k X.A) (hg:Gl X x) (hm:X.mg x=some (.ref f)) (hk:PySem.W.keepIn X.K (.ref f)=true) (hb:Binds X.K fd ps ds) (hd:zK dvs ds) (hx:zeu CX X pins σ E)
  (ha:PA X (e :: es) t) (hdb:(x == ("__debug__" : Str))=false:=by decide) (he:starEach (e :: es) X.env=(false,eval e X.env) :: starEach es X.env:=by rfl) (hpl:(backTo pos (starEach es X.env)).any (·.1)=false:=by rfl) :
  znJ X pins σ (.Call (.Name x p) (e :: es) [] pos) (zjz sp dvs E t):=by
 intro s H Q I h
 refine wpAny_Call_Name_kw (zcy I hg hm ?_ hdb)
 refine PySem.W.callWith_K (h₀:=X.base) I.ok.mod.kin hk (thn (ha pos pins s σ H _ I h) fun us s1 ⟨vs,H1,I1,r,q⟩=>⟨I1.kIn,?_⟩) he hpl
 exact ziK F hr hb hd hx I1 r q
theorem ziL {i:Nat} {pos':Pos} (hN:X.N.Nodup) (hi:X.N[i]? = some x) (hx:Loc X.env.scope x) (he:znJ X pins σ e te) (hs:swapsWith e (some (.Name x pos')) pos.line X.env=pure false:=by rfl) (hf:X.fn x=true∨X.env.scope.names.lookup x=some .local:=by first | exact .inl rfl | exact .inr rfl | assumption) :
  znK X pins σ (.Assign [.Name x pos'] e pos) (zfw te (za1 i)):=by
 intro s H D I h
 refine wpAny_Assign_Name (thn (he s H _ I h) fun v s1 ⟨y,H1,I1,r1,q1⟩=>?_) hs
 exact zbM I1 hN hi hx r1 (fun s2 I2=>⟨_,H1,I2,q1⟩) hf
theorem zhs {st:Stmt} {ts:TS} (h:znK X pins σ st ts):zme X pins σ [st] ts:=by
 intro s H D I h1
 refine wpAny_execs_cons (thn (h s H D I h1) fun f s1 q=>?_)
 cases f with
 | next=>exact wpAny_execs_nil q
 | ret v=>exact q
 | brk=>exact q
 | cont=>exact q
end
section
variable {X:Cx} {σ:St} {H:Hp} {s:Shared} {pins:List (Addr×Obj)}
theorem ziM {M:Model} {A:Around} {E:Value→Shared→Prop} {i:Nat} {x:Str} {v:V} {Q:Unit→Shared→Prop} (I:Inv X pins σ H s) (hN:X.N.Nodup) (hi:X.N[i]? = some x) (hk:X.env.scope.names.lookup x=some .local) (hv:σ[i]? = some (some v))
  (h:∀ s',Inv X pins (σ.set i none) H s'→Q () s'):wpAny M A (unbindName X.env x) Q E s:=by
 obtain⟨m,hn,hl⟩:=id I.loc
 have hcls:(X.env.scope.kind == .class || (X.env.scope.kind == .module && X.env.locals != X.env.globals))=false:=by rw [I.ok.kind]; rfl
 have hiσ:i < σ.length:=by rw [I.len]; exact (List.getElem?_eq_some_iff.mp hi).1
 have cne:=I.cne
 obtain⟨u,r,lk⟩:=hl i x v hi hv (.inl hk)
 have hm:m x=some u:=by
  rcases lk with ⟨_,z⟩ | ⟨z,_⟩
  ·exact z
  ·have z:X.env.scope.names.lookup x=some .cell∨X.env.scope.names.lookup x=some .free:=z
   rw [hk] at z
   rcases z with z | z <;> cases z
 refine wpAny_unbindName_local hk hn hm hcls fun h' u' hn' hs=>?_
 obtain⟨oL,_,_,hoL,_⟩:=id hn
 refine h _ ⟨I.ok,I.os,I.bare,⟨fun b o e n hb hx=>?_,fun b o e n hb hx=>?_,I.base.free,fun b o e hx=>?_,I.base.tups,I.base.frzs,I.base.tbls⟩,⟨_,hn',fun j y v' e1 e2 e3=>?_⟩,fun y c e=>?_,I.free,I.freeC,fun p hp=>?_,fun b ob e=>?_,by simpa using I.len⟩
 ·exact (hs.2 b (Nat.ne_of_lt (Nat.lt_of_lt_of_le (Heap.lt_size e) I.ok.above))).trans (I.base.keep b o e n hb hx)
 ·obtain⟨sl,e1⟩:=I.base.slot b o e n hb hx
  exact⟨sl,(hs.2 b (Nat.ne_of_lt (Nat.lt_of_lt_of_le (Heap.lt_size e) I.ok.above))).trans e1⟩
 ·obtain⟨o',e1⟩:=I.base.there b o e hx
  exact⟨o',(hs.2 b (Nat.ne_of_lt (Nat.lt_of_lt_of_le (Heap.lt_size e) I.ok.above))).trans e1⟩
 ·by_cases hj:j=i
  ·subst hj
   rw [List.getElem?_set_self hiσ] at e2
   cases e2
  ·rw [List.getElem?_set_ne (Ne.symm hj)] at e2
   obtain⟨u',r',q⟩:=hl j y v' e1 e2 e3
   refine⟨u',r',?_⟩
   rcases q with ⟨k,e⟩ | ⟨k,c,e,z⟩
   ·refine .inl ⟨k,?_⟩
    have:y≠x:=fun e=>hj (zec hN e1 (e ▸ hi))
    simp [this,e]
   ·exact .inr ⟨k,c,e,z.sameBut hs (cne y c e)⟩
 ·obtain⟨w',z⟩:=I.cell y c e
  exact⟨w',z.sameBut hs (cne y c e)⟩
 ·obtain⟨e,n,ne,nf,d⟩:=I.pin p hp
  exact⟨(hs.2 p.1 ne).trans e,n,ne,nf,d⟩
 ·refine (I.hok b ob e).stay (fun c w' hc q=>(hs.2 c ?_).trans q) (fun _ q=>q) fun _ _ q=>q
  rintro rfl
  rcases hc with rfl | hc
  ·rw [I.free] at e; cases e
  ·rw [I.free] at hc; cases hc
theorem Inv.trackX {a:Addr} {o:HO} (I:Inv X pins σ H s) (hn:H a=none) (h0:X.s₀.heap.get? a=none) (hL:a≠X.env.locals) (hc:∀ x c,X.env.cells.lookup x=some c→c≠a) (hp:∀ p∈X.pn++pins,p.1≠a) (new:zab X.prog X.w (upd H a o) s.heap a o) :
  Inv X pins σ (upd H a o) s:=by
 have hok:HOk X.prog X.w (upd H a o) s.heap:=fun b u e=>by
  by_cases hb:b=a
  ·subst hb
   rw [zc] at e
   cases e
   exact new
  ·rw [zl hb] at e
   exact (I.hok b u e).stay (fun c v _ q=>q) (fun c q=>by rw [zl (zq q hn)]; exact q) fun c xs q=>by rw [zl (zq q hn)]; exact q
 refine⟨I.ok,I.os,I.bare,⟨I.base.keep,I.base.slot,fun b u e n hx=>?_,I.base.there,fun b xs e=>?_,fun b u xs e=>?_,fun b ps e=>?_⟩,I.loc,I.cell,?_,fun x c e=>?_,fun p hpp=>?_,hok,I.len⟩
 ·rw [zl (fun z=>by rw [z,h0] at e; cases e)]
  exact I.base.free b u e n hx
 ·have:=I.base.tups b xs e
  rw [zl (zq this hn)]; exact this
 ·have:=I.base.frzs b u xs e
  rw [zl (zq this hn)]; exact this
 ·obtain⟨m1,this⟩:=I.base.tbls b ps e
  exact⟨m1,by rw [zl (zq this hn)]; exact this⟩
 ·rw [zl (Ne.symm hL)]; exact I.free
 ·rw [zl (hc x c e)]; exact I.freeC x c e
 ·obtain⟨e,n,ne,nf,d⟩:=I.pin p hpp
  exact⟨e,by rw [zl (hp p hpp)]; exact n,ne,nf,d⟩
end
abbrev Cx.inExc (X:Cx) (e:Addr):Cx:={ X with A:=X.A.mark (some (.ref e)),calm:=false,xe:=fun _ _=>False }
section
variable {X:Cx} {pins:List (Addr×Obj)} {σ:St} {H:Hp} {s:Shared} {e:Addr}
theorem Cx.Ok.inExc (ok:X.Ok) (e:Addr):(X.inExc e).Ok :=
 ⟨ok.mod,ok.kind,ok.glob,ok.blt,ok.above,ok.inj,ok.has,ok.cab,fun z=>(by cases z),ok.frames,ok.stk,ok.exf,ok.bs,ok.bsz,ok.noex,ok.exfs,ok.funs,ok.frf⟩
theorem Inv.inExc (I:Inv X pins σ H s) (e:Addr):Inv (X.inExc e) pins σ H s:=⟨I.ok.inExc e,I.os,I.bare,I.base,I.loc,I.cell,I.free,I.freeC,I.pin,I.hok,I.len⟩
theorem Inv.outExc (I:Inv (X.inExc e) pins σ H s) (ok:X.Ok):Inv X pins σ H s:=⟨ok,I.os,I.bare,I.base,I.loc,I.cell,I.free,I.freeC,I.pin,I.hok,I.len⟩
theorem zgA {M:Model} {A:Around} {E:Value→Shared→Prop} {h:Heap} {g:Array GenState} {d:Drawn} {tk:Nat} {os:OsState} {K:PySem.W.Frag} {C S:Addr} {Q:Bool→Shared→Prop} (X:K.In h) (he:∃ o,h.get? e=some o∧o.cls = .ref C) (hk:PySem.W.kitCls K (.ref C) (.ref S)=some true)
  (hs:PySem.W.mroIn K S (.type "BaseException")=some true) (q:Q true ⟨h,g,d,tk,os⟩):wpAny M A (excMatches (.ref e) (.ref S)) Q E ⟨h,g,d,tk,os⟩:=by
 obtain⟨l1,l2,l3⟩:=PySem.W.kit_cls (M:=M) X hk
 unfold excMatches isInstance
 refine wpAny_bind (wpAny_bind (l1.at ?_))
 rw [tc_notTuple]
 refine wpAny_pure (wpAny_ite_false rfl (wpAny_bind (wpAny_pure ?_)))
 dsimp only
 (simp only [List.forIn_cons,List.forIn_nil])
 refine wpAny_bind (wpAny_bind (wpAny_bind ?_))
 unfold isExcClass
 refine wpAny_bind (l2.at (wpAny_ite_true rfl ((PySem.W.looks_mroIn X hs).at ?_)))
 refine wpAny_ite_false rfl (wpAny_pure (wpAny_pure ?_))
 refine wpAny_bind ((zes he M).at ?_)
 refine wpAny_bind (wpAny_bind (wpAny_bind (l3.at (wpAny_ite_true rfl (wpAny_pure (wpAny_pure ?_))))))
 exact wpAny_pure q
end
end L2
end
section
set_option maxHeartbeats 4000000
namespace L2
open PySem PySem.Spec PyProof.Rows
def Ends.but (D:Ends) (i:Nat):Ends:={ nx:=fun σ H=>D.nx (σ.set i none) H,rt:=D.rt,bk:=fun σ H=>D.bk (σ.set i none) H,ct:=fun σ H=>D.ct (σ.set i none) H }
def zoe (K:PySem.W.Frag) (S:Addr) (i:Nat) (tb:XK→TS) (th:TS):TS:=fun D σ H =>
 tb (fun cls _ H'=>∃ C,cls = .ref C∧PySem.W.kitCls K (.ref C) (.ref S)=some true∧∀ e,H' e=none→th (D.but i) (σ.set i (some (.ref e))) (upd H' e (zjY e C))) D σ H
section
variable {X:Cx} {x n:Str} {S:Addr} {i:Nat} {body suite:List Stmt} {b₀:Stmt} {tb:XK→TS} {th:TS} {np hpos pos:Pos}
theorem zmU (hex:X.ex = []) (hstk:X.stack=X.env :: X.outer) (hfr:X.env.frame=some X.env.locals) (hg:Gl X x) (hm:X.mg x=some (.ref S)) (hS:PySem.W.mroIn X.K S (.type "BaseException")=some true)
  (hN:X.N.Nodup) (hi:X.N[i]? = some n) (hk:X.env.scope.names.lookup n=some .local)
  (hb:∀ (xe:Value→Shared→Prop) (pins:List (Addr×Obj)) (σ:St) (E:XK),zeu (CX1 X.prog X.w) (X.wish xe) pins σ E→zme (X.wish xe) pins σ body (tb E))
  (hh:∀ e:Addr,PSs (X.inExc e) (b₀ :: suite) th) (hd:(x == ("__debug__" : Str))=false:=by decide) :
  PS X (.Try body [.ExceptHandler (some (.Name x np)) (some n) (b₀ :: suite) hpos] [] [] pos) (zoe X.K S i tb th):=by
 intro pins s σ H D I h
 refine wpAny_Try_except ?_
 refine wpAny_mono (hb (fun ev s1=>wpAny (model X.prog X.w) X.A (noteFrame ev X.env) (fun _ s₂=>wpAny (model X.prog X.w) X.A (setFlight ev none) (fun _ s₃=>wpAny (model X.prog X.w) X.A (handleBy ev X.env [ExceptHandler.ExceptHandler (some (Expr.Name x np)) (some n) (b₀ :: suite) hpos]) (SP X pins D) X.xe s₃) X.xe s₂) X.xe s1) pins σ _ ?_ s H D (I.wish _) h) (fun f s1 q=>?_) fun ev s1 z=>z
 ·
  intro H1 s1 ev s2 I1 hq
  have I1:=I1.unwish
  obtain⟨e,C,H',B,rfl,os,bare,L,C',hC,hcl,q⟩:=hq
  cases hC
  obtain⟨t,fl⟩:=L.fly
  have frs_free:∀ b∈frs X.stack,H1 b=none:=I1.stkFree
  show wpAny _ _ (noteFrame _ _) _ _ _
  have fl0:B.FlyingW (X.env :: X.outer) e (.ref C) t s2.heap:=by rw [← hstk]; exact fl
  refine wpAny_looks_onW (base:=B) (outer:=X.outer) (by rw [← hstk]; exact I1.ok.frames) hfr fl0 fun h2 held u2=>?_
  refine wpAny_landsW held fun h3 fl3 u3=>?_
  have st3:∀ (h4:Heap),B.FlyingW (X.env :: X.outer) e (.ref C) t h4→s2.heap.UpToSlots h4→∀ (tk:Nat),Inv X pins σ H' ⟨h4,s2.gens,s2.drawn,tk,s2.os⟩:=by
   intro h4 fl4 u4 tk
   refine I1.call' (s':=⟨h4,s2.gens,s2.drawn,tk,s2.os⟩) (ch:=[]) os ?_ (L.hok.kept fl4.1) bare (fun b z=>absurd z (by simp))
   have U:=L.un frs_free
   refine⟨fun b o z nn hb _=>fl4.1 _ _ (L.keep b o z nn hb),fun b o z nn hb _=>?_,U.free,fun b o z _=>?_,L.tups,L.frzs,L.tbls⟩
   ·obtain⟨sl,z1⟩:=L.slot b o z nn hb
    obtain⟨_,ob,zo,nd⟩:=I1.stack.mem hb
    rw [z] at zo
    cases zo
    obtain⟨sl2,z2⟩:=u4 b _ z1 nd
    exact⟨sl2,z2⟩
   ·by_cases hb:b∈frs X.stack
    ·obtain⟨sl,z1⟩:=L.slot b o z (frs_free b hb) hb
     obtain⟨_,ob,zo,nd⟩:=I1.stack.mem hb
     rw [z] at zo
     cases zo
     obtain⟨sl2,z2⟩:=u4 b _ z1 nd
     exact⟨_,z2⟩
    ·obtain⟨o',z1⟩:=L.there b o z hb
     exact⟨o',fl4.1 _ _ z1⟩
  have I3:=st3 h3 fl3 (u2.trans u3) s2.toks
  refine wpAny_handleBy_cons (codeAny_handlers_test ?_) (by intro z; cases z)
  refine zcy (X:=X.inExc e) (I3.inExc e) hg hm ?_ hd
  refine zgA I3.kIn fl3.there hcl hS ?_
  rw [if_pos rfl]
  (refine codeAny_handlers_suite_as ?_)
  refine PyProof.Rows.lands_againW fl3 fun h4 fl4 u4=>?_
  have I4:=st3 h4 fl4 ((u2.trans u3).trans u4) s2.toks
  have ne:H' e=none:=L.fresh
  have e0:X.s₀.heap.get? e=none:=by
   cases z:X.s₀.heap.get? e with
   | none=>rfl
   | some o =>
    obtain⟨o',z'⟩:=I1.base.there e o z (by rw [hex]; simp)
    rw [L.new] at z'; cases z'
  have I5:Inv X pins σ (upd H' e (zjY e C)) ⟨h4,s2.gens,s2.drawn,s2.toks,s2.os⟩:=by
   refine I4.trackX ne e0 (fun z=>?_) (fun y c hc z=>?_) (fun p hp z=>?_) ?_
   ·obtain⟨m,⟨o,_,_,ho,_⟩,_⟩:=I1.loc
    rw [← z,L.new] at ho
    cases ho
   ·obtain⟨v,o,ho,_⟩:=I1.cell y c hc
    rw [z,L.new] at ho
    cases ho
   ·have:=(I1.pin p hp).1
    rw [z,L.new] at this
    cases this
   ·obtain⟨ob,ho,hcls⟩:=fl4.there
    exact⟨⟨ob,ho,hcls⟩,⟨ob,ho⟩,fun h1 h2 ⟨o,z,c⟩ k=>⟨o,k o z,c⟩⟩
  refine zbM (X:=X.inExc e) (v:=.ref e) (I5.inExc e) hN hi (.inl hk) rfl (fun s6 I6=>?_) (.inr hk)
  refine wpAny_mono (hh e pins s6 _ _ (D.but i) I6 (q e ne)) (fun f s7 q7=>?_) fun _ _ z=>z.elim
  have fin:∀ {σ':St} {H7:Hp} {R:Shared→Prop},Inv (X.inExc e) pins σ' H7 s7→(∀ s8,Inv X pins (σ'.set i none) H7 s8→R s8)→wpAny (model X.prog X.w) X.A (do bindName X.env n Value.none; unbindBehindTheSuite X.env n hpos) (fun _ s8=>R s8) X.xe s7:=by
   intro σ' H7 R I7 hR
   have I7:=I7.outExc I.ok
   refine wpAny_bind (wpAny_bindName (zbM (v:=.non) I7 hN hi (.inl hk) rfl (fun s8 I8=>?_) (.inr hk)))
   unfold unbindBehindTheSuite
   refine wpAny_onRaise ?_
   have hil:i < σ'.length:=by rw [I7.len]; exact (List.getElem?_eq_some_iff.mp hi).1
   refine ziM (v:=.non) I8 hN hi hk (by rw [List.getElem?_set_self hil]) fun s9 I9=>hR s9 ?_
   rw [List.set_set] at I9
   exact I9
  cases f with
  | next =>
   obtain⟨σ',H7,I7,q8⟩:=q7
   exact fin I7 fun s8 I8=>⟨_,_,I8,q8⟩
  | brk =>
   obtain⟨σ',H7,I7,q8⟩:=q7
   exact fin I7 fun s8 I8=>⟨_,_,I8,q8⟩
  | cont =>
   obtain⟨σ',H7,I7,q8⟩:=q7
   exact fin I7 fun s8 I8=>⟨_,_,I8,q8⟩
  | ret v =>
   obtain⟨u,σ',H7,I7,r,q8⟩:=q7
   exact fin I7 fun s8 I8=>⟨u,_,_,I8,r,q8⟩
 ·cases f with
  | next=>exact wpAny_execs_nil (SP.unwish q)
  | ret v=>exact SP.unwish q
  | brk=>exact SP.unwish q
  | cont=>exact SP.unwish q
end
end L2
end
section
set_option maxHeartbeats 4000000
namespace L2
open PySem PySem.Spec PyProof.Rows
structure RoomH (k:Nat) (A:Around):Prop where
 dp:A.depth+3*k+5 < recursionLimit
 un:A.units+16*k+200 < cLine
theorem RoomH.of {k:Nat} {A:Around} {e:Addr} (r:Room k A):RoomH k (A.mark (some (.ref e))):=⟨r.dp,r.un⟩
theorem RoomH.deeper {k:Nat} {A:Around} (r:RoomH (k+1) A) (env:Env):RoomH k (A.deeper env) :=
 ⟨by have:=r.dp; show A.depth+1+3*k+5 < _; omega,by have:=r.un; show A.units+3+16*k+200 < _; omega⟩
structure FnOkH (P:Program) (w:World) (K:PySem.W.Frag) (mg:Str→Option Value) (base:Heap) (k:Nat) (f:Addr) (fd:FuncData) (ps:List Str) (sp:Sp):Prop where
 len:∀ vs H Q E,sp vs H Q E→vs.length=ps.length
 run:∀ (A:Around) (outer:List Env) (s:Shared) (H:Hp) (args:Args) (us:List Value) (vs:List V) (Q:VK) (E:XK),RoomH k A→Env0 P w K mg base A outer s H→BindsTo s fd args (ps.zip us)→zK vs us→sp vs H Q E →
  codeAny (model P w) A (.call (.ref f) args) (CR CX0 outer P w H s Q E) s
abbrev cxH (P:Program) (w:World) (K:PySem.W.Frag) (mg:Str→Option Value) (base:Heap) (N:List Str) (qual:Str) (scope:Scope) (f:Addr) (cd:Value) (A:Around) (outer:List Env) (s:Shared) (H:Hp) (E:XK):Cx :=
 { zby CX0 P w K mg base N qual scope f cd A outer s H E with calm:=false,xe:=fun _ _=>False }
section
variable {P:Program} {w:World} {K:PySem.W.Frag} {mg:Str→Option Value} {base:Heap}
theorem zmV {k:Nat} {f:Addr} {name qual:Str} {params:Arguments} {body:List Stmt} {scope:Scope} {dV kV doc pm cdv ct oc:Value} {an od:Option Addr}
  {osl:Array (Option Value)} {N ps:List Str} {sp:Sp} (lk:K.lookup f=some ⟨oc,od,.func (PySem.W.fnOf name qual params body scope dV kV doc pm an cdv ct),osl⟩) (hcd:PySem.W.codeIn K cdv qual=true) (S:FnScope N ps scope)
  (len:∀ vs H Q E,sp vs H Q E→vs.length=ps.length)
  (hbody:∀ (A:Around) (outer:List Env) (s:Shared) (H:Hp) (vs:List V) (Q:VK) (E:XK),RoomH k (A.deeper (envOfC qual scope s.heap.objs.size f cdv))→sp vs H Q E →
   ∃ t,PSs (cxH P w K mg base N qual scope f cdv A outer s H E) body t∧t { nx:=fun _ H'=>Q .non H',rt:=Q } (start N vs) H) :
  FnOkH P w K mg base (k+1) f (PySem.W.fnOf name qual params body scope dV kV doc pm an cdv ct) ps sp:=by
 refine⟨len,fun A outer s H args us vs Q E hr e0 hb r hsp=>?_⟩
 have hl:=len _ _ _ _ hsp
 have KX:K.In s.heap:=e0.mod.kin.keeps fun b o e=>(e0.bs b o e).1
 have lim:s.heap.NoLimit:=e0.mod.nolimit.keeps fun b o e=>(e0.bs b o e).1
 have hkind:∀ y∈ps.zip us,scope.names.lookup y.1=some .local∨(scope.names.lookup y.1=some .cell∧((cellsFrom (s.heap.objs.size+1) scope.names []).lookup y.1).isSome=true):=fun ⟨n,v⟩ hy=>by
  rcases S.par n (List.of_mem_zip hy).1 with q | q
  ·exact .inl q
  ·exact .inr ⟨q,PySem.W.cellsFrom_some _ _ _ (.inl q)⟩
 refine codeAny_call_function (by have:=hr.dp; omega) (KX _ _ lk) rfl S.co S.gen rfl (PySem.W.codeRec_of KX hcd) (hb _ _ _ _ ?_)
 refine wpAny_newFunctionEnv_cells S.kind hkind fun env he s1 x=>?_
 subst he
 refine⟨lim.keeps x.toInCall.keep,codeAny_func ?_⟩
 obtain⟨t,ht,hq⟩:=hbody A outer s H vs Q E (hr.deeper _) hsp
 have e1:Env0 P w K mg base { A with handled:=none } outer s H:=⟨e0.frames,e0.mod,e0.bs,e0.bsz,e0.funs,e0.frf,e0.hok,e0.bare⟩
 have I0:Inv (zby CX0 P w K mg base N qual scope f cdv { A with handled:=none } outer s H E) [] (start N vs) H s1:=zfc S rfl e1 hl r x
 have I:Inv (cxH P w K mg base N qual scope f cdv A outer s H E) [] (start N vs) H s1 :=
  ⟨⟨I0.ok.mod,I0.ok.kind,I0.ok.glob,I0.ok.blt,I0.ok.above,I0.ok.inj,I0.ok.has,I0.ok.cab,fun z=>(by cases z),I0.ok.frames,I0.ok.stk,I0.ok.exf,I0.ok.bs,I0.ok.bsz,I0.ok.noex,I0.ok.exfs,I0.ok.funs,I0.ok.frf⟩,I0.os,I0.bare,I0.base,I0.loc,I0.cell,I0.free,I0.freeC,I0.pin,I0.hok,I0.len⟩
 refine wpAny_mono (ht [] s1 (start N vs) H _ I hq) (fun fl s' hs=>?_) fun e s' hs=>hs.elim
 have fin:∀ {σ':St} {H':Hp} {v:V} {u:Value},Inv (cxH P w K mg base N qual scope f cdv A outer s H E) [] σ' H' s'→RelV v u→Q v H'→CE outer P w H s Q u s' :=
  fun {σ' H' v u} J rv q=>⟨v,H',J.os,J.bare,J.base,J.hok,rv,q⟩
 cases fl with
 | ret u =>
  obtain⟨v,σ',H',J,rv,q⟩:=hs
  exact fin J rv q
 | next =>
  obtain⟨σ',H',J,q⟩:=hs
  exact fin (v:=V.non) (u:=Value.none) J rfl q
 | brk =>
  obtain⟨_,_,_,q⟩:=hs
  exact False.elim q
 | cont =>
  obtain⟨_,_,_,q⟩:=hs
  exact False.elim q
theorem Fun.okH {x qual:Str} {st:Stmt} {f:Addr} {fd:FuncData} {N ps:List Str} {k:Nat} {sp:Sp} (F:Fun K x qual st f fd) (S:FnScope N ps (zh st)) (len:∀ vs H Q E,sp vs H Q E→vs.length=ps.length)
  (hbody:∀ (cdv:Value) (A:Around) (outer:List Env) (s:Shared) (H:Hp) (vs:List V) (Q:VK) (E:XK),RoomH k (A.deeper (envOfC qual (zh st) s.heap.objs.size f cdv))→sp vs H Q E →
   ∃ t,PSs (cxH P w K mg base N qual (zh st) f cdv A outer s H E) (za5 st) t∧t { nx:=fun _ H'=>Q .non H',rt:=Q } (start N vs) H):FnOkH P w K mg base (k+1) f fd ps sp:=by
 obtain⟨oc,od,kV,doc,pm,an,cdv,ct,osl,rfl,lk,hcd⟩:=F.ex
 exact zmV lk hcd S len fun A outer s H vs Q E hr hsp=>hbody cdv A outer s H vs Q E hr hsp
end
section
variable {X:Cx} {k:Nat} {f:Addr} {fd:FuncData} {ps:List Str} {sp:Sp} {x:Str} {p pos:Pos} {e:Expr} {es:List Expr} {t:TA}
theorem zj0 (F:FnOkH X.prog X.w X.K X.mg X.base k f fd ps sp) (hr:RoomH k X.A) (hg:Gl X x) (hm:X.mg x=some (.ref f)) (hk:PySem.W.keepIn X.K (.ref f)=true) (hb:Binds X.K fd ps [])
  (ha:PA X (e :: es) t) (hdb:(x == ("__debug__" : Str))=false:=by decide) (he:starEach (e :: es) X.env=(false,eval e X.env) :: starEach es X.env:=by rfl) (hpl:(backTo pos (starEach es X.env)).any (·.1)=false:=by rfl) :
  PE X (.Call (.Name x p) (e :: es) [] pos) (zjz sp [] E0 t):=by
 intro pins s σ H Q I h
 refine wpAny_Call_Name_kw (zcy I hg hm ?_ hdb)
 refine PySem.W.callWith_K (h₀:=X.base) I.ok.mod.kin hk (thn (ha pos pins s σ H _ I h) fun us s1 ⟨vs,H1,I1,r,q⟩=>⟨I1.kIn,?_⟩) he hpl
 have r2:zK (vs++[]) (us++[]):=r.append .nil
 have hl:(us++[]).length=ps.length:=by rw [← r2.length]; exact F.len _ _ _ _ q
 refine wpAny_call (codeAny_mono (F.run X.A X.stack s1 H1 ⟨us,[]⟩ (us++[]) (vs++[]) Q E0 hr I1.env0 (hb s1 us I1.kIn hl) r2 q) fun r s' hq=>?_)
 cases r with
 | error e=>exact hq.elim
 | ok fl =>
  cases fl with
  | ret u=>exact I1.after hq
  | next=>exact False.elim hq
  | brk=>exact False.elim hq
  | cont=>exact False.elim hq
end
end L2
end
section
set_option maxHeartbeats 4000000
namespace L2
open PySem PySem.Spec PyProof.Rows
theorem zcU:∀ {bs:List Bool} {us:List Value},zK (bs.map V.bl) us→us=bs.map Value.bool
 | [],_,r=>by cases r; rfl
 | b :: bs,_,r=>by
  cases r with
  | cons r1 r2 =>
   rw [zcU r2]
   cases r1
   rfl
theorem zdI {h:Heap}:∀ (bs:List Bool),∃ as,ReadsAll h (bs.map Value.bool) (bs.map PyData.bool) as
 | []=>⟨_,.nil⟩
 | b :: bs=>by
  obtain⟨as,r⟩:=zdI (h:=h) bs
  exact⟨_,.cons (by constructor) r⟩
theorem zdJ:∀ (bs:List Bool),(bs.map PyData.bool).all Spec.Shape.bool.has=true
 | []=>rfl
 | _ :: bs=>by
  rw [List.map_cons,List.all_cons,zdJ bs]
  rfl
theorem zgB {bs:List Bool} (k:Bool) (y:Value) (hy:y∈bs.map Value.bool) (A:Around) (s:Shared):SeqAt.EqAt A s y (.bool k) (isBoolOf k y):=by
 obtain⟨as,r⟩:=zdI (h:=s.heap) bs
 exact eq_isBoolOf k r (zdJ bs) y hy A s
theorem zdb (k:Bool):∀ bs:List Bool,List.countP (isBoolOf k) (bs.map Value.bool)=bs.count k
 | []=>rfl
 | b :: bs=>by
  rw [List.map_cons,List.countP_cons,List.count_cons,zdb k bs]
  rfl
section
variable {X:Cx}
def zlk:V→List V→Hp→VK→Prop:=fun x vs H Q=>∃ (l:Addr) (bs:List Bool) (k:Bool),x = .ref l∧vs = [.bl k]∧H l=some (.lst (bs.map V.bl))∧Q (.int ((bs.count k:Nat):Int)) H
theorem ziN:MtM X "list.count" zlk:=by
 intro pins s σ H x vs v us Q I rx rv h
 obtain⟨l,bs,k,rfl,rfl,hH,q⟩:=h
 cases rx
 obtain⟨u,rfl,ru⟩:=rv.one
 cases ru
 obtain⟨z,its,n,r,hl,e⟩:=I.lstM hH
 have hi:=zcU r
 subst hi
 refine call_meets F.slot_list_count ⟨_,e,rfl⟩ F.entry_list_count (F.args_list_count_2 _ _) (SeqAt.list_countAt l _ n _ _ (.bool k) (isBoolOf k)) ⟨e,fun y hy=>zgB (bs:=bs) k y (by simpa using hy) _ _,?_⟩
 rw [List.toList_toArray,zdb]
 exact⟨.int ((bs.count k:Nat):Int),H,I.tok _,⟨_,rfl⟩,q⟩
def zll:V→List V→Hp→VK→Prop:=fun x vs H Q=>∃ (l:Addr) (bs:List Bool) (k:Bool) (j:Nat),x = .ref l∧vs = [.bl k]∧H l=some (.lst (bs.map V.bl))∧bs[j]? = some k∧(∀ m,m < j→bs[m]? = some (!k))∧j < 1000∧Q (.int (j:Int)) H
theorem ziO:MtM X "list.index" zll:=by
 intro pins s σ H x vs v us Q I rx rv h
 obtain⟨l,bs,k,j,rfl,rfl,hH,hj,hm,h1000,q⟩:=h
 cases rx
 obtain⟨u,rfl,ru⟩:=rv.one
 cases ru
 obtain⟨z,its,n,r,hl,e⟩:=I.lstM hH
 have hi:=zcU r
 subst hi
 obtain⟨hjl,hje⟩:=List.getElem?_eq_some_iff.mp hj
 refine call_meets F.slot_list_index ⟨_,e,rfl⟩ F.entry_list_index (F.args_list_index_2 _ _) (SeqAt.list_indexAt l _ n _ _ (.bool k) (isBoolOf k) j (by simpa using hjl) (by omega) ?_ ?_) ⟨e,fun y hy=>zgB (bs:=bs) k y (by simpa using hy) _ _,?_⟩
 ·simp [isBoolOf,hje]
 ·intro m h1 h2
  have:=hm m h2
  obtain⟨_,hme⟩:=List.getElem?_eq_some_iff.mp this
  simp [isBoolOf,hme]
 ·exact⟨.int (j:Int),H,I.tok _,⟨_,rfl⟩,q⟩
end
def ziP (hi:Int) (n:Nat):It:=⟨fun i _=>i < n,fun i H x H'=>H'=H∧x = .int (hi - i),fun i _=>n≤i⟩
theorem zgC {P:Program} {w:World} {K:PySem.W.Frag} {tg:Expr} (it:Addr) (lo:Int) (n:Nat):Turn P w K tg (ziP lo n) [it] it (fun i h=>IsRangeIter h it (lo+(i:Nat)*(-1)) ((n:Int) - (i:Nat)) (-1)) where
 mem:=by simp
 obj:=fun i h st b hb=>by
  have e:b=it:=by simpa using hb
  subst e
  exact⟨_,st,fun v z=>by
   have z':Data.fields _=Data.cell v:=z
   cases z'⟩
 keep:=fun i h h' st k=>k it (by simp) _ st
 item:=by
  intro X hP hw hK hc i pins s σ H E I hf st hg
  subst hP hw hK
  obtain⟨f0,f1,f2,f3,f4,f5⟩:=hf it (by simp)
  have W:=Walks.range (prog:=X.prog) (w:=X.w) (I.ok.hd hc) it lo (-1) n
  refine W.item i s _ _ hg st fun v h' tk hv st' kk=>?_
  obtain⟨t,rfl⟩:=hv
  have I1:Inv X pins σ H { s with heap:=h',toks:=tk }:=I.turned (fun b o hb e=>kk b o (by simpa using hb) e) f0 f1 f3 f4 f5
  refine⟨_,rfl,zgf (s:={ s with heap:=h',toks:=tk }) (n:="range_iterator") st' rfl rfl (by decide) ⟨.int (lo - i),H,I1,⟨t,?_⟩,⟨rfl,rfl⟩,st',fun b hb=>(hf b hb).1⟩⟩
  rw [show lo+(i:Int)*(-1)=lo - i by omega]
 done:=by
  intro X hP hw hK hc i pins s σ H E I hf st hg
  subst hP hw hK
  obtain⟨f0,f1,f2,f3,f4,f5⟩:=hf it (by simp)
  exact wpAny_pyNext_range_end (I.ok.hd hc) st (by have:n≤i:=hg; omega) fun h' eb=>⟨rfl,I.turned (t':=s.toks) (fun b o hb e=>eb b o hb e) f0 f1 f3 f4 f5⟩
 self:=fun _ _ _ _ _ st h=>wpAny_pyIter_rangeiter st h
section
variable {X:Cx} {tg:Expr}
theorem zht {hi:Int} {n:Nat} {g:TG} {tb:TS} {D:Ends} {σ:St} {H:Hp} (Pv:Nat→St→Hp→Prop) (h0:Pv 0 σ H)
  (hs:∀ i σ H,i < n→Pv i σ H→g (.int (hi - i)) σ H fun σ2 H2=>tb { D with nx:=Pv (i+1),ct:=Pv (i+1),bk:=D.nx } σ2 H2) (hd:∀ σ H,Pv n σ H→D.nx σ H) :
  ∃ W:Nat→Nat→St→Hp→Prop,(∃ m,W 0 m σ H)∧∀ i m σ H,W i m σ H →
   ((ziP hi n).stop i H∧D.nx σ H)∨((ziP hi n).go i H∧∃ N:St→Hp→Prop,(∀ σ' H',N σ' H'→∃ m',m' < m∧W (i+1) m' σ' H')∧∀ x H',(ziP hi n).yld i H x H'→g x σ H' fun σ2 H2=>tb { D with nx:=N,ct:=N,bk:=D.nx } σ2 H2):=by
 refine⟨fun i m σ H=>m=n - i∧i≤n∧Pv i σ H,⟨n,by simp,Nat.zero_le _,h0⟩,?_⟩
 rintro i m σ H ⟨rfl,hi,p⟩
 by_cases hlt:i < n
 ·refine .inr ⟨hlt,Pv (i+1),fun σ' H' p'=>⟨n - (i+1),by omega,rfl,hlt,p'⟩,fun x H' y=>?_⟩
  obtain⟨e,y⟩:=y
  subst e y
  exact hs i σ _ hlt p
 ·have e:i=n:=by omega
  subst e
  exact .inl ⟨Nat.le_refl _,hd σ H p⟩
end
def strsOf:List Expr→Option (List Str)
 | []=>some []
 | .Constant (.str i) _ _ :: r=>(strsOf r).map (i :: ·)
 | _=>none
def zgD (ns:List Str):TA:=fun _ H Q=>Q (ns.map V.str) H
theorem zlm {X:Cx}:∀ (es:List Expr) (ns:List Str),strsOf es=some ns→PA X es (zgD ns):=by
 intro es
 induction es with
 | nil =>
  intro ns h
  have e:ns = []:=(Option.some.inj h).symm
  subst e
  exact zd
 | cons e r ih =>
  intro ns h
  unfold strsOf at h
  split at h
  ·rename_i heq
   cases heq
  ·rename_i i j p r' heq
   injection heq with e1 e2
   subst e1 e2
   cases hr:strsOf r with
   | none=>rw [hr] at h; cases h
   | some ms =>
    rw [hr] at h
    have e:i :: ms=ns:=Option.some.inj h
    subst e
    exact za zdu (ih ms hr)
  ·cases h
theorem zj1 {X:Cx} {i:Nat} {x:Str} {pos' pos2 spos:Pos} {rest:List Stmt} {u:TS} {es:List Expr} {ns:List Str} (h:strsOf es=some ns) (hN:X.N.Nodup) (hi:X.N[i]? = some x) (hx:Loc X.env.scope x)
  (hf:X.fn x=true∨X.env.scope.names.lookup x=some .local) (hr:PSs X rest u):PSs X (.Assign [.Name x pos'] (.List es pos2) spos :: rest) (zmw (zfw (zhb (zgD ns)) (za1 i)) u):=by
 have h1:PE X (.List es pos2) (zhb (zgD ns)):=@zY X es (zgD ns) pos2 (@zlm X es ns h)
 have h2:PS X (.Assign [.Name x pos'] (.List es pos2) spos) (zfw (zhb (zgD ns)) (za1 i)):=zm hN hi hx h1 (by rfl) hf
 exact ze h2 hr
end L2
end
section
set_option maxHeartbeats 4000000
namespace L2
open PySem PySem.Spec PyProof.Rows
section
variable {κ:Type} [DecidableEq κ]
def zcV (kvs:List (κ×V)) (k:κ):Option V:=(kvs.find? fun kv=>decide (kv.1=k)).map (·.2)
def putK (kvs:List (κ×V)) (k:κ) (v:V):List (κ×V) :=
 if (kvs.any fun kv=>decide (kv.1=k))=true then kvs.map (fun kv=>if kv.1=k then (kv.1,v) else kv) else kvs++[(k,v)]
theorem zew {p:κ×V} {r:List (κ×V)} {k:κ} (e:p.1=k):zcV (p :: r) k=some p.2:=by simp [zcV,List.find?_cons,e]
theorem zex {p:κ×V} {r:List (κ×V)} {k:κ} (e:¬ p.1=k):zcV (p :: r) k=zcV r k:=by simp [zcV,List.find?_cons,e]
theorem zey (k:κ):∀ kvs:List (κ×V),(kvs.any fun kv=>decide (kv.1=k))=(zcV kvs k).isSome
 | []=>rfl
 | p :: r=>by
  rw [List.any_cons]
  by_cases e:p.1=k
  ·simp only [zew e,decide_eq_true e,Bool.true_or,Option.isSome_some]
  ·rw [zex e,decide_eq_false e,Bool.false_or]; exact zey k r
theorem zgE (kvs:List (κ×V)) (k:κ) (v:V):(putK kvs k v).length≤kvs.length+1:=by
 unfold putK
 split
 ·rw [List.length_map]; omega
 ·rw [List.length_append,List.length_cons,List.length_nil]; omega
theorem zj2 {kvs:List (κ×V)} {k:κ} (v:V) (h:zcV kvs k=none):putK kvs k v=kvs++[(k,v)]:=by
 unfold putK
 rw [zey,h]
 exact if_neg (by decide)
theorem zfs.isSome_eq {o:Option V} {u:Option Value} (r:zfs o u):o.isSome=u.isSome:=by
 cases o with
 | none=>cases u with
  | none=>rfl
  | some _=>exact (show False from r).elim
 | some _=>cases u with
  | none=>exact (show False from r).elim
  | some _=>rfl
theorem zfs.getD {o:Option V} {u:Option Value} {d:V} {d':Value} (r:zfs o u) (rd:RelV d d'):RelV (o.getD d) (u.getD d'):=by
 cases o with
 | none=>cases u with
  | none=>exact rd
  | some _=>exact (show False from r).elim
 | some _=>cases u with
  | none=>exact (show False from r).elim
  | some _=>exact r
theorem KV.val {kvs:List (κ×V)} {vs:List (κ×Value)} (r:KV kvs vs) (k:κ):zfs (zcV kvs k) (valueAt vs k):=by
 unfold KV at r
 induction r with
 | nil=>exact True.intro
 | @cons p q ps qs h t ih =>
  obtain⟨h1,h2⟩:=h
  by_cases e:p.1=k
  ·have e':q.1=k:=h1.symm.trans e
   have b:valueAt (q :: qs) k=some q.2:=by simp [valueAt,List.find?_cons,e']
   rw [zew e,b]; exact h2
  ·have e':¬ q.1=k:=fun z=>e (h1.trans z)
   have b:valueAt (q :: qs) k=valueAt qs k:=by simp [valueAt,List.find?_cons,e']
   rw [zex e,b]; exact ih
end
theorem zmf {P:Program} {w:World} {k:Key} {u:Value} (r:RelV (kV k) u):(zay P w).is k u=true:=by
 cases k with
 | inl i=>obtain⟨t,e⟩:=(show ∃ t,u=Value.int i t from r); subst e; exact zgd P w i t
 | inr x=>obtain⟨t,e⟩:=(show ∃ t,u=Value.str x t from r); subst e; exact zge P w x t
theorem zfj {P:Program} {w:World}:∀ {ks:List Key} {us:List Value},zK (ks.map kV) us→ItemsAre (zay P w) ks us
 | [],_,r=>by rw [List.map_nil] at r; cases r; exact .nil
 | k :: ks,_,r=>by
  rw [List.map_cons] at r
  cases r with
  | cons h t=>exact .cons (zmf h) (zfj t)
abbrev KT (H:Hp):List (List Key×V)→List (List Key×Addr×Value)→Prop:=Paired fun p q=>p.1=q.1∧H q.2.1=some (.tup (p.1.map kV))∧RelV p.2 q.2.2
theorem KT.val {H:Hp} {kvs:List (List Key×V)} {xs:List (List Key×Addr×Value)} (r:KT H kvs xs) (k:List Key):zfs (zcV kvs k) ((atKey xs k).map (·.2)):=by
 induction r with
 | nil=>exact True.intro
 | @cons p q ps qs h t ih =>
  obtain⟨h1,_,h2⟩:=h
  by_cases e:p.1=k
  ·have e':q.1=k:=h1.symm.trans e
   have b:atKey (q :: qs) k=some q.2:=by simp [atKey,List.find?_cons,e']
   rw [zew e,b]; exact h2
  ·have e':¬ q.1=k:=fun z=>e (h1.trans z)
   have b:atKey (q :: qs) k=atKey qs k:=by simp [atKey,List.find?_cons,e']
   rw [zex e,b]; exact ih
theorem KT.repl {H:Hp} {kvs:List (List Key×V)} {xs:List (List Key×Addr×Value)} (r:KT H kvs xs) (k:List Key) {y:V} {u:Value} (ry:RelV y u) :
  KT H (kvs.map fun kv=>if kv.1=k then (kv.1,y) else kv) (xs.map (putAt k u)):=by
 induction r with
 | nil=>exact .nil
 | @cons p q ps qs h t ih =>
  rw [List.map_cons,List.map_cons]
  refine .cons ?_ ih
  obtain⟨h1,h2,h3⟩:=h
  unfold putAt
  by_cases e:p.1=k
  ·rw [if_pos e,if_pos (h1.symm.trans e)]; exact⟨h1,h2,ry⟩
  ·rw [if_neg e,if_neg (fun z=>e (h1.trans z))]; exact⟨h1,h2,h3⟩
theorem KT.put {H:Hp} {kvs:List (List Key×V)} {xs:List (List Key×Addr×Value)} (r:KT H kvs xs) (k:List Key) {b:Addr} {y:V} {u:Value} (hb:H b=some (.tup (k.map kV))) (ry:RelV y u) :
  KT H (putK kvs k y) (storedH xs k b u):=by
 have e:(kvs.any fun kv=>decide (kv.1=k))=(atKey xs k).isSome:=by
  rw [zey,(r.val k).isSome_eq,Option.isSome_map]
 unfold putK storedH
 rw [e]
 by_cases q:(atKey xs k).isSome=true
 ·rw [if_pos q,if_pos q]; exact r.repl k ry
 ·rw [if_neg q,if_neg q]; exact Paired.snoc r ⟨rfl,hb,ry⟩
theorem KT.keeps {H H':Hp} {kvs:List (List Key×V)} {xs:List (List Key×Addr×Value)} (r:KT H kvs xs) (ht:∀ b ys,H b=some (.tup ys)→H' b=some (.tup ys)):KT H' kvs xs :=
 Paired.mapP r fun _ _ z=>⟨z.1,ht _ _ z.2.1,z.2.2⟩
section
variable {P:Program} {w:World} {H:Hp} {h:Heap} {a:Addr}
theorem zmg {u:HO} (ok:HOk P w H h) (e:Rd H a u):zab P w H h a u:=e.ok ok
theorem zmh {kvs:List (Key×V)} (ok:HOk P w H h) (e:Rd H a (.dK kvs)):kvs.length≤sizeLine∧(a == sysModules)=false∧∃ vs,KV kvs vs∧h.DictOf (zay P w) a vs :=
 show zab P w H h a (.dK kvs) from zmg ok e
theorem zhu {ks:List Key} (ok:HOk P w H h) (e:H a=some (.tup (ks.map kV))):(tupleKind (zay P w)).is h ks a:=by
 obtain⟨_,its,r,o,h1,h2,n,h3⟩:=(show zab P w H h a (.tup (ks.map kV)) from ok a _ e)
 exact⟨o,its.toArray,n,h1,h2,h3,by simpa using zfj r⟩
theorem zj3 {kvs:List (List Key×V)} (ok:HOk P w H h) (e:Rd H a (.dT kvs)):kvs.length≤sizeLine∧(a == sysModules)=false ∧
  ∃ xs,KT H kvs xs∧h.DictOfH (tupleKind (zay P w)) a xs:=by
 obtain⟨z,y,xs,r,o,es,ep,h1,h2,h3,h4,h5⟩:=(show zab P w H h a (.dT kvs) from zmg ok e)
 refine⟨z,y,xs,r,o,es,ep,h1,h2,h3,h4,fun x hx=>?_,h5⟩
 have all:∀ {l:List (List Key×V)} {m:List (List Key×Addr×Value)},KT H l m→∀ x∈m,(tupleKind (zay P w)).is h x.1 x.2.1:=by
  intro l m q
  induction q with
  | nil=>intro x hx; exact nomatch hx
  | @cons p q ps qs hq t ih =>
   intro x hx
   rcases List.mem_cons.mp hx with e | hx
   ·subst e
    exact zhu ok (by rw [← hq.1]; exact hq.2.1)
   ·exact ih x hx
 exact all r x hx
theorem znL {kvs:List (List Key×V)} (ok:HOk P w H h) (e:H a=some (.dT kvs)):kvs.length≤sizeLine∧(a == sysModules)=false ∧
  ∃ xs,KT H kvs xs∧h.DictOfH (tupleKind (zay P w)) a xs:=zj3 ok (.inl e)
end
def znM (H:Hp) (a:Addr) (y:V) (r:Option V):Prop :=
 (∃ kvs k,Rd H a (.dK kvs)∧y=kV k∧r=zcV kvs k)∨∃ kvs k b,Rd H a (.dT kvs)∧y = .ref b∧H b=some (.tup (k.map kV))∧r=zcV kvs k
section
variable {X:Cx} {pins:List (Addr×Obj)} {σ:St} {H:Hp} {s:Shared} {a:Addr} {y v:V} {u r:Value} {o:Option V} {A:Around} {E:Value→Shared→Prop}
theorem Inv.big (I:Inv X pins σ H s):sysModules < s.heap.objs.size:=by
 have h:mainGlobals < s.heap.objs.size:=(I.mod.glob.keeps I.bk).lt
 exact Nat.lt_trans (by decide) h
theorem zln {h':Heap} {t':Nat} {ob:HO} (I:Inv X pins σ H s) (mu:Mut (H a)) (hs:Heap.SameBut a s.heap h') (he:∃ q,h'.get? a=some q) (new:zab X.prog X.w (upd H a ob) h' a ob) :
  Inv X pins σ (upd H a ob) { s with heap:=h',toks:=t' } :=
 I.write (x:=a) (e:=a) mu (.inl rfl) (fun b q hb z=>(hs.2 b hb).trans z) he new
end
theorem zj4 {P:Program} {w:World} {H:Hp} (h:Heap) (hb:sysModules < h.objs.size):zab P w H (h.push { cls:=.type "dict",data:=.dict #[] }) h.objs.size (.dT []) :=
 ⟨Nat.zero_le _,beq_eq_false_iff_ne.mpr (Ne.symm (Nat.ne_of_lt hb)),[],.nil,_,#[],0,Heap.get?_push_size _ rfl,⟨rfl,rfl,rfl⟩,rfl,rfl,List.nodup_nil⟩
structure M2 (X:Cx) (o:Expr) (m:Str) (apos:Pos) (e f:Expr) (cpos:Pos):Prop where
 base:attributeBase o m X.env (eval o X.env)=eval o X.env
 few:((backTo cpos (starEach [e,f] X.env)).all (fun x=>!x.1) && (backToKw cpos (keywordEach [] X.env)).all (fun x=>x.1.isSome)
  && decide (([e,f]:List Expr).length+([]:List Keyword).length+(if ([]:List Keyword).isEmpty then 0 else 1) < 30))=true
 line:(apos.endLine == cpos.line)=true
 trees:backTo cpos (starEach [e,f] X.env) = [(false,eval e X.env),(false,eval f X.env)]
def IsD (H:Hp) (a:Addr):Prop:=(∃ kvs,Rd H a (.dK kvs))∨∃ kvs,Rd H a (.dT kvs)
theorem zmW {X:Cx} {pins:List (Addr×Obj)} {σ:St} {H:Hp} {s:Shared} {a:Addr} (I:Inv X pins σ H s) (d:IsD H a) :
  s.TypeIs (.ref a) "dict"∧(∀ b,Value.ref a = .ref b→∃ ob,s.heap.get? b=some ob∧ob.dict=none)∧(a == sysModules)=false:=by
 rcases d with ⟨kvs,e⟩ | ⟨kvs,e⟩
 ·obtain⟨_,hd,vs,_,dd⟩:=zmh I.hok e
  refine⟨dd.typeIs,fun b q=>?_,hd⟩
  cases q
  obtain⟨ob,_,_,h1,h2,_⟩:=dd
  exact⟨ob,h1,h2.2.1⟩
 ·obtain⟨_,hd,xs,_,dd⟩:=zj3 I.hok e
  refine⟨dd.typeIs,fun b q=>?_,hd⟩
  cases q
  obtain⟨ob,_,_,h1,h2,_⟩:=dd
  exact⟨ob,h1,h2.2.1⟩
section
variable {X:Cx} {pins:List (Addr×Obj)} {σ:St} {H:Hp} {s:Shared} {a:Addr} {y d:V} {u r:Value} {o:Option V} {A:Around} {E:Value→Shared→Prop}
theorem zmX {Q:Value→Shared→Prop} (hu:A.units+1 < cLine) (I:Inv X pins σ H s) (g:znM H a y o) (ry:RelV y u) (rd:RelV d r) (h:∀ w' s',Inv X pins σ H s'→RelV (o.getD d) w'→Q w' s') :
  wpAny (model X.prog X.w) A (call (.builtin "dict.get") [.ref a,u,r]) Q E s:=by
 rcases g with ⟨kvs,k,e,ey,l⟩ | ⟨kvs,k,b,e,ey,eb,l⟩
 ·subst ey
  obtain⟨z,hd,vs,rel,dd⟩:=zmh I.hok e
  refine call_meetsIn PySem.F.slot_dict_get dd.typeIs PySem.F.entry_dict_get (PySem.F.args_dict_get_3 _ _ _) (meets_dict_get_default (zay X.prog X.w) a (zmf ry) hd r) ⟨_,dd.mapOf,h _ _ (I.tok _) ?_⟩
  rw [l]
  exact (rel.val k).getD rd
 ·subst ey
  cases (show u=Value.ref b from ry)
  obtain⟨z,hd,xs,rel,dd⟩:=zj3 I.hok e
  refine call_meetsIn PySem.F.slot_dict_get dd.typeIs PySem.F.entry_dict_get (PySem.F.args_dict_get_3 _ _ _) (meetsH_dict_get_default (tupleKind (zay X.prog X.w)) a b hd r) ⟨tupleKind_room_in1 hu,k,xs,zhu I.hok eb,dd,h _ _ (I.tok _) ?_⟩
  rw [l]
  exact (rel.val k).getD rd
end
def zmY (td ty tx:TE):TE:=fun σ H Q=>td σ H fun x H1=>∃ a,x = .ref a∧IsD H1 a∧ty σ H1 fun y H2=>tx σ H2 fun z H3=>∃ o,znM H3 a y o∧Q (o.getD z) H3
section
variable {X:Cx} {o e f:Expr} {apos cpos:Pos} {td ty tx:TE}
theorem zj5 (hu:X.A.units+1 < cLine) (ho:PE X o td) (he:PE X e ty) (hf:PE X f tx) (m:M2 X o "get" apos e f cpos):PE X (.Call (.Attribute o "get" apos) [e,f] [] cpos) (zmY td ty tx):=by
 intro pins s σ H Q I h
 refine wpAny_Call_method m.base m.few m.line PySem.F.plainAttrs_dict PySem.F.slot_dict_get PySem.F.type_dict_get (thn (ho pins s σ H _ I h) fun u s1 ⟨x,H1,I1,rx,a,ex,d,q1⟩=>?_)
 subst ex
 obtain rfl:u=Value.ref a:=rx
 obtain⟨t1,t2,_⟩:=zmW I1 d
 refine⟨t1,t2,?_⟩
 rw [m.trees]
 refine Calls.callWith_builtin rfl (Calls.evalArgs_plain (Calls.spliced_cons (thn (he pins s1 σ H1 _ I1 q1) fun iv s2 ⟨y,H2,I2,ry,q2⟩ =>
  Calls.spliced_cons (thn (hf pins s2 σ H2 _ I2 q2) fun fv s3 ⟨z,H3,I3,rz,ov,g,q3⟩=>Calls.spliced_nil ?_))))
 exact zmX hu I3 g ry rz fun w' s4 I4 rw'=>⟨_,H3,I4,rw',q3⟩
end
end L2
end
section
set_option maxHeartbeats 4000000
namespace L2
open PySem PySem.Spec PyProof.Rows
theorem zgF:∀ {ns:List Int} {us:List Value},zK (ns.map V.int) us→∃ ps:List (Int×Tok),us=ps.map (fun p=>Value.int p.1 p.2)∧ps.map (·.1)=ns
 | [],_,r=>by cases r; exact⟨[],rfl,rfl⟩
 | n :: ns,_,r=>by
  cases r with
  | cons r1 r2 =>
   obtain⟨ps,e1,e2⟩:=zgF r2
   obtain⟨t,rfl⟩:=r1
   exact⟨(n,t) :: ps,by rw [e1]; rfl,by rw [← e2]; rfl⟩
theorem zbQ {X:Cx} (hc:X.calm=true):zbh X (.builtin "sum") (fun xs H Q=>∃ (p:Addr) (ns:List Int),xs = [.ref p]∧SqL X.K H p (ns.map V.int)∧Q (.int ns.sum) H):=by
 intro pins s σ H xs us Q I r h
 obtain⟨p,ns,rfl,hq,q⟩:=h
 obtain⟨u,rfl,rx⟩:=vals1 r
 cases rx
 obtain⟨its,rv,pl,hz⟩:=I.list hq
 obtain⟨ps,e1,e2⟩:=zgF rv
 subst e1 e2
 have hl:s.heap.IsList p (intItems ps.toArray):=by
  have:=pl.isList
  simpa [intItems] using this
 refine sum_intListG (xs:=ps.toArray) (by simp [I.ok.hd hc]) hl fun h' tk t' kk=>⟨.int (ps.map (·.1)).sum,H,I.kept kk,⟨t',?_⟩,q⟩
 rw [preSum_eq,List.take_of_length_le (by simp)]
end L2
namespace PySem
open PyProof.Rows
end PySem
namespace L2
open PySem PySem.Spec PyProof.Rows
end L2
end
section
set_option maxHeartbeats 4000000
namespace L2
open PySem PySem.Spec PyProof.Rows
end L2
namespace My
open PySem L2 PyProof.Rows
section
variable {K:PySem.W.Frag}
structure RowAt (K:PySem.W.Frag) (H:Hp) (r:Addr) (n:Nat) (rw:List (Option Int)):Prop where
 at':SqL K H r (rw.map enc)
 len:rw.length=n
end
end My
end
section
set_option maxHeartbeats 4000000
namespace Srt
open PySem PyProof.Rows
end Srt
end
section
set_option maxHeartbeats 4000000
namespace Srt
open PySem PyProof.Rows
end Srt
end
section
set_option maxHeartbeats 4000000
namespace Srt
open PySem PyProof.Rows
end Srt
end
section
set_option maxHeartbeats 4000000
namespace Srt
open PySem PyProof.Rows
end Srt
end
section
set_option maxHeartbeats 4000000
namespace Srt
open PySem PyProof.Rows
end Srt
end
section
set_option maxHeartbeats 4000000
namespace Srt
open PySem PyProof.Rows
end Srt
end
section
set_option maxHeartbeats 4000000
namespace Srt
open PySem PyProof.Rows
end Srt
end
section
set_option maxHeartbeats 4000000
namespace Srt
open PySem PyProof.Rows
end Srt
end
section
set_option maxHeartbeats 4000000
namespace PySem
open PyProof.Rows
def ziQ (h:Heap) (d:Addr) (es:Array DictEntry) (ep:Nat):Prop:=∃ o,h.get? d=some o∧o.ExactDict∧o.data = .dict es ep
theorem ziQ.typeIs {s:Shared} {d:Addr} {es:Array DictEntry} {ep:Nat} (x:ziQ s.heap d es ep):s.TypeIs (.ref d) "dict":=let ⟨o,ho,hc,_⟩:=x; ⟨o,ho,hc.1⟩
section
variable {prog:Program} {w:World} {A:Around} {E:Value→Shared→Prop} {s:Shared} {it d:Addr} {i ep:Nat} {es:Array DictEntry}
theorem zj6 {Q:Value→Shared→Prop} (hd:(d == sysModules)=false) (hm:ziQ s.heap d es ep) (hQ:Q (.ref s.heap.objs.size) { s with heap:=s.heap.push { cls:=.type "dict_keyiterator",data:=.fields #[.ref d,.int 0 0,.int es.size 0,.int ep 0] } }):wpAny (model prog w) A (pyIter (.ref d)) Q E s:=by
 have hT:=hm.typeIs
 obtain⟨o,ho,hc,hdat⟩:=id hm
 refine wpAny_pyIter_slot hT F.slot_dict_iter (wpAny_call_entry F.slot_dict_iter hT F.entry_dict_iter ?_ (F.args_dict_iter_1 _)); unfold Builtin.«dict.__iter__» Builtin.Dict.dictSlotNone
 refine wpAny_bind (wpAny_bind (wpAny_notOrdered_dict hT ?_)); show wpAny _ _ (pure (Value.ref d)) _ _ s
 refine wpAny_pure ?_; show wpAny _ _ (Builtin.Dict.showsAll d >>= _) _ _ s; unfold Builtin.Dict.showsAll
 rw [if_neg (show ¬ ((d == sysModules)=true) by rw [hd]; decide)]
 refine wpAny_bind (wpAny_pure (wpAny_bind (wpAny_dictEntries ho hdat (wpAny_bind (wpAny_dictEpoch ho hdat (wpAny_bind (wpAny_newObj_type (wpAny_pure ⟨_,rfl,"dict_keyiterator",_,⟨_,Heap.get?_push_size _ rfl,rfl⟩,F.slot_dict_keyiterator_next.lookup,?_⟩))))))))
 simpa [rawInt] using hQ
theorem zj7 {e:DictEntry} {Q:Option Value→Shared→Prop} (hit:s.heap.IsKeyIter it d i es.size ep) (hm:ziQ s.heap d es ep) (he:es[i]? = some e)
  (hQ:∀ h',h'.IsKeyIter it d (i+1) es.size ep→Heap.SameBut it s.heap h'→Q (some e.key) { s with heap:=h' }):wpAny (model prog w) A (pyNext (.ref it)) Q E s:=by
 (obtain⟨o,ho,hc,hd⟩:=id hit)
 obtain⟨od,hod,hcd,hdd⟩:=id hm
 have hlt:i < es.size:=(Array.getElem?_eq_some_iff.mp he).1
 have hown:Builtin.Dict_items.ownsTuple "dict_keyiterator" = false:=by decide +kernel
 unfold pyNext; refine wpAny_bind (wpAny_attempt (wpAny_callSpecial?_slot (name:=Str.ofString "__next__") hit.typeIs F.slot_dict_keyiterator_next (wpAny_call_entry F.slot_dict_keyiterator_next hit.typeIs F.entry_dict_keyiterator_next ?_ (F.args_dict_keyiterator_next_1 _))))
 refine wpAny_bind (wpAny_pure (wpAny_bind (wpAny_bind (wpAny_bind (wpAny_typeNameOfWhole_keyiter hit.typeIs (wpAny_pure (wpAny_bind (wpAny_fieldsOf ho hd ?_))))))))
 simp only [hown,Bool.false_eq_true,if_false]; show wpAny _ _ (if (Value.ref d == Value.none)=true then _ else _) _ _ s
 rw [if_neg (show ¬ ((Value.ref d == Value.none)=true) from fun z=>Bool.false_ne_true z)]
 refine wpAny_bind (wpAny_pure (wpAny_bind (wpAny_dictEntries hod hdd ?_)))
 rw [if_neg (show ¬ ((((es.size:Nat):Int) != ((es.size:Nat):Int))=true) by simp)]
 refine wpAny_bind (wpAny_pure (wpAny_bind (wpAny_dictEpoch hod hdd ?_)))
 rw [if_neg (by simp)]; refine wpAny_pure ?_
 simp only [show ¬ ((i:Int) < 0) by omega,if_false,Int.toNat_natCast,he]
 refine wpAny_bind (wpAny_bind (wpAny_typeNameOfWhole_keyiter hit.typeIs (wpAny_pure (wpAny_bind (wpAny_isOneOf_keyiter hit.typeIs ?_)))))
 show wpAny _ _ (setField (.ref it) 1 (rawInt ((i:Int)+1)) >>= _) _ _ s; refine wpAny_bind (wpAny_setField ho hd (by simp) ?_)
 have hit':(s.heap.update it (Obj.mapFields (·.setIfInBounds 1 (rawInt ((i:Int)+1))))).IsKeyIter it d (i+1) es.size ep:=⟨_,Heap.get?_update_self _ ho (Obj.isFreed_of_fields (Obj.data_mapFields hd _)),(Obj.cls_mapFields ..).trans hc,by rw [Obj.data_mapFields hd]; simp [rawInt]⟩
 refine wpAny_bind (wpAny_holding (wpAny_bind (wpAny_isOneOf_keyiter (s:={ s with heap:=s.heap.update it (Obj.mapFields (·.setIfInBounds 1 (rawInt ((i:Int)+1)))) }) hit'.typeIs ?_)))
 show wpAny _ _ (pure e.key) _ _ _; exact wpAny_pure (wpAny_pure ⟨_,rfl,wpAny_pure (hQ _ hit' (Heap.SameBut.update ..))⟩)
theorem zlo {Q:Option Value→Shared→Prop} (hh:A.handled=none) (hit:s.heap.IsKeyIter it d i es.size ep) (hm:ziQ s.heap d es ep) (he:es.size≤i) (hQ:∀ h',Heap.ExtBut it s.heap h'→Q none { s with heap:=h' }):wpAny (model prog w) A (pyNext (.ref it)) Q E s:=by
 (obtain⟨o,ho,hc,hd⟩:=id hit)
 obtain⟨od,hod,hcd,hdd⟩:=id hm
 have hown:Builtin.Dict_items.ownsTuple "dict_keyiterator" = false:=by decide +kernel
 unfold pyNext; refine wpAny_bind (wpAny_attempt (wpAny_callSpecial?_slot (name:=Str.ofString "__next__") hit.typeIs F.slot_dict_keyiterator_next (wpAny_call_entry F.slot_dict_keyiterator_next hit.typeIs F.entry_dict_keyiterator_next ?_ (F.args_dict_keyiterator_next_1 _))))
 refine wpAny_bind (wpAny_pure (wpAny_bind (wpAny_bind (wpAny_bind (wpAny_typeNameOfWhole_keyiter hit.typeIs (wpAny_pure (wpAny_bind (wpAny_fieldsOf ho hd ?_))))))))
 simp only [hown,Bool.false_eq_true,if_false]; show wpAny _ _ (if (Value.ref d == Value.none)=true then _ else _) _ _ s
 rw [if_neg (show ¬ ((Value.ref d == Value.none)=true) from fun z=>Bool.false_ne_true z)]
 refine wpAny_bind (wpAny_pure (wpAny_bind (wpAny_dictEntries hod hdd ?_)))
 rw [if_neg (show ¬ ((((es.size:Nat):Int) != ((es.size:Nat):Int))=true) by simp)]
 refine wpAny_bind (wpAny_pure (wpAny_bind (wpAny_dictEpoch hod hdd ?_)))
 rw [if_neg (by simp)]; refine wpAny_pure ?_
 simp only [show ¬ ((i:Int) < 0) by omega,if_false,Int.toNat_natCast,Array.getElem?_eq_none he]
 refine wpAny_bind (wpAny_bind (wpAny_typeNameOfWhole_keyiter hit.typeIs (wpAny_pure ?_)))
 show wpAny _ _ (setField (.ref it) 0 .none >>= _) _ _ s; refine wpAny_bind (wpAny_setField ho hd (by simp) ?_)
 show wpAny _ _ (newExc (.type "StopIteration") [] >>= _) _ _ _; simp only [newExc,newTuple]
 refine wpAny_bind (wpAny_bind (wpAny_newObj_type (wpAny_bind (m:=firstArgMember _ _) (wpAny_of_eq (a:=Value.none) (by first | rfl | (simp only [firstArgMember]; rfl)) (wpAny_newObj_type ?_ (by size_fits)))) (by size_fits)))
 simp only [raiseNew]; refine wpAny_bind (wpAny_handled ?_); rw [show A.in1.handled=none from hh]
 refine wpAny_bind (wpAny_pure (wpAny_throw ?_)); refine wpAny_bind (wpAny_isInstance (T:="StopIteration") (b:=true) ⟨_,Heap.get?_push_size _ rfl,rfl⟩ isSubtype_stop ?_)
 (exact wpAny_pure (hQ _ (((Heap.SameBut.update ..).extBut.push _).push _)))
end
end PySem
end
section
set_option maxHeartbeats 4000000
namespace Srt
open PySem PyProof.Rows
end Srt
end
section
set_option maxHeartbeats 4000000
namespace L2
open PySem PySem.Spec PyProof.Rows PySem.Builtin.Str
end L2
end
section
set_option maxHeartbeats 4000000
namespace L2
open PySem PySem.Spec PyProof.Rows PySem.Builtin.Str
end L2
end
section
set_option maxHeartbeats 4000000
namespace L2
open PySem PySem.Spec PyProof.Rows Srt
end L2
end
section
set_option maxHeartbeats 4000000
namespace L2
open PySem PySem.Spec PyProof.Rows
section
variable {X:Cx} {elt t1 i1 t2 i2:Expr} {f1 f2:List Expr} {scope:Scope} {pos:Pos} {N':List Str} {ix:List (Option Nat)} {js1 js2:List Nat} {g1 g2:TG} {ts1 ts2:TT} {te:TE} {wi1 wi2:TI}
theorem zmZ (hc:X.calm=true) (gs2:GS js2 g2) (hi2:∀ s₃ H₃ ex pins,PI (zQ X N' scope s₃ H₃ ex pins) t2 i2 wi2)
  (hg2:∀ s₃ H₃ ex pins,PG (zQ X N' scope s₃ H₃ ex pins) t2 g2) (ht2:∀ s₃ H₃ ex pins,zdU (zQ X N' scope s₃ H₃ ex pins) f2 ts2) (he:∀ s₃ H₃ ex pins,PE (zQ X N' scope s₃ H₃ ex pins) elt te)
  (hs2:∀ s₃ H₃ ex pins x,foldedSetIterable i2 (zQ X N' scope s₃ H₃ ex pins).env x=pure x) :
  ∀ s₃ H₃ ex pins D,PM (zQ X N' scope s₃ H₃ ex pins) D js2 ((fun D env=>zh1 (.ListComp elt [⟨t1,i1,f1,0⟩,⟨t2,i2,f2,0⟩] scope pos) i2 1 (.ref D) env) D (zQ X N' scope s₃ H₃ ex pins).env) (zjI wi2 g2 ts2 (zjH te)):=by
 intro s₃ H₃ ex pins D
 have h:=zmJ (Y:=zQ X N' scope s₃ H₃ ex pins) (D:=D) (js:=js2) (js':=[]) (elt:=elt) (gens:=[⟨t1,i1,f1,0⟩,⟨t2,i2,f2,0⟩]) (scope:=scope) (pos:=pos) (d:=1) (p:=i2.pos) hc rfl gs2 (fun _ _ z=>by cases z) (hi2 s₃ H₃ ex pins) (hg2 s₃ H₃ ex pins) (ht2 s₃ H₃ ex pins) (zhg rfl (he s₃ H₃ ex pins)) rfl (fun it=>zmL it D _) (hs2 s₃ H₃ ex pins)
 rw [List.append_nil] at h
 exact h
theorem zia (SC:CompSc X N' ix scope) (hc:X.calm=true) (gs1:GS js1 g1) (gs2:GS js2 g2) (hdis:∀ j∈js1,j∉js2) (hjs:∀ j∈js1++js2,ix[j]? = some none) (hi1:PI X t1 i1 wi1)
  (hg1:∀ s₃ H₃ ex pins,PG (zQ X N' scope s₃ H₃ ex pins) t1 g1) (ht1:∀ s₃ H₃ ex pins,zdU (zQ X N' scope s₃ H₃ ex pins) f1 ts1) (hi2:∀ s₃ H₃ ex pins,PI (zQ X N' scope s₃ H₃ ex pins) t2 i2 wi2)
  (hg2:∀ s₃ H₃ ex pins,PG (zQ X N' scope s₃ H₃ ex pins) t2 g2) (ht2:∀ s₃ H₃ ex pins,zdU (zQ X N' scope s₃ H₃ ex pins) f2 ts2) (he:∀ s₃ H₃ ex pins,PE (zQ X N' scope s₃ H₃ ex pins) elt te)
  (hs:∀ x,foldedSetIterable i1 X.env x=pure x:=by intro _; rfl) (hs2:∀ s₃ H₃ ex pins x,foldedSetIterable i2 (zQ X N' scope s₃ H₃ ex pins).env x=pure x:=by intros; rfl) :
  PE X (.ListComp elt [⟨t1,i1,f1,0⟩,⟨t2,i2,f2,0⟩] scope pos) (zhf ix wi1 g1 ts1 (zjI wi2 g2 ts2 (zjH te))) :=
 zgk SC hc gs1 hdis hjs hi1 hg1 ht1 (zmZ hc gs2 hi2 hg2 ht2 he hs2) (fun it D env=>zmK it D env) hs
end
theorem zib {J:It} {n:Nat} {g:TG} {ts:TT} {tm:TM} {σ0:St} {Q:List V→Hp→Prop} {ys:List V} {H:Hp} (Pv:Nat→List V→Hp→Prop) (h0:Pv 0 ys H) (hgo:∀ i ys H,i < n→Pv i ys H→J.go i H) (hst:∀ ys H,Pv n ys H→J.stop n H)
  (hs:∀ i x ys H H',i < n→Pv i ys H→J.yld i H x H'→g x σ0 H' fun σ2 H2=>ts σ2 H2 fun b H3=>if b=true then tm ys σ2 H3 (Pv (i+1)) else Pv (i+1) ys H3)
  (hd:∀ ys H,Pv n ys H→Q ys H):cIn g ts tm σ0 J Q ys H:=by
 refine⟨fun i m ys H=>m=n - i∧i≤n∧Pv i ys H,⟨n,by simp,Nat.zero_le _,h0⟩,?_⟩
 rintro i m ys H ⟨rfl,hi,p⟩
 by_cases hlt:i < n
 ·exact .inr ⟨hgo i ys H hlt p,Pv (i+1),fun ys' H' p'=>⟨n - (i+1),by omega,rfl,hlt,p'⟩,fun x H' y=>hs i x ys H H' hlt p y⟩
 ·have e:i=n:=by omega
  subst e
  exact .inl ⟨hst ys H p,hd ys H p⟩
end L2
end
section
set_option maxHeartbeats 4000000
namespace L2
open PySem PySem.Spec PyProof.Rows
end L2
end
section
namespace L2
open PySem PySem.Spec PyProof.Rows
def zm0 (sc:Scope) (x:Str):Bool:=match sc.names.lookup x with
 | some .local=>true
 | some .cell=>true
 | some .free=>true
 | _=>false
theorem zlp {sc:Scope} {x:Str} (h:zm0 sc x=true):Vis sc x:=by
 unfold zm0 at h
 unfold Vis
 cases e:sc.names.lookup x with
 | none=>rw [e] at h; cases h
 | some k=>cases k <;> simp_all
def pvB (N:List Str) (sc:Scope) (i:Nat) (x:Str):Bool:=decide (N[i]? = some x) && zm0 sc x && !(x == ("__debug__" : Str)) && !(x == ("__classdict__" : Str))
theorem pvx {X:Cx} (i:Nat) {x:Str} {pos:Pos} (h:pvB X.N X.env.scope i x=true):PE X (.Name x pos) (znn i):=by
 unfold pvB at h
 simp only [Bool.and_eq_true,Bool.not_eq_true',decide_eq_true_eq] at h
 exact zms h.1.1.1 (zlp h.1.1.2) h.1.2 h.2
end L2
end
section
set_option maxHeartbeats 4000000
namespace My
open PySem L2 PyProof.Rows
theorem Paired.get {α β:Type} {F:α→β→Prop}:∀ {l₁:List α} {l₂:List β},Paired F l₁ l₂→∀ {i:Nat} {a:α},l₁[i]? = some a→∃ b,l₂[i]? = some b∧F a b
 | _,_,.nil,i,a,h=>by simp at h
 | _,_,.cons r t,0,a,h=>by
  (simp only [List.getElem?_cons_zero,Option.some.injEq] at h)
  subst h
  exact⟨_,rfl,r⟩
 | _,_,.cons r t,i+1,a,h=>by
  rw [List.getElem?_cons_succ] at h
  obtain⟨b,hb,f⟩:=Paired.get t h
  exact⟨b,by rw [List.getElem?_cons_succ]; exact hb,f⟩
end My
end
section
set_option maxHeartbeats 4000000
namespace My
open PySem L2 PyProof.Rows
theorem zdy {p a y:Int} (hp:p∈zJ) (ha0:a % p≠0) (h:Cg p (a*y) 0):Cg p y 0:=by
 have rp:=zV hp
 have g0:=Int.emod_nonneg a (show p≠0 by omega)
 have g1:=Int.emod_lt_of_pos a (show 0 < p by omega)
 have hi:=zhj hp (h:=a % p) (by omega) g1
 have h1:Cg p (inv p (a % p)*(a % p)*y) (1*y):=hi.mul (Cg.refl p y)
 have h2:Cg p (inv p (a % p)*(a % p)*y) (inv p (a % p)*(a*y)):=by
  have:=((Cg.refl p (inv p (a % p))).mul (Cg.emod p a)).mul (Cg.refl p y)
  exact this.trans (Cg.of_eq (by grind))
 have h3:=(Cg.refl p (inv p (a % p))).mul h
 exact (Cg.of_eq (by omega)).trans (h1.symm.trans (h2.trans (h3.trans (Cg.of_eq (by omega)))))
def IsP (p:Int) (k:Nat) (q:List Int):Prop:=q.length=k∧∀ c∈q,0≤c∧c < p
def hps:List Int→List (Option Int)→List (Int×Int)
 | x :: pl,some y :: rw=>(x,y) :: hps pl rw
 | _ :: pl,none :: rw=>hps pl rw
 | _,_=>[]
theorem zez:∀ {pl:List Int} {rw:List (Option Int)} {i:Nat} {x:Int} {o:Option Int},pl[i]? = some x→rw[i]? = some o→hps (pl.take (i+1)) (rw.take (i+1))=hps (pl.take i) (rw.take i)++(match o with | some y=>[(x,y)] | none=>[])
 | [],_,i,x,o,h,_=>by simp at h
 | _ :: _,[],i,x,o,_,h=>by simp at h
 | a :: pl,b :: rw,0,x,o,h1,h2=>by
  simp only [List.getElem?_cons_zero,Option.some.injEq] at h1 h2
  subst h1 h2
  cases b <;> rfl
 | a :: pl,b :: rw,i+1,x,o,h1,h2=>by
  rw [List.getElem?_cons_succ] at h1 h2
  have ih:=zez h1 h2
  cases b with
  | none=>exact ih
  | some y =>
   show (a,y) :: hps (pl.take (i+1)) (rw.take (i+1))=(a,y) :: hps (pl.take i) (rw.take i)++_
   rw [ih]
   rfl
theorem zbA:∀ (pl:List Int) (rw:List (Option Int)),(hps pl rw).length≤pl.length
 | [],rw=>by unfold hps; simp
 | a :: pl,[]=>by unfold hps; simp
 | a :: pl,none :: rw=>by
  have:=zbA pl rw
  show (hps pl rw).length≤pl.length+1
  omega
 | a :: pl,some y :: rw=>by
  have:=zbA pl rw
  show (hps pl rw).length+1≤pl.length+1
  omega
theorem zcD:∀ {pl:List Int} {rw:List (Option Int)} {a:Int×Int},a∈hps pl rw→a.1∈pl∧some a.2∈rw
 | [],_,a,h=>by unfold hps at h; cases h
 | _ :: _,[],a,h=>by unfold hps at h; cases h
 | x :: pl,none :: rw,a,h=>by
  obtain⟨h1,h2⟩:=zcD (pl:=pl) (rw:=rw) h
  exact⟨List.mem_cons_of_mem _ h1,List.mem_cons_of_mem _ h2⟩
 | x :: pl,some y :: rw,a,h=>by
  rcases (List.mem_cons.mp h) with rfl | h
  ·exact⟨List.mem_cons_self,List.mem_cons_self⟩
  ·obtain⟨h1,h2⟩:=zcD (pl:=pl) (rw:=rw) h
   exact⟨List.mem_cons_of_mem _ h1,List.mem_cons_of_mem _ h2⟩
theorem zfL:∀ (pl:List Int) (rw:List (Option Int)),((hps pl rw).map (·.1)).Sublist pl
 | [],_=>by unfold hps; exact List.nil_sublist _
 | _ :: _,[]=>by unfold hps; exact List.nil_sublist _
 | x :: pl,none :: rw=>(zfL pl rw).cons _
 | x :: pl,some y :: rw=>(zfL pl rw).cons_cons _
theorem zfM {p:Int} {pl:List Int} {rw:List (Option Int)} (h1:pl.Nodup) (h2:∀ x∈pl,0≤x∧x < p) (h3:∀ z,some z∈rw→0≤z∧z < p):Pts p (hps pl rw) :=
 ⟨(zfL pl rw).nodup h1,fun q hq=>⟨(h2 _ (zcD hq).1).1,(h2 _ (zcD hq).1).2,(h3 _ (zcD hq).2).1,(h3 _ (zcD hq).2).2⟩⟩
end My
end
section
set_option maxHeartbeats 4000000
namespace My
open PySem L2 PyProof.Rows
def sm:Nat→(Nat→Int)→Int
 | 0,_=>0
 | n+1,f=>sm n f+f n
theorem z0 {f g:Nat→Int}:∀ {n:Nat},(∀ i,i < n→f i=g i)→sm n f=sm n g
 | 0,_=>rfl
 | n+1,h=>by
  show sm n f+f n=sm n g+g n
  rw [z0 (n:=n) fun i hi=>h i (by omega),h n (by omega)]
theorem zdK {p:Int} {f g:Nat→Int}:∀ {n:Nat},(∀ i,i < n→Cg p (f i) (g i))→Cg p (sm n f) (sm n g)
 | 0,_=>Cg.refl _ _
 | n+1,h=>(zdK (n:=n) fun i hi=>h i (by omega)).add (h n (by omega))
theorem zeA {f g:Nat→Int}:∀ n:Nat,sm n (fun i=>f i+g i)=sm n f+sm n g
 | 0=>rfl
 | n+1=>by
  show sm n (fun i=>f i+g i)+(f n+g n)=sm n f+f n+(sm n g+g n)
  rw [zeA n]
  omega
theorem zbJ {c:Int} {f:Nat→Int}:∀ n:Nat,sm n (fun i=>c*f i)=c*sm n f
 | 0=>by show (0:Int)=c*0; omega
 | n+1=>by
  show sm n (fun i=>c*f i)+c*f n=c*(sm n f+f n)
  rw [zbJ n,Int.mul_add]
theorem zaF {f:Nat→Int}:∀ {n:Nat},(∀ i,i < n→f i=0)→sm n f=0
 | 0,_=>rfl
 | n+1,h=>by
  show sm n f+f n=0
  rw [zaF (n:=n) fun i hi=>h i (by omega),h n (by omega)]
  rfl
theorem zj8 {f:Nat→Int} {j:Nat}:∀ {n:Nat},j < n→(∀ i,i < n→i≠j→f i=0)→sm n f=f j
 | 0,hj,_=>by omega
 | n+1,hj,h=>by
  show sm n f+f n=f j
  by_cases e:j=n
  ·subst e
   rw [zaF fun i hi=>h i (by omega) (by omega)]
   omega
  ·rw [zj8 (n:=n) (by omega) fun i hi hne=>h i (by omega) hne,h n (by omega) (by omega)]
   omega
theorem zcE {f:Nat→Int}:∀ n:Nat,sm (n+1) f=f 0+sm n (fun i=>f (i+1))
 | 0=>by show (0:Int)+f 0=f 0+0; omega
 | n+1=>by
  show sm (n+1) f+f (n+1)=f 0+(sm n (fun i=>f (i+1))+f (n+1))
  rw [zcE n]
  omega
theorem zfN {f:Nat→Nat→Int} (m:Nat):∀ n:Nat,sm n (fun i=>sm m (fun j=>f i j))=sm m (fun j=>sm n fun i=>f i j)
 | 0=>(zaF fun _ _=>rfl).symm
 | n+1=>by
  show sm n (fun i=>sm m (fun j=>f i j))+sm m (fun j=>f n j)=sm m (fun j=>sm n (fun i=>f i j)+f n j)
  rw [zfN m n,← zeA]
theorem zd8 {f:Nat→Int} {m:Nat}:∀ {n:Nat},m≤n→(∀ i,m≤i→i < n→f i=0)→sm n f=sm m f
 | 0,h,_=>by rw [show m=0 by omega]
 | n+1,h,hz=>by
  by_cases e:m=n+1
  ·rw [e]
  ·show sm n f+f n=_
   rw [zd8 (n:=n) (by omega) fun i h1 h2=>hz i h1 (by omega),hz n (by omega) (by omega)]
   omega
def gl (w:List Int) (y:Nat):Int:=w.getD y 0
theorem zaR {w:List Int} {y:Nat} {c:Int} (h:w[y]? = some c):gl w y=c:=by
 unfold gl
 rw [List.getD_eq_getElem?_getD,h]
 rfl
theorem zfO {w:List Int} {y:Nat} (h:w.length≤y):gl w y=0:=by
 unfold gl
 rw [List.getD_eq_getElem?_getD,List.getElem?_eq_none h]
 rfl
theorem zaZ {w:List Int} {y:Nat} (h:y < w.length):w[y]? = some (gl w y):=by
 rw [List.getElem?_eq_getElem h,zaR (List.getElem?_eq_getElem h)]
theorem zcW {w:List Int} {p:Int} (hp:0 < p) (h:∀ c∈w,0≤c∧c < p) (y:Nat):0≤gl w y∧gl w y < p:=by
 by_cases hy:y < w.length
 ·exact h _ (List.mem_of_getElem? (zaZ hy))
 ·rw [zfO (by omega)]
  omega
theorem zj9 {f:Int→Int} {w:List Int} {y:Nat} (h:y < w.length):gl (w.map f) y=f (gl w y):=zaR (by rw [List.getElem?_map,zaZ h]; rfl)
theorem zhv {f:Int→Int→Int} {v w:List Int} {y:Nat} (h:y < v.length) (h':y < w.length):gl (List.zipWith f v w) y=f (gl v y) (gl w y):=zaR (by rw [List.getElem?_zipWith,zaZ h,zaZ h'])
theorem zka {v w:List Int} (hl:v.length=w.length) (h:∀ y,y < v.length→gl v y=gl w y):v=w:=by
 refine List.ext_getElem? fun y=>?_
 by_cases hy:y < v.length
 ·rw [zaZ hy,zaZ (by omega),h y hy]
 ·rw [List.getElem?_eq_none (by omega),List.getElem?_eq_none (by omega)]
def vx (vs:List (List Int)) (i x:Nat):Int:=gl (vs.getD i []) x
def Rel (p:Int) (L N:Nat) (vs:List (List Int)) (u:Nat→Int):Prop:=∀ x,x < L→Cg p (u x) (sm N fun i=>u (L+i)*vx vs i x)
theorem Rel.sub {p:Int} {L N:Nat} {vs:List (List Int)} {u w r:Nat→Int} (hu:Rel p L N vs u) (hw:Rel p L N vs w) (t:Int) (hr:∀ y,y < L+N→Cg p (r y) (u y - t*w y)):Rel p L N vs r:=fun x hx=>by
 refine (hr x (by omega)).trans (((hu x hx).sub ((Cg.refl p t).mul (hw x hx))).trans ?_)
 have e:sm N (fun i=>u (L+i)*vx vs i x) - t*sm N (fun i=>w (L+i)*vx vs i x)=sm N (fun i=>(u (L+i) - t*w (L+i))*vx vs i x):=by
  rw [show ∀ a b:Int,a - t*b=a+(-t)*b by intros; grind,← zbJ,← zeA]
  exact z0 fun i _=>by grind
 rw [e]
 exact zdK fun i hi=>(hr (L+i) (by omega)).symm.mul (Cg.refl _ _)
structure Ech (p:Int) (L N m:Nat) (vs:List (List Int)) (cl:List (Nat×List Int)):Prop where
 ln:cl.length=m
 one:∀ (j:Nat) (a:Nat×List Int),cl[j]? = some a→a.1 < L∧a.2.length=L+N∧(∀ c∈a.2,0≤c∧c < p)∧Rel p L N vs (gl a.2)∧gl a.2 a.1=1∧∀ i,j < i→i < N→gl a.2 (L+i)=0
 up:∀ (j j':Nat) (a a':Nat×List Int),cl[j]? = some a→cl[j']? = some a'→j < j'→gl a'.2 a.1=0
 ii:∀ u:Nat→Int,Rel p L N vs u→(∀ i,m≤i→i < N→Cg p (u (L+i)) 0)→(∀ a∈cl,Cg p (u a.1) 0)→∀ i,i < N→Cg p (u (L+i)) 0
theorem Ech.start (p:Int) (L N:Nat) (vs:List (List Int)):Ech p L N 0 vs [] where
 ln:=rfl
 one:=fun _ _ h=>by simp at h
 up:=fun _ _ _ _ h=>by simp at h
 ii:=fun u _ h _ i hi=>h i (Nat.zero_le _) hi
structure Wh (p:Int) (L N m:Nat) (vs:List (List Int)) (cl:List (Nat×List Int)) (w:List Int):Prop where
 ln:w.length=L+N
 rg:∀ c∈w,0≤c∧c < p
 rel:Rel p L N vs (gl w)
 top:gl w (L+m)=1
 up:∀ j,m < j→j < N→gl w (L+j)=0
 z:∀ a∈cl,gl w a.1=0
theorem zgG {p:Int} (hp:p∈zJ) {L N m:Nat} {vs:List (List Int)} {v:List Int} (hm:m < N) (hv:vs[m]? = some v) (hl:v.length=L) (hr:∀ c∈v,0≤c∧c < p):Wh p L N m vs [] ((v++List.replicate N 0).set (L+m) 1):=by
 have rp:=zV hp
 have hlow:∀ y,y < L→gl ((v++List.replicate N 0).set (L+m) 1) y=gl v y:=fun y hy=>zaR (by
  rw [List.getElem?_set_ne (by omega),List.getElem?_append_left (by omega),zaZ (by omega)])
 have htop:gl ((v++List.replicate N 0).set (L+m) 1) (L+m)=1:=zaR (by
  rw [List.getElem?_set_self (by rw [List.length_append,List.length_replicate]; omega)])
 have hz:∀ j,j < N→j≠m→gl ((v++List.replicate N 0).set (L+m) 1) (L+j)=0:=fun j hj hne=>zaR (by
  rw [List.getElem?_set_ne (by omega),List.getElem?_append_right (by omega),List.getElem?_replicate]
  rw [if_pos (by omega)])
 refine⟨by rw [List.length_set,List.length_append,List.length_replicate,hl],fun c hc=>?_,fun x hx=>?_,htop,fun j h1 h2=>hz j h2 (by omega),fun a ha=>by cases ha⟩
 ·rcases List.mem_or_eq_of_mem_set hc with h | rfl
  ·rcases (List.mem_append.mp h) with h | h
   ·exact hr c h
   ·rw [List.eq_of_mem_replicate h]; omega
  ·omega
 ·rw [hlow x hx,zj8 (j:=m) hm fun i hi hne=>by rw [hz i hi hne,Int.zero_mul],htop,Int.one_mul]
  unfold vx
  rw [List.getD_eq_getElem?_getD,hv]
  exact Cg.refl _ _
theorem zic {p:Int} (hp:p∈zJ) {L N m i:Nat} {vs:List (List Int)} {cl:List (Nat×List Int)} {w:List Int} {a:Nat×List Int} (E:Ech p L N m vs cl) (hm:m < N) (ha:cl[i]? = some a) (W:Wh p L N m vs (cl.take i) w) :
  Wh p L N m vs (cl.take (i+1)) (List.zipWith (fun x y=>(x - gl w a.1*y) % p) w a.2):=by
 have rp:=zV hp
 obtain⟨a1,a2,a3,a4,a5,a6⟩:=E.one i a ha
 have him:i < m:=by rw [← E.ln]; exact (List.getElem?_eq_some_iff.mp ha).1
 have hg:∀ y,y < L+N→gl (List.zipWith (fun x y=>(x - gl w a.1*y) % p) w a.2) y=(gl w y - gl w a.1*gl a.2 y) % p:=fun y hy=>zhv (by rw [W.ln]; exact hy) (by omega)
 refine⟨by rw [List.length_zipWith,W.ln,a2,Nat.min_self],fun c hc=>?_,W.rel.sub a4 (gl w a.1) fun y hy=>by rw [hg y hy]; exact Cg.emod _ _,?_,fun j h1 h2=>?_,fun b hb=>?_⟩
 ·obtain⟨x,y,rfl⟩:=zep hc
  exact⟨Int.emod_nonneg _ (by omega),Int.emod_lt_of_pos _ (by omega)⟩
 ·rw [hg _ (by omega),W.top,a6 m him hm,Int.mul_zero,Int.sub_zero]
  exact Int.emod_eq_of_lt (by omega) (by omega)
 ·rw [hg _ (by omega),W.up j h1 h2,a6 j (by omega) h2,Int.mul_zero]
  rfl
 ·rw [take_snoc ha] at hb
  rcases (List.mem_append.mp hb) with hb | hb
  ·obtain⟨j,hj⟩:=List.getElem?_of_mem hb
   have hji:j < i:=by
    have:=(List.getElem?_eq_some_iff.mp hj).1
    rw [List.length_take] at this
    omega
   have hj':cl[j]? = some b:=by rw [List.getElem?_take_of_lt hji] at hj; exact hj
   have hb1:=(E.one j b hj').1
   rw [hg _ (by omega),W.z b hb,E.up j i b a hj' ha hji,Int.mul_zero]
   rfl
  ·obtain rfl:b=a:=by simpa using hb
   rw [hg _ (by omega),a5,Int.mul_one,Int.sub_self]
   rfl
theorem zgH {p:Int} (hp:p∈zJ) {L N m:Nat} {vs:List (List Int)} {cl:List (Nat×List Int)} {w:List Int} {ld:Nat} (E:Ech p L N m vs cl) (hm:m < N) (W:Wh p L N m vs cl w) (hld:ld < L) (h0:gl w ld≠0) :
  Ech p L N (m+1) vs (cl++[(ld,w.map fun x=>x*inv p (gl w ld) % p)]):=by
 have rp:=zV hp
 obtain⟨g0,g1⟩:=zcW (show 0 < p by omega) W.rg ld
 have hi:=zhj hp (h:=gl w ld) (by omega) g1
 have hg:∀ y,y < L+N→gl (w.map fun x=>x*inv p (gl w ld) % p) y=gl w y*inv p (gl w ld) % p:=fun y hy=>zj9 (f:=fun x=>x*inv p (gl w ld) % p) (by rw [W.ln]; exact hy)
 have hat:∀ j a,(cl++[(ld,w.map fun x=>x*inv p (gl w ld) % p)])[j]? = some a→(j < m∧cl[j]? = some a)∨(j=m∧a=(ld,w.map fun x=>x*inv p (gl w ld) % p)):=fun j a h=>by
  by_cases hj:j < m
  ·rw [List.getElem?_append_left (by rw [E.ln]; exact hj)] at h
   exact .inl ⟨hj,h⟩
  ·rw [List.getElem?_append_right (by rw [E.ln]; omega),E.ln] at h
   have hj0:j - m=0:=by
    have:=(List.getElem?_eq_some_iff.mp h).1
    simp at this
    omega
   rw [hj0] at h
   exact .inr ⟨by omega,(by simpa using h.symm)⟩
 refine⟨by rw [List.length_append,E.ln]; rfl,fun j a h=>?_,fun j j' a a' h h' hlt=>?_,fun u hu hup hz i hi'=>?_⟩
 ·rcases hat j a h with ⟨_,h⟩ | ⟨rfl,rfl⟩
  ·exact E.one j a h
  ·refine⟨hld,by rw [List.length_map,W.ln],fun c hc=>?_,?_,?_,fun i h1 h2=>?_⟩
   ·obtain⟨x,_,rfl⟩:=List.mem_map.mp hc
    exact⟨Int.emod_nonneg _ (by omega),Int.emod_lt_of_pos _ (by omega)⟩
   ·refine Rel.sub (u:=fun _=>0) (fun x _=>Cg.of_eq (zaF fun i _=>Int.zero_mul _).symm) W.rel (-inv p (gl w ld)) fun y hy=>?_
    rw [hg y hy]
    exact (Cg.emod _ _).trans (Cg.of_eq (by grind))
   ·rw [hg ld (by omega)]
    have h2:Cg p (gl w ld*inv p (gl w ld)) 1:=(Cg.of_eq (Int.mul_comm _ _)).trans hi
    rw [h2.mod_eq]
    exact Int.emod_eq_of_lt (by omega) (by omega)
   ·rw [hg _ (by omega),W.up i h1 h2,Int.zero_mul]
    rfl
 ·rcases hat j' a' h' with ⟨hj',h'⟩ | ⟨rfl,rfl⟩
  ·rcases hat j a h with ⟨_,h⟩ | ⟨rfl,_⟩
   ·exact E.up j j' a a' h h' hlt
   ·omega
  ·rcases hat j a h with ⟨_,h⟩ | ⟨rfl,_⟩
   ·have:=(E.one j a h).1
    rw [hg _ (by omega),W.z a (List.mem_of_getElem? h),Int.zero_mul]
    rfl
   ·omega
 ·have hru:Rel p L N vs (fun y=>u y - u (L+m)*gl w y):=hu.sub W.rel (u (L+m)) fun y _=>Cg.refl _ _
  have hall:=E.ii (fun y=>u y - u (L+m)*gl w y) hru (fun i h1 h2=>by
   by_cases e:i=m
   ·subst e
    show Cg p (u (L+i) - u (L+i)*gl w (L+i)) 0
    rw [W.top]
    exact Cg.of_eq (by omega)
   ·show Cg p (u (L+i) - u (L+m)*gl w (L+i)) 0
    rw [W.up i (by omega) h2,Int.mul_zero,Int.sub_zero]
    exact hup i (by omega) h2) (fun a ha=>by
   show Cg p (u a.1 - u (L+m)*gl w a.1) 0
   rw [W.z a ha,Int.mul_zero,Int.sub_zero]
   exact hz a (List.mem_append_left _ ha))
  have hlead:Cg p (u ld - u (L+m)*gl w ld) 0:=(hru ld hld).trans ((zdK (g:=fun _=>0) fun i hi=>((hall i hi).mul (Cg.refl _ _)).trans (Cg.of_eq (Int.zero_mul _))).trans (Cg.of_eq (zaF fun _ _=>rfl)))
  have hul:=hz (ld,_) (List.mem_append_right _ (List.mem_singleton.mpr rfl))
  have hc:Cg p (gl w ld*u (L+m)) 0:=by
   have:=hul.sub hlead
   exact (Cg.of_eq (by show gl w ld*u (L+m)=u ld - (u ld - u (L+m)*gl w ld); grind)).trans (this.trans (Cg.of_eq (by omega)))
  have hc0:Cg p (u (L+m)) 0:=zdy hp (by rw [Int.emod_eq_of_lt g0 g1]; exact h0) hc
  have:=hall i hi'
  have h3:=this.add (hc0.mul (Cg.refl p (gl w (L+i))))
  exact (Cg.of_eq (by show u (L+i)=u (L+i) - u (L+m)*gl w (L+i)+u (L+m)*gl w (L+i); omega)).trans (h3.trans (Cg.of_eq (by omega)))
def Indep (p:Int) (L:Nat) (vs:List (List Int)):Prop:=∀ u:Nat→Int,(∀ x,x < L→Cg p (sm vs.length fun i=>u i*vx vs i x) 0)→∀ i,i < vs.length→Cg p (u i) 0
def Dep (p:Int) (L:Nat) (vs:List (List Int)) (c:List Int):Prop:=∀ x,x < L→Cg p (sm vs.length fun i=>gl c i*vx vs i x) 0
theorem zkb {p:Int} {L:Nat} {vs:List (List Int)} {cl:List (Nat×List Int)} (E:Ech p L vs.length vs.length vs cl):Indep p L vs:=fun u hu i hi=>by
 have h:=E.ii (fun y=>if y < L then sm vs.length (fun i=>u i*vx vs i y) else u (y - L)) (fun x hx=>?_) (fun i h1 h2=>by omega) (fun a ha=>?_) i hi
 ·rw [if_neg (by omega),Nat.add_sub_cancel_left] at h
  exact h
 ·dsimp only
  rw [if_pos hx]
  refine Cg.of_eq (z0 fun i _=>?_)
  rw [if_neg (by omega),Nat.add_sub_cancel_left]
 ·obtain⟨j,hj⟩:=List.getElem?_of_mem ha
  have:=(E.one j a hj).1
  rw [if_pos this]
  exact hu _ this
theorem zkc {p:Int} {L m:Nat} {vs:List (List Int)} {cl:List (Nat×List Int)} {w:List Int} (W:Wh p L vs.length m vs cl w) (hm:m < vs.length) (hz:∀ x,x < L→gl w x=0) :
  IsP p (m+1) ((w.drop L).take (m+1))∧gl ((w.drop L).take (m+1)) m=1∧Dep p L vs ((w.drop L).take (m+1)):=by
 have hg:∀ i,i≤m→gl ((w.drop L).take (m+1)) i=gl w (L+i):=fun i hi=>zaR (by
  rw [List.getElem?_take_of_lt (by omega),List.getElem?_drop]
  exact zaZ (by rw [W.ln]; omega))
 have hl:((w.drop L).take (m+1)).length=m+1:=by
  rw [List.length_take,List.length_drop,W.ln]
  omega
 refine⟨⟨hl,fun c hc=>W.rg c (List.mem_of_mem_drop (List.mem_of_mem_take hc))⟩,by rw [hg m (Nat.le_refl _)]; exact W.top,fun x hx=>?_⟩
 have h:=W.rel x hx
 rw [hz x hx] at h
 refine Cg.trans (Cg.of_eq (z0 fun i hi=>?_)) h.symm
 by_cases e:i≤m
 ·rw [hg i e]
 ·rw [W.up i (by omega) hi,zfO (by omega)]
end My
end
section
set_option maxHeartbeats 4000000
namespace My
open PySem L2 PyProof.Rows
def PtB (H:Hp):List Addr→List (Int×Int)→Prop:=Paired fun b q=>H b=some (.tup [.int q.1,.int q.2])
theorem PtB.same {H H':Hp} (s:zw H H') {bs:List Addr} {pts:List (Int×Int)} (h:PtB H bs pts):PtB H' bs pts:=Paired.mono (fun _ _ z=>s _ _ z) h
def zbR (H:Hp):List Addr→List (List Int)→Prop:=Paired fun r q=>H r=some (.tup (q.map V.int))
theorem zbR.same {H H':Hp} (s:zw H H') {rs:List Addr} {qs:List (List Int)} (h:zbR H rs qs):zbR H' rs qs:=Paired.mono (fun _ _ z=>s _ _ z) h
def zlq (K:PySem.W.Frag):Sp:=fun vs H Q _=>∃ (c tt r:Addr) (p k:Int) (pl:List Int) (rw:List (Option Int)),vs = [.ref c,.ref r]∧zbH H c tt p k pl∧RowAt K H r pl.length rw∧pl.length≤1000 ∧
 ∀ (l:Addr) (bs:List Addr) (H':Hp),H l=none→zw H H'→H' l=some (.lst (bs.map V.ref))→PtB H' bs (hps pl rw)→Q (.ref l) H'
end My
end
section
set_option maxHeartbeats 4000000
namespace My
open PySem L2 PyProof.Rows
end My
end
section
set_option maxHeartbeats 4000000
namespace L2
open PySem PySem.Spec PyProof.Rows
def Itd (d:Addr) (o:Obj) (kvs:List (List Key×V)):It :=
 ⟨fun i H=>H d=some (.frz o (.dT kvs))∧i < kvs.length,fun i H x H'=>H'=H∧∃ a k,x = .ref a∧(kvs.map (·.1))[i]? = some k∧H a=some (.tup (k.map kV)),fun i H=>H d=some (.frz o (.dT kvs))∧kvs.length≤i⟩
theorem zkd {P:Program} {w:World} {H:Hp} {h:Heap} {d:Addr} {o:Obj} {kvs:List (List Key×V)} {es:Array DictEntry} {ep:Nat} (hd:o.data = .dict es ep) (x:zab P w H h d (.frz o (.dT kvs))) :
  ziQ h d es ep∧es.size=kvs.length∧∀ (i:Nat) (e:DictEntry),es[i]? = some e→∃ a k,e.key = .ref a∧(kvs.map (·.1))[i]? = some k∧H a=some (.tup (k.map kV)):=by
 obtain⟨ho,_,_,xs,hp,o',es',ep',ho',hx,he,hes,hnd⟩:=x
 have e1:o'=o:=by rw [ho] at ho'; exact (Option.some.inj ho').symm
 subst e1
 rw [he] at hd
 cases hd
 have hl:es.toList.length=kvs.length:=by rw [hes,List.length_map]; exact (Paired.length hp).symm
 refine⟨⟨o',ho,hx,he⟩,by simpa using hl,fun i e h=>?_⟩
 have h':es.toList[i]? = some e:=by rw [Array.getElem?_toList]; exact h
 rw [hes,List.getElem?_map] at h'
 cases hxi:xs[i]? with
 | none=>rw [hxi] at h'; cases h'
 | some x =>
  rw [hxi] at h'
  have he':e=entryOfKey (tupleKind (zay P w)) x:=(Option.some.inj h').symm
  have key:∀ {kvs:List (List Key×V)} {xs:List (List Key×Addr×Value)},Paired (fun (p:List Key×V) (q:List Key×Addr×Value)=>p.1=q.1∧H q.2.1=some (.tup (p.1.map kV))∧RelV p.2 q.2.2) kvs xs→∀ (i:Nat) x,xs[i]? = some x→∃ p,kvs[i]? = some p∧H x.2.1=some (.tup (p.1.map kV)):=by
   intro kvs xs hp
   induction hp with
   | nil=>intro i x h; simp at h
   | cons h1 _ ih =>
    intro i x h
    cases i with
    | zero =>
     (simp only [List.getElem?_cons_zero,Option.some.injEq] at h)
     subst h
     exact⟨_,rfl,h1.2.1⟩
    | succ i =>
     rw [List.getElem?_cons_succ] at h
     obtain⟨p,hp,hh⟩:=ih i x h
     exact⟨p,by rw [List.getElem?_cons_succ]; exact hp,hh⟩
  obtain⟨p,hp',hh⟩:=key hp i x hxi
  exact⟨x.2.1,p.1,by rw [he']; rfl,by rw [List.getElem?_map,hp']; rfl,hh⟩
theorem zlr {P:Program} {w:World} {K:PySem.W.Frag} {tg:Expr} (d it:Addr) (o:Obj) (kvs:List (List Key×V)) (es:Array DictEntry) (ep:Nat) (hd:o.data = .dict es ep):Turn P w K tg (Itd d o kvs) [it] it (fun i h=>h.IsKeyIter it d i es.size ep) where
 mem:=by simp
 obj:=fun i h st b hb=>by
  have e:b=it:=by simpa using hb
  subst e
  obtain⟨o,e,c,d⟩:=st
  exact⟨o,e,fun v z=>by rw [d] at z; cases z⟩
 keep:=fun i h h' st k=>st.at fun o e=>k it (by simp) o e
 item:=by
  intro X hP hw hK hc i pins s σ H E I hf st hg
  subst hP hw hK
  obtain⟨hq,hi⟩:=hg
  obtain⟨hraw,hsz,hkey⟩:=zkd hd (I.hok d _ hq)
  have hi':i < es.size:=by omega
  obtain⟨a,k,he,hk,ha⟩:=hkey i es[i] (getElem?_pos es i hi')
  obtain⟨f0,f1,f2,f3,f4,f5⟩:=hf it (by simp)
  refine zj7 st hraw (getElem?_pos es i hi') fun h' st' sb=>?_
  have I1:Inv X pins σ H { s with heap:=h' }:=I.turned (t':=s.toks) (fun b o hb e=>(sb.2 b hb).trans e) f0 f1 f3 f4 f5
  obtain⟨o,e,c,d⟩:=id st'
  exact⟨_,rfl,zgf (s:={ s with heap:=h' }) e c d (by decide) ⟨.ref a,H,I1,by rw [he]; rfl,⟨rfl,a,k,rfl,hk,ha⟩,st',fun b hb=>(hf b hb).1⟩⟩
 done:=by
  intro X hP hw hK hc i pins s σ H E I hf st hg
  subst hP hw hK
  obtain⟨hq,hi⟩:=hg
  obtain⟨hraw,hsz,hkey⟩:=zkd hd (I.hok d _ hq)
  obtain⟨f0,f1,f2,f3,f4,f5⟩:=hf it (by simp)
  exact zlo (I.ok.hd hc) st hraw (by omega) fun h' eb=>⟨rfl,I.turned (t':=s.toks) (fun b o hb e=>eb b o hb e) f0 f1 f3 f4 f5⟩
 self:=fun _ _ _ _ _ st h=>wpAny_pyIter_keyiter st h
theorem Inv.frzT {X:Cx} {pins:List (Addr×Obj)} {σ:St} {H:Hp} {s:Shared} {d:Addr} {o:Obj} {kvs:List (List Key×V)} (I:Inv X pins σ H s) (hd:H d=some (.dT kvs)) (ho:s.heap.get? d=some o):Inv X pins σ (upd H d (.frz o (.dT kvs))) s:=by
 have ne:∀ b u,H b=some u→(∀ k,u≠.dT k)→b≠d:=fun b u e n z=>by subst z; rw [hd] at e; exact n kvs (Option.some.inj e).symm
 have nn:∀ b,H b=none→b≠d:=fun b e z=>by subst z; rw [hd] at e; cases e
 have up:∀ b,H b=none→upd H d (.frz o (.dT kvs)) b=none:=fun b e=>by rw [zl (nn b e)]; exact e
 refine⟨I.ok,I.os,I.bare,⟨I.base.keep,I.base.slot,fun b u e n hx=>up b (I.base.free b u e n hx),I.base.there,fun b xs e=>?_,fun b u xs e=>?_,fun b ps e=>?_⟩,I.loc,I.cell,up _ I.free,fun x c e=>up _ (I.freeC x c e),fun p hp'=>?_,fun b u e=>?_,I.len⟩
 ·have:=I.base.tups b xs e
  rw [zl (ne b _ this fun k z=>by cases z)]
  exact this
 ·have:=I.base.frzs b u xs e
  rw [zl (ne b _ this fun k z=>by cases z)]
  exact this
 ·obtain⟨more,q⟩:=I.base.tbls b ps e
  exact⟨more,by rw [zl (ne b _ q fun k z=>by cases z)]; exact q⟩
 ·obtain⟨a1,a2,a3⟩:=I.pin p hp'
  exact⟨a1,up _ a2,a3⟩
 ·have stay:∀ {u:HO} {b:Addr},zab X.prog X.w H s.heap b u→zab X.prog X.w (upd H d (.frz o (.dT kvs))) s.heap b u:=fun {u b} x=>x.stay (fun c v _ q=>q) (fun c q=>by rw [zl (ne c _ q fun k z=>by cases z)]; exact q) fun c xs q=>by rw [zl (ne c _ q fun k z=>by cases z)]; exact q
  by_cases hb:b=d
  ·subst hb
   rw [zc] at e
   cases e
   exact⟨ho,stay (I.hok b _ hd)⟩
  ·rw [zl hb] at e
   exact stay (I.hok b u e)
def iDT (tl:TE):TI:=fun σ H R=>tl σ H fun x H1=>∃ d kvs,x = .ref d∧H1 d=some (.dT kvs)∧∀ o,R (Itd d o kvs) (upd H1 d (.frz o (.dT kvs)))
theorem znN {X:Cx} {tg l:Expr} {tl:TE} (hl:PE X l tl):PI X tg l (iDT tl):=by
 intro pins s σ H R I h
 refine thn (hl pins s σ H _ I h) fun v s1 ⟨x,H1,I1,r1,q1⟩=>?_
 obtain⟨d,kvs,e,hd,q⟩:=q1
 subst e
 cases r1
 obtain⟨hz,hs,xs,hp,o,es,ep,ho,hx,he,hes,hnd⟩:=I1.hok d _ hd
 have I2:=I1.frzT hd ho
 refine zj6 (es:=es) (ep:=ep) hs ⟨o,ho,hx,he⟩ ?_
 refine⟨s1.heap.objs.size,[s1.heap.objs.size],_,_,_,rfl,I2.kept (t':=s1.toks) fun b o e=>Heap.get?_push_of_some _ e,zlr d _ o kvs es ep he,⟨_,Heap.get?_push_size _ rfl,rfl,rfl⟩,fun b hb=>?_,q o⟩
 have e:b=s1.heap.objs.size:=by simpa using hb
 subst e
 exact I2.fpOk (Nat.le_refl _) (I2.hok.fresh (Nat.le_refl _))
end L2
end
section
set_option maxHeartbeats 4000000
namespace My
open PySem L2 PyProof.Rows
theorem zm1 {X:Cx} {st:Stmt} {ts:TS} (h:PS X st ts):PS X st (fun D σ H=>∃ Pv:L2.St→Hp→Prop,ts { D with nx:=Pv } σ H∧∀ σ' H',Pv σ' H'→D.nx σ' H'):=by
 intro pins s σ H D I hq
 obtain⟨Pv,h1,h2⟩:=hq
 refine thn (h pins s σ H _ I h1) fun f s1 q=>?_
 cases f with
 | next =>
  obtain⟨σ',H',I',p⟩:=q
  exact⟨σ',H',I',h2 _ _ p⟩
 | ret v=>exact q
 | brk=>exact q
 | cont=>exact q
end My
end
section
set_option maxHeartbeats 4000000
namespace L2
open PySem PySem.Spec PyProof.Rows
theorem zls {X:Cx} {K:PySem.W.Frag} {tg l:Expr} {tl:TE} (hK:X.K=K) (hl:PE X l tl):PI X tg l (znt K tl):=by subst hK; exact zfx hl
end L2
end
section
set_option maxHeartbeats 4000000
namespace HT
open PySem PySem.Spec PyProof.Rows
end HT
namespace L2
open PySem PySem.Spec PyProof.Rows
theorem zgI {X:Cx} {K:PySem.W.Frag} {tg l:Expr} {tl:TE} (hK:X.K=K) (hl:PE X l tl):PI X tg l (zl6 K tl):=by subst hK; exact z9 hl
end L2
end
section
set_option maxHeartbeats 4000000
namespace My
open PySem L2 PyProof.Rows
def zhw (K:PySem.W.Frag):Sp:=fun vs H Q _=>∃ (p tm:Int) (a b:Addr) (as bs:List Int),vs = [.int p,.ref a,.int tm,.ref b]∧H a=some (.lst (as.map V.int))∧H b=some (.lst (bs.map V.int))∧as.length=bs.length∧as.length≤1000∧0 < p∧0≤tm∧tm < 1000 ∧
 ∀ (l:Addr) (H':Hp),H l=none→zw H H'→H' l=some (.lst ((List.zipWith (fun x y=>(x - tm*y) % p) as bs).map V.int))→Q (.ref l) H'
def LsA (H:Hp):List Addr→List (List Int)→Prop:=Paired fun b v=>H b=some (.lst (v.map V.int))
theorem LsA.same {H H':Hp} (s:zw H H') {bs:List Addr} {vv:List (List Int)} (h:LsA H bs vv):LsA H' bs vv:=Paired.mono (fun _ _ z=>s _ _ z) h
def ClA (ca:Addr) (H:Hp):List Addr→List (Nat×List Int)→Prop:=Paired fun b a=>∃ wa,H b=some (.tup [.int (a.1:Int),.ref wa])∧H wa=some (.lst (a.2.map V.int))∧wa≠ca
theorem ClA.same {ca:Addr} {H H':Hp} (s:zw H H') {bs:List Addr} {cl:List (Nat×List Int)} (h:ClA ca H bs cl):ClA ca H' bs cl:=Paired.mono (fun _ _ ⟨wa,z1,z2,z3⟩=>⟨wa,s _ _ z1,s _ _ z2,z3⟩) h
theorem ClA.put {ca:Addr} {H:Hp} {bs:List Addr} {cl:List (Nat×List Int)} {xs:List V} {o:HO} (h:ClA ca H bs cl) (hf:H ca=some (.lst xs)):ClA ca (upd H ca o) bs cl:=Paired.mono (fun b _ ⟨wa,z1,z2,z3⟩=>⟨wa,by
 rw [zl (fun e=>by rw [e,hf] at z1; cases z1)]; exact z1,by rw [zl z3]; exact z2,z3⟩) h
theorem zlu {xs:List V} {a b:Nat} (h:b≤xs.length):zcS xs (some (a:Int)) (some (b:Int))=(xs.drop a).take (b - a):=by
 unfold zcS
 rw [HT.sIx_nat,HT.sIx_nat]
 by_cases ha:a≤xs.length
 ·rw [Nat.min_eq_left ha,Nat.min_eq_left h]
 ·rw [show min a xs.length=xs.length by omega,Nat.min_eq_left h,List.drop_of_length_le (Nat.le_refl _),List.drop_of_length_le (show xs.length≤a by omega),List.take_nil,List.take_nil]
end My
end
section
set_option maxHeartbeats 4000000
namespace L2
open PySem PySem.Spec PyProof.Rows
theorem zbS {X:Cx} (hc:X.calm=true):zbh X (.builtin "max") (fun xs H Q=>∃ (p:Addr) (ns:List Int),xs = [.ref p]∧SqL X.K H p (ns.map V.int)∧ns≠[]∧∀ M:Int,M∈ns→(∀ a∈ns,a≤M)→Q (.int M) H):=by
 intro pins s σ H xs us Q I r h
 obtain⟨p,ns,rfl,hq,hn,q⟩:=h
 obtain⟨u,rfl,rx⟩:=vals1 r
 cases rx
 obtain⟨its,rv,pl,hz⟩:=I.list hq
 have hi:IntsAre its ns:=by simpa using intsAre_of rv
 (obtain⟨xs,e⟩:=hi.allInts.items)
 have hns:ns=xs.toList.map (·.1):=by rw [← hi.numsOf,← nums_intItems,← e]
 have hsz:0 < xs.size:=by
  have h3:=List.length_pos_iff.mpr hn
  rw [hns,List.length_map,Array.length_toList] at h3
  exact h3
 have hl:=pl.isList
 rw [e] at hl
 refine max_intList (I.ok.hd hc) hl hsz fun v h' tk hv hk=>?_
 (obtain⟨t,rfl⟩:=intItems_at hv)
 (obtain⟨h1,h2⟩:=argBest_gt (numAt xs) (xs.size - 1))
 refine⟨.int _,H,I.kept hk,⟨_,rfl⟩,q _ ?_ fun a ha=>?_⟩
 ·(rw [hns,numAt_eq]; exact getD_mem (by rw [List.length_map,Array.length_toList]; omega))
 ·rw [hns] at ha
  (obtain⟨j,hj,rfl⟩:=mem_getD ha)
  (rw [List.length_map,Array.length_toList] at hj)
  (rw [← numAt_eq]; exact h2 j (by omega))
end L2
end
section
set_option maxHeartbeats 4000000
namespace PySem
open PyProof.Rows
section
variable {prog:Program} {w:World} {A:Around} {E:Value→Shared→Prop} {s:Shared}
theorem zeB {id:String} {b:Builtin} {args:List Value} {kw:List (Str×Value)} {Q:Value→Shared→Prop} (hk:builtinKind id=none) (hp:plainId id=true) (hb:entryFor table id=some b) (ha:argsOk id ⟨args,kw⟩)
  (hc:wpAny (model prog w) A.in1 (b ⟨args,kw⟩) (fun fin s'=>match fin with
   | .done fl=>(match (Except.ok fl:Result) with | .ok (.ret v)=>Q v s' | .ok _=>False | .error e=>E e s')
   | .again c'=>c'.quiet=true∧codeAny (model prog w) A c' (fun r s'=>match r with | .ok (.ret v)=>Q v s' | .ok _=>False | .error e=>E e s') s') E s):wpAny (model prog w) A (call (.builtin id) args kw) Q E s:=by
 refine (wpAny_call (codeAny_call_builtin hp hb ?_))
 (simp only [checkBuiltinCall,hk])
 cases hs:Manifest.signature? id with
 | none=>exact (wpAny_pure hc)
 | some sg =>
  have a2:Bind.checkArgs id sg ⟨args,kw⟩=pure ():=by simpa only [argsOk,hs] using ha
  simp only [a2]
  exact (wpAny_pure hc)
def Mm (nm lp:String) (op:CmpOp):Prop:=(nm = "max"∧lp = "max.loop"∧op = .Gt)∨(nm = "min"∧lp = "min.loop"∧op = .Lt)
theorem zke {nm lp:String} {op:CmpOp} (hb:Mm nm lp op) (x d:Value):argsOk nm ⟨[x],[(Str.ofString "default",d)]⟩:=by rcases hb with ⟨rfl,_,_⟩ | ⟨rfl,_,_⟩ <;> (unfold argsOk; kernel_rfl)
theorem zlv {nm lp:String} {op:CmpOp} {R:Result→Shared→Prop} {I:Addr} {fp wr:List Addr} {n:Nat} {P:Nat→Value→Prop} {St:Nat→Heap→Prop} {kw:List (Str×Value)} (hb:Mm nm lp op) (W:Walks prog w A.in1 I fp wr n P St) (bt:Nat→Nat→Bool) (hcmp:CmpOf prog w A.in1 op P bt) (S:Addr) (hSf:S∉fp) :
  ∀ (k j:Nat) (s:Shared) (vb:Value) (c:Nat),n - (j+1)=k→j+1≤n→St (j+1) s.heap→P (argBest bt j) vb→s.heap.get? S=some { cls:=.type "list",dict:=none,data:=.seq #[vb,vb] c,slots:=#[] }→(∀ v h' tk,P (argBest bt (n - 1)) v→(∀ b o,b∉wr→b≠S→s.heap.get? b=some o→h'.get? b=some o)→R (.ok (.ret v)) { s with heap:=h',toks:=tk })→codeAny (model prog w) A (.builtin lp ⟨[.ref I,.none,.ref S],kw⟩) R s:=by
 have hw:S∉wr:=fun h=>hSf (W.sub _ h)
 have e1:(toString "max"++toString ".loop" : String) = "max.loop":=by decide
 have e2:(toString "min"++toString ".loop" : String) = "min.loop":=by decide
 intro k
 induction k with
 | zero =>
  (intro j s vb c hk hj hst hPb hS hR)
  obtain rfl:j+1=n:=by omega
  rcases hb with ⟨rfl,rfl,rfl⟩ | ⟨rfl,rfl,rfl⟩
  case' inl=>(have en:=F.entry_max_loop; have pl:=F.plain_max_loop; have ee:=e1)
  case' inr=>(have en:=F.entry_min_loop; have pl:=F.plain_min_loop; have ee:=e2)
  all_goals
   (refine codeAny_builtin en ?_
    rw [Around.under_plainId pl _]
    show wpAny _ A.in1 (seqItems? (Value.ref S) >>= _) _ _ s; refine (wpAny_bind (wpAny_seqItems hS rfl ?_))
    show wpAny _ A.in1 (tryCatch (pyNext (Value.ref I)) _ >>= _) _ _ s; refine (wpAny_bind (wpAny_tryCatch (W.done s _ _ hst fun h' tk q=>?_)))
    show wpAny _ A.in1 (updateSeq S (fun _=>(#[]:Array Value)) >>= _) _ _ _; refine (wpAny_bind (wpAny_updateSeq (q S _ hw hS) rfl (wpAny_bind (wpAny_letGo (wpAny_pure ?_)))))
    exact (hR vb _ tk hPb fun b o h1 h2 e=>(Heap.get?_update_other _ _ (Ne.symm h2)).trans (q b o h1 e)))
 | succ k ih =>
  (intro j s vb c hk hj hst hPb hS hR)
  (have hlt:j+1 < n:=by omega)
  rcases hb with ⟨rfl,rfl,rfl⟩ | ⟨rfl,rfl,rfl⟩
  case' inl=>(have en:=F.entry_max_loop; have pl:=F.plain_max_loop; have ee:=e1)
  case' inr=>(have en:=F.entry_min_loop; have pl:=F.plain_min_loop; have ee:=e2)
  all_goals
   (refine codeAny_builtin en ?_
    rw [Around.under_plainId pl _]
    show wpAny _ A.in1 (seqItems? (Value.ref S) >>= _) _ _ s; refine (wpAny_bind (wpAny_seqItems hS rfl ?_))
    show wpAny _ A.in1 (tryCatch (pyNext (Value.ref I)) _ >>= _) _ _ s; refine (wpAny_bind (wpAny_tryCatch (W.item (j+1) s _ _ hlt hst fun v h' tk hP hst' q=>?_)))
    have hS':=q S _ hw hS
    first
     | show wpAny _ A.in1 (tryCatch (holding [v,v] (richCompare CmpOp.Gt v vb >>= _)) _ >>= _) _ _ _; refine (wpAny_bind (wpAny_tryCatch (wpAny_holding (wpAny_bind (hcmp (j+1) (argBest bt j) v vb _ _ _ hP hPb ?_)))))
     | show wpAny _ A.in1 (tryCatch (holding [v,v] (richCompare CmpOp.Lt v vb >>= _)) _ >>= _) _ _ _; refine (wpAny_bind (wpAny_tryCatch (wpAny_holding (wpAny_bind (hcmp (j+1) (argBest bt j) v vb _ _ _ hP hPb ?_)))))
    refine (wpAny_bind (wpAny_holding (wpAny_truthy_bool (wpAny_bind (wpAny_letGo (wpAny_pure ?_))))))
    cases eb:bt (j+1) (argBest bt j)
    ·(simp only [Bool.false_eq_true,if_false])
     refine (wpAny_bind (wpAny_letGo ?_))
     rw [ee]
     refine (wpAny_pure ⟨plainId_quiet pl _,ih (j+1) _ vb c (by omega) hlt hst' (by simp only [argBest,eb,Bool.false_eq_true,if_false]; exact hPb) hS' fun v' h2 tk2 p2 q2=>?_⟩)
     exact (hR v' h2 tk2 p2 fun b o i1 i2 e=>q2 b o i1 i2 (q b o i1 e))
    ·simp only [if_true]
     refine (wpAny_bind (wpAny_updateSeq hS' rfl (wpAny_bind (wpAny_letGo ?_))))
     rw [ee]
     refine (wpAny_pure ⟨plainId_quiet pl _,ih (j+1) _ v _ (by omega) hlt (W.frame _ _ _ hst' fun b hbf o e=>?_) (by simp only [argBest,eb,if_true]; exact hP) (Heap.get?_update_self _ hS' rfl) fun v' h2 tk2 p2 q2=>?_⟩)
     ·exact (Heap.get?_update_other _ _ (fun h:S=b=>hSf (h ▸ hbf))).trans e
     ·exact (hR v' h2 tk2 p2 fun b o i1 i2 e=>q2 b o i1 i2 ((Heap.get?_update_other _ _ (Ne.symm i2)).trans (q b o i1 e))))
theorem zkf {nm lp:String} {op:CmpOp} {R:Result→Shared→Prop} {I:Addr} {fp wr:List Addr} {n:Nat} {P:Nat→Value→Prop} {St:Nat→Heap→Prop} {ds:Str} {d:Value} (hb:Mm nm lp op) (W:Walks prog w A.in1 I fp wr n P St) (bt:Nat→Nat→Bool) (hcmp:CmpOf prog w A.in1 op P bt) (S:Addr) (hSf:S∉fp) {c:Nat} (hst:St 0 s.heap) (hS:s.heap.get? S=some { cls:=.type "list",dict:=none,data:=.seq #[] c,slots:=#[] })
  (hR:∀ v h' tk,(0 < n→P (argBest bt (n - 1)) v)→(n=0→v=d)→(∀ b o,b∉wr→b≠S→s.heap.get? b=some o→h'.get? b=some o)→R (.ok (.ret v)) { s with heap:=h',toks:=tk }) :
  codeAny (model prog w) A (.builtin lp ⟨[.ref I,.none,.ref S],[(ds,d)]⟩) R s:=by
 have hw:S∉wr:=fun h=>hSf (W.sub _ h)
 have e1:(toString "max"++toString ".loop" : String) = "max.loop":=by decide
 have e2:(toString "min"++toString ".loop" : String) = "min.loop":=by decide
 have L:=@zlv prog w A nm lp op R I fp wr n P St [(ds,d)] hb W bt hcmp S hSf
 rcases hb with ⟨rfl,rfl,rfl⟩ | ⟨rfl,rfl,rfl⟩
 case' inl=>(have en:=F.entry_max_loop; have pl:=F.plain_max_loop; have ee:=e1)
 case' inr=>(have en:=F.entry_min_loop; have pl:=F.plain_min_loop; have ee:=e2)
 all_goals
  (refine codeAny_builtin en ?_
   rw [Around.under_plainId pl _]
   show wpAny _ A.in1 (seqItems? (Value.ref S) >>= _) _ _ s; refine (wpAny_bind (wpAny_seqItems hS rfl ?_))
   rcases Nat.eq_zero_or_pos n with hn | hn
   ·show wpAny _ A.in1 (tryCatch (pyNext (Value.ref I)) _ >>= _) _ _ s; refine (wpAny_bind (wpAny_tryCatch (W.done s _ _ (hn ▸ hst) fun h' tk q=>?_)))
    show wpAny _ A.in1 (rule _ >>= fun _=>pure (Fin.done (Flow.ret d))) _ _ _
    (refine wpAny_bind (wpAny_rule (wpAny_pure ?_)))
    exact hR d h' tk (by omega) (fun _=>rfl) fun b o i1 _ e=>q b o i1 e
   ·show wpAny _ A.in1 (tryCatch (pyNext (Value.ref I)) _ >>= _) _ _ s; refine (wpAny_bind (wpAny_tryCatch (W.item 0 s _ _ hn hst fun v h' tk hP hst' q=>?_)))
    show wpAny _ A.in1 (updateSeq S (fun _=>(#[v,v]:Array Value)) >>= _) _ _ _; refine (wpAny_bind (wpAny_updateSeq (q S _ hw hS) rfl ?_))
    rw [ee]
    refine (wpAny_pure ⟨plainId_quiet pl _,L _ 0 _ v _ rfl hn (W.frame _ _ _ hst' fun b hbf o e=>?_) hP (Heap.get?_update_self _ (q S _ hw hS) rfl) fun v' h2 tk2 p2 q2=>?_⟩)
    ·exact (Heap.get?_update_other _ _ (fun h:S=b=>hSf (h ▸ hbf))).trans e
    ·exact (hR v' h2 tk2 (fun _=>p2) (by omega) fun b o i1 i2 e=>q2 b o i1 i2 ((Heap.get?_update_other _ _ (Ne.symm i2)).trans (q b o i1 e))))
theorem zkg {nm lp:String} {op:CmpOp} {x d:Value} {Q:Value→Shared→Prop} (hb:Mm nm lp op)
  (h:wpAny (model prog w) A.in1 (pyIter x) (fun it s₂=>∃ I fp wr n P St bt,it = .ref I∧Walks prog w A.in1 I fp wr n P St∧St 0 s₂.heap∧(∀ b∈fp,b < s₂.heap.objs.size)∧CmpOf prog w A.in1 op P bt ∧
   ∀ v h' tk,(0 < n→P (argBest bt (n - 1)) v)→(n=0→v=d)→(∀ b o,b∉wr→s₂.heap.get? b=some o→h'.get? b=some o)→Q v { s₂ with heap:=h',toks:=tk }) E s) :
  wpAny (model prog w) A (call (.builtin nm) [x] [(Str.ofString "default",d)]) Q E s:=by
 have aa:=zke hb x d
 have hb':=hb
 have e1:(toString "max"++toString ".loop" : String) = "max.loop":=by decide
 have e2:(toString "min"++toString ".loop" : String) = "min.loop":=by decide
 rcases hb with ⟨rfl,rfl,rfl⟩ | ⟨rfl,rfl,rfl⟩
 case' inl=>(have en:=F.entry_max_loop; have pl:=F.plain_max_loop; have ee:=e1)
 case' inr=>(have en:=F.entry_min_loop; have pl:=F.plain_min_loop; have ee:=e2)
 case' inl =>
  refine zeB F.kind_max F.plain_max F.entry_max aa ?_
  show wpAny _ A.in1 (Builtin.Builtins.bindParams "max" ["key","default"] 0 ⟨[],[(Str.ofString "default",d)]⟩ >>= _) _ _ s
  refine wpAny_bind (wpAny_of_eq (show Builtin.Builtins.bindParams "max" ["key","default"] 0 ⟨[],[(Str.ofString "default",d)]⟩=pure [none,some d] by kernel_rfl) ?_)
 case' inr =>
  refine zeB F.kind_min F.plain_min F.entry_min aa ?_
  show wpAny _ A.in1 (Builtin.Builtins.bindParams "min" ["key","default"] 0 ⟨[],[(Str.ofString "default",d)]⟩ >>= _) _ _ s
  refine wpAny_bind (wpAny_of_eq (show Builtin.Builtins.bindParams "min" ["key","default"] 0 ⟨[],[(Str.ofString "default",d)]⟩=pure [none,some d] by kernel_rfl) ?_)
 all_goals
  (refine (wpAny_bind (wpAny_pure (wpAny_bind (wpAny_mono h (fun it s₂ h2=>?_) fun _ _ e=>e))))
   obtain⟨I,fp,wr,n,P,St,bt,rfl,W,hst,hfp,hc,q⟩:=h2
   refine (wpAny_bind (wpAny_newObj_type ?_))
   rw [ee]
   refine (wpAny_pure ⟨plainId_quiet pl _,zkf hb' W bt hc s₂.heap.objs.size (fun hm=>Nat.lt_irrefl _ (hfp _ hm)) (W.frame _ _ _ hst fun b _ o e=>Heap.get?_push_of_some _ e) (Heap.get?_push_size _ rfl) fun v h' tk p1 p2 hk=>?_⟩)
   exact (q v h' tk p1 p2 fun b o i1 e=>hk b o i1 (Nat.ne_of_lt (Heap.lt_size e)) (Heap.get?_push_of_some _ e)))
end
end PySem
namespace L2
open PySem PySem.Spec PyProof.Rows
def zof (K:PySem.W.Frag) (gt:Bool) (d:Int) (td:TE):TE:=fun σ H Q=>td σ H fun x H1=>∃ (p:Addr) (ns:List Int),x = .ref p∧SqL K H1 p (ns.map V.int) ∧
 ∀ M:Int,(ns = []→M=d)→(ns≠[]→M∈ns∧∀ a∈ns,if gt=true then a≤M else M≤a)→Q (.int M) H1
def mmN (gt:Bool):String:=if gt=true then "max" else "min"
theorem zog (gt:Bool):Mm (mmN gt) (if gt=true then "max.loop" else "min.loop") (if gt=true then .Gt else .Lt):=by cases gt <;> simp [Mm,mmN]
theorem znO {prog:Program} {w:World} {A:Around} (gt:Bool) (xs:Array (Int×Tok)):CmpOf prog w A (if gt=true then .Gt else .Lt) (fun i v=>(intItems xs)[i]? = some v) (fun i j=>if gt=true then decide (numAt xs i > numAt xs j) else decide (numAt xs i < numAt xs j)):=by
 cases gt
 ·exact CmpOf.ints_lt (numAt xs) (fun _ _=>intItems_at)
 ·exact CmpOf.ints_gt (numAt xs) (fun _ _=>intItems_at)
theorem zm2 (gt:Bool) (f:Nat→Int):∀ n,argBest (fun i j=>if gt=true then decide (f i > f j) else decide (f i < f j)) n≤n∧∀ j,j≤n→if gt=true then f j≤f (argBest (fun i j=>if gt=true then decide (f i > f j) else decide (f i < f j)) n) else f (argBest (fun i j=>if gt=true then decide (f i > f j) else decide (f i < f j)) n)≤f j:=by
 cases gt
 ·exact fun n=>argBest_lt f n
 ·exact fun n=>argBest_gt f n
theorem zhx {X:Cx} (gt:Bool) {x:Str} {elt ev:Expr} {gs:List Comprehension} {sc:Scope} {cp:Pos} {d:Int} {td:TE} {p pos kp:Pos} (hc:X.calm=true) (hx:bootBuiltins x=some (.builtin (mmN gt))) (hg:Gl X x) (hm:X.mg x=none) (hv:PE X ev (tC (.int d))) (ho:PE X (.ListComp elt gs sc cp) td)
  (hn:x≠"__name__":=by decide) (hdb:(x == ("__debug__" : Str))=false:=by decide) :
  PE X (.Call (.Name x p) [.ListComp elt gs sc cp] [⟨some "default",ev,kp⟩] pos) (zof X.K gt d td):=by
 intro pins s σ H Q I h
 refine wpAny_Call_Name_kw (zba I hg hm hx ?_ hn hdb)
 refine callWith_kw ?_
 show wpAny _ _ (spliced ((false,eval (.ListComp elt gs sc cp) X.env) :: [])) _ _ s
 refine Calls.spliced_cons (thn (ho pins s σ H _ I h) fun v s1 ⟨y,H1,I1,r1,q⟩=>?_)
 refine Calls.spliced_nil (kws_cons (thn (hv pins s1 σ H1 (fun z H2=>z = .int d∧H2=H1) I1 ⟨rfl,rfl⟩) fun u s2 ⟨z,H2,I2,r2,e1,e2⟩=>kws_nil ?_))
 subst e1 e2
 obtain⟨a,ns,rfl,hq,q⟩:=q
 cases r1
 obtain⟨its,rv,pl,hz⟩:=I2.list hq
 have hi:IntsAre its ns:=by simpa using intsAre_of rv
 obtain⟨xs,ex⟩:=hi.allInts.items
 have hns:ns=xs.toList.map (·.1):=by rw [← hi.numsOf,← nums_intItems,← ex]
 have hl:=pl.isList
 rw [ex] at hl
 show wpAny _ _ (call (.builtin (mmN gt)) [.ref a] [(Str.ofString "default",u)]) _ _ _
 refine zkg (zog gt) (iter_intList hl fun s₂ e st hfp hlI=>?_)
 subst e
 refine⟨_,_,_,_,_,_,_,rfl,Walks.list (A:=X.A.in1) (I2.ok.hd hc) _ a hlI (intItems xs),st,hfp,znO gt xs,fun v h' tk p1 p2 hk=>?_⟩
 (have hsz:(intItems xs).size=xs.size:=by simp [intItems])
 have hlen:ns.length=xs.size:=by rw [hns,List.length_map,Array.length_toList]
 have I3:Inv X pins σ H2 { s2 with heap:=h',toks:=tk }:=I2.kept (old_kept hk)
 obtain⟨t2,rfl⟩:=r2
 by_cases h0:xs.size=0
 ·obtain rfl:=p2 (by rw [hsz]; exact h0)
  refine⟨.int d,H2,I3,⟨_,rfl⟩,q d (fun _=>rfl) fun hne=>absurd (List.eq_nil_of_length_eq_zero (by omega)) hne⟩
 ·have hv':=p1 (by omega)
  rw [hsz] at hv'
  obtain⟨t,rfl⟩:=intItems_at hv'
  obtain⟨h1,h2⟩:=zm2 gt (numAt xs) (xs.size - 1)
  refine⟨.int _,H2,I3,⟨_,rfl⟩,q _ (fun h=>by rw [h] at hlen; simp at hlen; omega) fun _=>⟨?_,fun b hb=>?_⟩⟩
  ·(rw [hns,numAt_eq]; exact getD_mem (by rw [List.length_map,Array.length_toList]; omega))
  ·rw [hns] at hb
   obtain⟨j,hj,rfl⟩:=mem_getD hb
   (rw [List.length_map,Array.length_toList] at hj)
   (rw [← numAt_eq]; exact h2 j (by omega))
end L2
end
section
set_option maxHeartbeats 4000000
namespace L2
open PySem PySem.Spec PyProof.Rows
theorem zcq {X:Cx} {K:PySem.W.Frag} (hK:X.K=K):zbh X (.type "tuple") (fun xs H Q=>∃ p ys,xs = [.ref p]∧((SqL K H p ys∧∀ l,H l=none→Q (.ref l) (upd H l (.tup ys)))∨(SqT K H p ys∧Q (.ref p) H))):=by subst hK; exact zaQ
end L2
end
section
set_option maxHeartbeats 4000000
namespace PySem
theorem zdW:typeLookup (.type "zip") "__getattr__" = pure none:=by rw [typeLookup_type,builtinLookup_eq_fast]; kernel_rfl
theorem zfP:typeLookup (.type "zip") "keys" = pure none:=by rw [typeLookup_type,builtinLookup_eq_fast]; kernel_rfl
theorem zkh:entryFor table "zip.__getattribute__" = some Builtin.«object.__getattribute__»:=entryFor_alias (id':="object.__getattribute__") (by kernel_rfl) (by decide +kernel) (by decide +kernel) (by kernel_rfl)
theorem zki (a:Addr) (xs:Array Value) (u:Tok) :
  Meets (Builtin.«object.__getattribute__» ⟨[.ref a,.str "keys" u],[]⟩) (fun A R s=>s.heap.get? a=some { cls:=.type "zip",dict:=none,data:=.fields xs,slots:=#[] }∧raisesAttr (.ref a) "keys" A R s) :=
 Meets.of_wp fun prog w A R s hs0=>by
  (obtain⟨hp,g,d,tk,os⟩:=s)
  obtain⟨hx,hs⟩:=hs0
  have hT:(⟨hp,g,d,tk,os⟩:Shared).TypeIs (.ref a) "zip":=⟨_,hx,rfl⟩
  have hmiss:=zfP
  (unfold Builtin.«object.__getattribute__»); repeat (any_goals (first | assumption | wp_step))
  exact wpAny_raiseAttrError hs.1 hs.2 (attrMsg_fits (by decide +kernel) (by rw [sizeLine_eq]; decide))
theorem zlw {prog:Program} {w:World} {A:Around} {E:Value→Shared→Prop} {s:Shared} {a:Addr} {xs:Array Value} {Q:Option Value→Shared→Prop}
  (hx:s.heap.get? a=some { cls:=.type "zip",dict:=none,data:=.fields xs,slots:=#[] }) (hA:A.handled=none)
  (h:∀ h' tk,(∀ b o,s.heap.get? b=some o→h'.get? b=some o)→Q none { s with heap:=h',toks:=tk }) :
  wpAny (model prog w) A (getAttr? (.ref a) "keys") Q E s:=by
 (obtain⟨hp,g,d,tk,os⟩:=s)
 have hT:∀ tk',(⟨hp,g,d,tk',os⟩:Shared).TypeIs (.ref a) "zip":=fun _=>⟨_,hx,rfl⟩
 have f1:=sub_AttributeError
 have f3:=F.slot_zip_getattribute.lookup
 have f4:=F.slot_zip_getattribute.bind (.ref a)
 have f5:=zdW
 (unfold getAttr? getAttrBy? getAttrBy)
 repeat (any_goals (first | assumption | exact hT _ | ((with_reducible show wpAny _ _ (call (Value.builtin "zip.__getattribute__") _ _) _ _ _); refine call_meets F.slot_zip_getattribute (hT _) zkh (F.args_zip_getattribute_2 _ _) (zki a xs _) ⟨hx,hA,fun h' tk' e hx'=>?_⟩) | wp_step))
 (obtain⟨t',u',he⟩:=hx'.there)
 (show wpAny _ _ (getattributeRaised _ _ _ _ _ _ _) _ _ _)
 unfold getattributeRaised; repeat (any_goals (first | assumption | wp_step))
 exact h _ _ hx'.keeps
end PySem
end
section
set_option maxHeartbeats 4000000
namespace PySem
theorem zgJ:entryFor table "dict.update.loop" = some Builtin.«dict.update.loop»:=entryFor_of_tree (by kernel_rfl)
theorem zdc:plainId "dict.update.loop" = true:=by decide +kernel
end PySem
namespace L2
open PySem PySem.Spec PyProof.Rows
abbrev zoh (n a b:Nat) (i:Nat) (h:Heap):Prop:=(∃ f0 f1,IsZ h (n+4) (n+2) (n+3) f0 f1∧ZF f0 f1)∧IsPair h (n+2) (.ref n) (.ref (n+1))∧(∃ u v,IsPair h (n+3) u v)∧h.IsListIter n a i∧h.IsListIter (n+1) b i
theorem ziR {κ:Type} [DecidableEq κ] {kvs:List (κ×V)} {k:κ} (h:k∉kvs.map (·.1)):zcV kvs k=none:=by
 unfold zcV
 rw [Option.map_eq_none_iff,List.find?_eq_none]
 intro kv hkv e
 have e:kv.1=k:=of_decide_eq_true e
 exact h (List.mem_map.mpr ⟨kv,hkv,e⟩)
theorem zkj {κ:Type} {ks:List κ} {ys:List V} {i:Nat} {k:κ} {y:V} (hk:ks[i]? = some k) (hy:ys[i]? = some y):(ks.zip ys).take (i+1)=(ks.zip ys).take i++[(k,y)]:=by
 have:(ks.zip ys)[i]? = some (k,y):=by rw [List.getElem?_zip_eq_some]; exact⟨hk,hy⟩
 rw [List.take_add_one,this,Option.toList]
theorem zlx {κ:Type} {ks:List κ} {ys:List V} {i:Nat} {k:κ} (hnd:ks.Nodup) (hk:ks[i]? = some k):k∉((ks.zip ys).take i).map (·.1):=by
 intro h
 obtain⟨q,hq,e⟩:=List.mem_map.mp h
 obtain⟨j,hj⟩:=List.mem_iff_getElem?.mp hq
 have hji:j < i:=by
  have:=(List.getElem?_eq_some_iff.mp hj).1
  rw [List.length_take] at this
  omega
 rw [List.getElem?_take_of_lt hji] at hj
 have hkj:ks[j]? = some k:=by
  have hj':(ks.zip ys)[j]? = some (q.1,q.2):=hj
  rw [List.getElem?_zip_eq_some] at hj'
  rw [hj'.1,e]
 have h1:=(List.getElem?_eq_some_iff.mp hkj).1
 have h2:=(List.getElem?_eq_some_iff.mp hk).1
 exact List.pairwise_iff_getElem.mp hnd j i h1 h2 hji (by rw [(List.getElem?_eq_some_iff.mp hkj).2,(List.getElem?_eq_some_iff.mp hk).2])
theorem zly {α β:Type} {R:α→β→Prop} {as:List α} {bs:List β} (h:Paired R as bs):∀ {i:Nat} {x:α},as[i]? = some x→∃ y,bs[i]? = some y∧R x y:=by
 induction h with
 | nil=>intro i x e; simp at e
 | cons h1 _ ih =>
  intro i x e
  cases i with
  | zero=>cases e; exact⟨_,rfl,h1⟩
  | succ i=>exact ih (by simpa using e)
theorem zch {n c:Nat} (h:c∈[n+4,n+3,n,n+1]):c∈zbI n:=by
 simp only [zbI,List.mem_cons,List.not_mem_nil,or_false] at h ⊢
 rcases h with z | z | z | z <;> subst z <;> simp
theorem znP {X:Cx} {pins:List (Addr×Obj)} {σ:St} {H:Hp} {s:Shared} {h':Heap} {tk n:Nat} (I:Inv X pins σ H s) (hf:∀ c∈zbI n,zbE X pins H c) (k1:∀ c o,c∉[n+4,n+3,n,n+1]→s.heap.get? c=some o→h'.get? c=some o):Inv X pins σ H { s with heap:=h',toks:=tk }:=by
 have nit:∀ d u',H d=some u'→d∉[n+4,n+3,n,n+1]:=fun d u' e' hd=>by rw [(hf d (zch hd)).1] at e'; cases e'
 refine I.step (g':=s.gens) (d':=s.drawn) (t':=tk) (ch:=[n+4,n+3,n,n+1]) (fun c hc'=>?_) (fun c o _ _ hcc e _=>k1 c o hcc e) (fun c o _ _ hcc e _=>⟨o.slots,k1 c o hcc e⟩) (fun _ _ _ _ n=>n)
  (fun c o hcc e=>⟨o,k1 c o hcc e⟩) (fun _ _ e=>e) (fun _ _ _ e=>e) (fun c ps e=>⟨#[],by rw [e]; simp⟩) (fun m hm=>?_) (fun c u e=>?_) I.bare
 ·obtain⟨_,a1,_,a3,a4,a5⟩:=hf c (zch hc')
  exact⟨a3,a1,a4,a5⟩
 ·obtain⟨o,es',ep,ho,r⟩:=hm
  exact⟨o,es',ep,k1 _ o (fun z=>(hf _ (zch z)).2.1 rfl) ho,r⟩
 ·refine (I.hok c u e).stay (fun d v' hd q=>k1 d v' ?_ q) (fun _ q=>q) fun _ _ q=>q
  rcases hd with z | z
  ·rw [z]; exact nit c u e
  ·exact nit d _ z
theorem ziS {X:Cx} {pins:List (Addr×Obj)} {σ:St} {H:Hp} {s:Shared} {a b:Addr} {kvs:List (List Key×V)} {k:List Key} {v:V} {r:Value} {A:Around} {E:Value→Shared→Prop} {Q:Unit→Shared→Prop} (hu:A.units+1 < cLine) (I:Inv X pins σ H s) (e:H a=some (.dT kvs)) (eb:H b=some (.tup (k.map kV))) (l:kvs.length < sizeLine) (rv:RelV v r)
  (h:∀ s',(∀ c o,c≠a→s.heap.get? c=some o→s'.heap.get? c=some o)→Inv X pins σ (upd H a (.dT (putK kvs k v))) s'→Q () s'):wpAny (model X.prog X.w) A.in1 (dictSet a (.ref b) r) Q E s:=by
 obtain⟨z,hd,xs,rel,dd⟩:=znL I.hok e
 have hz:xs.length≤sizeLine:=by rw [← Paired.length rel]; exact z
 have hl:(putK kvs k v).length≤sizeLine:=by have:=zgE kvs k v; omega
 refine wpAny_dictSet_heap (hsz:=hz) (tupleKind_room_in1 hu) (zhu I.hok eb) dd fun h' dd' hs=>h _ (fun c o hc eo=>hs.extBut c o hc eo) ?_
 obtain⟨q,es,ep,hq,h2,h3,h4,_,h5⟩:=dd'
 refine zln I (by rw [e]; exact True.intro) hs ⟨q,hq⟩ ⟨hl,hd,_,(rel.put k eb rv).keeps fun c ys ec=>?_,q,es,ep,hq,h2,h3,h4,h5⟩
 rw [zl (znm ec e (fun z=>nomatch z))]
 exact ec
def KyA (H:Hp):List V→List (List Key)→Prop:=Paired fun x k=>∃ c,x = .ref c∧H c=some (.tup (k.map kV))
theorem zlz {X:Cx} {pins:List (Addr×Obj)} {σ:St} {A:Around} {R:Result→Shared→Prop} {H0:Hp} {a b n D:Nat} {xs ys:List V} {ks:List (List Key)} (hh:A.handled=none) (hu:A.units+1 < cLine) (ha:a < n) (hb:b < n)
  (hD:H0 D=none) (hfD:D∉zbI n) (hq1:SqL X.K H0 a xs) (hq2:SqL X.K H0 b ys) (hk:KyA H0 xs ks) (hnd:ks.Nodup) (hf:∀ c∈zbI n,zbE X pins H0 c)
  (hR:∀ s' H',Inv X pins σ H' s'→zw H0 H'→H' D=some (.dT (ks.zip ys))→R (.ok (.ret .none)) s') :
  ∀ (m i:Nat) (t:Tok) (s:Shared) (H:Hp),i+m=min xs.length ys.length→Inv X pins σ H s→zw H0 H→(∀ c∈zbI n,H c=none)→zoh n a b i s.heap→H D=some (.dT ((ks.zip ys).take i)) →
   codeAny (model X.prog X.w) A (.builtin "dict.update.loop" ⟨[.ref D,.ref (n+4),.int i t,.none],[]⟩) R s:=by
 intro m
 induction m with
 | zero =>
  intro i t s H hi I hs hn st hHD
  obtain⟨⟨f0,f1,h1,hzf⟩,h2,⟨u0,v0,h3⟩,h4,h5⟩:=st
  obtain⟨its1,rv1,p1,hz1⟩:=I.list (hs.seq hq1)
  obtain⟨its2,rv2,p2,hz2⟩:=I.list (hs.seq hq2)
  have hl1:=rv1.length
  have hl2:=rv2.length
  refine codeAny_builtin zgJ ?_
  rw [Around.under_plainId zdc _]
  show wpAny _ A.in1 (pyNext (.ref (n+4)) >>= _) _ _ s
  have hh2:A.in1.in1.handled=none:=by simp [hh]
  refine wpAny_bind (zjW (Draws.list hh2 n a (nq (by omega)) its1.toArray) (Draws.list hh2 (n+1) b (nq (by omega)) its2.toArray) (zd7 ha hb) h1 hzf h2 h3 ⟨h4,p1.isList⟩ ⟨h5,p2.isList⟩ (by rw [List.size_toArray,List.size_toArray]; omega) fun h' tk kk=>?_)
  show wpAny _ A.in1 (Builtin.Dict.addKeywords D [] >>= _) _ _ _
  (refine wpAny_bind (wpAny_pure (wpAny_pure ?_)))
  have I1:Inv X pins σ H { s with heap:=h',toks:=tk }:=znP I (fun c hc=>⟨hn c hc,(hf c hc).2⟩) fun c o hc' e=>by
   simp only [List.mem_cons,List.not_mem_nil,or_false,not_or] at hc'
   exact kk c o hc'.1 hc'.2.1 hc'.2.2.1 hc'.2.2.2 e
  refine hR _ _ I1 hs ?_
  rw [hHD,List.take_of_length_le]
  rw [List.length_zip,← Paired.length hk]
  omega
 | succ m ih =>
  intro i t s H hi I hs hn st hHD
  obtain⟨⟨f0,f1,h1,hzf⟩,h2,⟨u0,v0,h3⟩,h4,h5⟩:=st
  obtain⟨its1,rv1,p1,hz1⟩:=I.list (hs.seq hq1)
  obtain⟨its2,rv2,p2,hz2⟩:=I.list (hs.seq hq2)
  have hl1:=rv1.length
  have hl2:=rv2.length
  have hx:xs[i]? = some (xs[i]'(by omega)):=List.getElem?_eq_getElem _
  have hy:ys[i]? = some (ys[i]'(by omega)):=List.getElem?_eq_getElem _
  generalize xs[i]'(by omega)=x at hx
  generalize ys[i]'(by omega)=y at hy
  obtain⟨u,huu,ru⟩:=rv1.get hx
  obtain⟨v,hv,rv⟩:=rv2.get hy
  refine codeAny_builtin zgJ ?_
  rw [Around.under_plainId zdc _]
  show wpAny _ A.in1 (pyNext (.ref (n+4)) >>= _) _ _ s
  have hh2:A.in1.in1.handled=none:=by simp [hh]
  refine wpAny_bind (zh9 (Draws.list hh2 n a (nq (by omega)) its1.toArray) (Draws.list hh2 (n+1) b (nq (by omega)) its2.toArray) (zd7 ha hb) h1 hzf h2 h3 ⟨h4,p1.isList⟩ ⟨h5,p2.isList⟩ (by rw [List.size_toArray]; omega) (by rw [List.size_toArray]; omega)
   fun x' y' h' tk g0 g1 a' b' px py ez ezf e2 e3 t4 t5 pp hsz kk=>?_)
  have eu:x'=u:=by
   have e1:its1[i]? = some x':=by simpa using px
   rw [huu] at e1; exact (Option.some.inj e1).symm
  have ev:y'=v:=by
   have e1:its2[i]? = some y':=by simpa using py
   rw [hv] at e1; exact (Option.some.inj e1).symm
  subst eu ev
  obtain⟨k,hki,kc,rfl,hkc⟩:=zly hk hx
  cases ru
  have hff:∀ c∈zbI n,zbE X pins H c:=fun c hc=>⟨hn c hc,(hf c hc).2⟩
  have hes:n+4 < s.heap.objs.size:=Heap.lt_size h1
  have k1:∀ c o,c∉[n+4,n+3,n,n+1]→s.heap.get? c=some o→h'.get? c=some o:=fun c o hc' eo=>by
   simp only [List.mem_cons,List.not_mem_nil,or_false,not_or] at hc'
   exact kk c o hc'.1 hc'.2.1 hc'.2.2.1 hc'.2.2.2 eo
  have I1:Inv X pins σ H { s with heap:=h',toks:=tk }:=znP I hff k1
  show wpAny _ A.in1 (holding [.ref s.heap.objs.size] _ >>= _) _ _ _
  (refine wpAny_bind (wpAny_holding ?_))
  (refine wpAny_bind (wpAny_tryCatch ?_))
  unfold Builtin.Dict.pairItems
  have hT:({ s with heap:=h',toks:=tk }:Shared).TypeIs (.ref s.heap.objs.size) "tuple":=⟨_,pp,rfl⟩
  (refine wpAny_bind (wpAny_typeOf hT ?_))
  rw [if_pos (by decide)]
  refine wpAny_bind (wpAny_seqItems pp rfl (wpAny_pure ?_))
  show wpAny _ A.in1 (holding [.ref kc,y'] (dictSet D (.ref kc) y')) _ _ _
  have hlt:((ks.zip ys).take i).length < sizeLine:=by
   rw [List.length_take]
   omega
  refine wpAny_holding (ziS (A:=A) hu I1 hHD (hs _ _ hkc) hlt rv fun s2 k2 I2=>?_)
  rw [zj2 _ (ziR (zlx hnd hki)),← zkj hki hy] at I2
  have nD:∀ c,c∈zbI n→c≠D:=fun c hc z=>hfD (by rw [← z]; exact hc)
  refine wpAny_pure ⟨plainId_quiet zdc _,?_⟩
  show codeAny _ A (.builtin "dict.update.loop" ⟨[.ref D,.ref (n+4),.int ((i+1:Nat):Int) _,.none],[]⟩) R s2
  refine ih (i+1) _ s2 _ (by omega) I2 (fun c o e=>?_) (fun c hc=>?_) ?_ zc
  ·rw [zl (zq e hD)]
   exact hs c o e
  ·rw [zl (nD c hc)]
   exact hn c hc
  ·exact⟨⟨g0,g1,k2 _ _ (nD _ (by simp)) ez,ezf⟩,k2 _ _ (nD _ (by simp)) e2,⟨_,_,k2 _ _ (nD _ (by simp)) e3⟩,t4.1.at fun o e=>k2 _ o (nD _ (by simp)) e,t5.1.at fun o e=>k2 _ o (nD _ (by simp)) e⟩
def tDZ (K:PySem.W.Frag) (ta:TA):TE:=fun σ H Q=>ta σ H fun vs H1=>∃ a b xs ys ks,vs = [.ref a,.ref b]∧SqL K H1 a xs∧SqL K H1 b ys∧KyA H1 xs ks∧ks.Nodup∧∀ D H',H1 D=none→zw H1 H'→H' D=some (.dT (ks.zip ys))→Q (.ref D) H'
theorem zhy {X:Cx} {p p2 pos pos2:Pos} {a b:Expr} {ta:TA} (hu:X.A.units+2 < cLine) (hc:X.calm=true) (hg:Gl X "dict") (hm:X.mg "dict" = none) (hg2:Gl X "zip") (hm2:X.mg "zip" = none) (ha:PA X [a,b] ta) (hs:starEach [a,b] X.env = [(false,eval a X.env),(false,eval b X.env)]:=by rfl) (hs2:starEach [b] X.env = [(false,eval b X.env)]:=by rfl)
  (hs3:starEach [.Call (.Name "zip" p2) [a,b] [] pos2] X.env = [(false,eval (.Call (.Name "zip" p2) [a,b] [] pos2) X.env)]:=by rfl) :
  PE X (.Call (.Name "dict" p) [.Call (.Name "zip" p2) [a,b] [] pos2] [] pos) (tDZ X.K ta):=by
 intro pins s σ H Q I h
 refine Call_ (zba I hg hm boot_dict (PyProof.Rows.callWith_type1 ?_ hs3 rfl))
 rw [hs3]
 show wpAny _ _ (spliced ((false,eval (.Call (.Name "zip" p2) [a,b] [] pos2) X.env) :: [])) _ _ s
 refine Calls.spliced_cons ?_
 refine Call_ (zba I hg2 hm2 boot_zip (PyProof.Rows.callWith_type1 (thn (ha pos2 pins s σ H _ I h) fun us s1 ⟨vs,H1,I1,r1,q1⟩=>?_) (by rw [hs,hs2]) (by rw [hs2]; rfl)))
 obtain⟨l1,l2,xs,ys,ks,e,hq1,hq2,hky,hnd,q⟩:=q1
 subst e
 cases r1 with
 | cons r rr =>
  cases rr with
  | cons r' rr =>
   cases rr
   cases r
   cases r'
   obtain⟨its1,rv1,pl1,hz1⟩:=I1.list hq1
   obtain⟨its2,rv2,pl2,hz2⟩:=I1.list hq2
   have hlt1:l1 < s1.heap.objs.size:=by obtain⟨_,_,e,_⟩:=pl1; exact Heap.lt_size e
   have hlt2:l2 < s1.heap.objs.size:=by obtain⟨_,_,e,_⟩:=pl2; exact Heap.lt_size e
   refine call_zip_2 pl1.isList pl2.isList fun h' b1 b2 b3 b4 b5 b6 kk=>?_
   refine Calls.spliced_nil ?_
   have I2:Inv X pins σ H1 { s1 with heap:=h' }:=I1.kept (t':=s1.toks) kk
   have hfp:∀ c∈zbI s1.heap.objs.size,zbE X pins H1 c:=fun c hc=>by
    have hle:s1.heap.objs.size≤c:=by
     simp only [zbI,List.mem_cons,List.not_mem_nil,or_false] at hc
     rcases hc with z | z | z | z | z <;> subst z
     all_goals first | exact Nat.le_add_right _ _ | exact Nat.le_refl _
    exact I1.fpOk hle (I1.hok.fresh hle)
   generalize hn:s1.heap.objs.size=n at b1 b2 b3 b4 b5 b6 hlt1 hlt2 hfp ⊢
   refine callType_codes (Q₁:=fun obj s₁=>obj = .ref h'.objs.size∧s₁ = { s1 with heap:=h'.push { cls:=.type "dict",data:=.dict #[] } }) F.kt_called_dict (F.kt_typeCall_dict_1 _) F.entry_dict_init (kt_code_dict_new _ ⟨rfl,rfl⟩) ?_
   rintro obj s₁ ⟨rfl,rfl⟩
   have hpn:∀ c o,h'.get? c=some o→(h'.push { cls:=.type "dict",data:=.dict #[] }).get? c=some o:=fun c o e=>Heap.get?_push_of_some _ e
   have I3:Inv X pins σ (upd H1 h'.objs.size (.dT [])) { s1 with heap:=h'.push { cls:=.type "dict",data:=.dict #[] } } :=
    I2.laid (a:=h'.objs.size) (o:=.dT []) (t':=s1.toks) hpn (Nat.le_refl _) (zj4 h' I2.big)
   have hT:({ s1 with heap:=h'.push { cls:=.type "dict",data:=.dict #[] } }:Shared).TypeIs (.ref h'.objs.size) "dict":=⟨_,Heap.get?_push_size _ rfl,rfl⟩
   refine⟨hT,F.args_dict_init_2 _ _,?_⟩
   (unfold Builtin.«dict.__init__»; refine wpAny_bind ?_; unfold Builtin.Dict.selfAndRest)
   (refine wpAny_bind (wpAny_notOrdered_dict hT ?_))
   show wpAny _ _ (pure (h'.objs.size,[Value.ref (n+4)])) _ _ _
   refine (wpAny_pure ?_)
   show wpAny _ _ (Builtin.Dict.updateFrom "dict.__init__" h'.objs.size (.ref (n+4)) [] .none) _ _ _
   (unfold Builtin.Dict.updateFrom)
   have hz3:=hpn _ _ b1
   have hTz:({ s1 with heap:=h'.push { cls:=.type "dict",data:=.dict #[] } }:Shared).TypeIs (.ref (n+4)) "zip":=⟨_,hz3,rfl⟩
   refine wpAny_bind (wpAny_typeOf hTz ?_)
   rw [if_pos (by decide)]
   have hh:X.A.handled=none:=I.ok.hd hc
   refine wpAny_bind (zlw hz3 (by simp [hh]) fun h2 tk kk2=>?_)
   rw [if_pos (by rfl)]
   refine wpAny_bind (wpAny_rule ?_)
   have I4:Inv X pins σ (upd H1 h'.objs.size (.dT [])) { s1 with heap:=h2,toks:=tk }:=Inv.kept (s:={ s1 with heap:=h'.push { cls:=.type "dict",data:=.dict #[] } }) (t':=tk) I3 kk2
   refine wpAny_bind (zfK (kk2 _ _ hz3) (wpAny_pure ⟨plainId_quiet zdc _,?_⟩))
   have D0:H1 h'.objs.size=none:=I2.hok.fresh (Nat.le_refl _)
   have up:∀ c o,h'.get? c=some o→h2.get? c=some o:=fun c o e=>kk2 c o (hpn c o e)
   refine zlz (X:=X) (pins:=pins) (σ:=σ) (A:=X.A.in1) (H0:=H1) (a:=l1) (b:=l2) (n:=n) (D:=h'.objs.size) (xs:=xs) (ys:=ys) (ks:=ks) (by simp [hh]) (by simp only [Around.in1_units]; omega) hlt1 hlt2 D0 ?_ hq1 hq2 hky hnd hfp (fun s' H' I' e1 e2=>?_) (min xs.length ys.length) 0 _ _ _ (by omega) I4 (fun c o e=>?_) (fun c hc=>?_) ?_ ?_
   ·rw [b6]
    simp
   ·exact⟨rfl,.ref h'.objs.size,_,I',rfl,q _ _ D0 e1 e2⟩
   ·rw [zl (zq e D0)]
    exact e
   ·rw [zl]
    ·exact (hfp c hc).1
    ·rw [b6]
     simp only [zbI,List.mem_cons,List.not_mem_nil,or_false] at hc
     rcases hc with z | z | z | z | z <;> subst z <;> exact nq (by omega)
   ·exact⟨⟨_,_,up _ _ b1,.inl rfl,_,rfl⟩,up _ _ b2,⟨_,_,up _ _ b3⟩,b4.at fun o e=>up _ o e,b5.at fun o e=>up _ o e⟩
   ·rw [List.take_zero]
    exact zc
end L2
end
section
set_option maxHeartbeats 4000000
namespace PySem
theorem zdd:typeLookup (.type "list") (dunderI "add")=pure (some (.builtin "list.__iadd__")):=by rw [typeLookup_type,builtinLookup_eq_fast]; kernel_rfl
theorem zeW:seqSlot? (.type "list") (dunderI "add")=pure (some (.builtin "list.__iadd__")):=by
 unfold seqSlot?
 rw [zdd]
 kernel_rfl
theorem zfQ:fillsInplaceSlot (.type "list") "add" (Operator.Add == .Add)=pure false:=by
 unfold fillsInplaceSlot
 show (typeLookup (.type "list") (dunderI "add") >>= fun fi=>pure (fi.isSome && !isSeqSlot fi))=pure false
 rw [zdd]
 kernel_rfl
theorem ziT {M:Model} {A:Around} {E:Value→Shared→Prop} {s:Shared} {a b:Value} {Q:Value→Shared→Prop} (ha:s.TypeIs a "list") (hb:s.TypeIs b "list")
  (hc:wpAny M A (call (.builtin "list.__iadd__") [a,b]) Q E s):wpAny M A (inplaceOp .Add a b) Q E s:=by
 (unfold inplaceOp; refine wpAny_holding ?_)
 refine wpAny_bind (wpAny_typeOf ha (wpAny_bind (wpAny_of_eq zfQ ?_)))
 (show wpAny M A (if false=true then _ else _) Q E s)
 rw [if_neg Bool.false_ne_true]
 refine wpAny_bind (wpAny_binaryOp1_none (nm:="add") ha hb noFill_list_add ?_)
 refine wpAny_bind (wpAny_of_eq zeW ?_)
 exact (wpAny_bind (wpAny_rule hc))
end PySem
namespace L2
open PySem PySem.Spec PyProof.Rows
def zm3:R2:=fun x y H Q=>∃ l b xs zs,x = .ref l∧y = .ref b∧H l=some (.lst xs)∧H b=some (.lst zs)∧xs.length+zs.length≤sizeLine∧Q (.ref l) (upd H l (.lst (xs++zs)))
theorem zkk {X:Cx}:OpR X (inplaceOp .Add) zm3:=by
 intro pins s σ H x y v u Q I rx ry h
 obtain⟨l,b,xs,zs,rfl,rfl,hH,hB,hz,q⟩:=h
 cases rx
 cases ry
 obtain⟨z,its,n,r,hl,e⟩:=I.lstM hH
 obtain⟨z2,its2,n2,r2,hl2,e2⟩:=I.lstM hB
 have hsz:its.toArray.size+its2.toArray.size≤sizeLine:=by rw [List.size_toArray,List.size_toArray]; omega
 have hlong:¬ (!its.toArray.isEmpty && Builtin.List.listTooLong (its.toArray.size+its2.toArray.size))=true:=by
  rw [zeo hsz,Bool.and_false]
  exact Bool.false_ne_true
 refine ziT ⟨_,e,rfl⟩ ⟨_,e2,rfl⟩ (call_meets F.slot_list_iadd ⟨_,e,rfl⟩ F.entry_list_iadd (F.args_list_iadd_2 _ _)
  (AutoSeq1.list___iadd___list_list_0 l its.toArray n b its2.toArray n2 hlong (by rw [List.size_toArray]; omega) (by omega)) ⟨e,e2,?_⟩)
 refine⟨.ref l,_,I.lset (its':=its++its2) hH e (by simp) (r.append r2) ?_,rfl,q⟩
 rw [List.length_append]
 omega
theorem ziU {X:Cx} {K:PySem.W.Frag} {es:List Expr} {k:Nat} {tpos p pos:Pos} {a b:Expr} {ta:TA} (hK:X.K=K) (hg:Gl X "zip") (hm:X.mg "zip" = none) (ha:PA X [a,b] ta) (hs:starEach [a,b] X.env = [(false,eval a X.env),(false,eval b X.env)]:=by rfl) (hs2:starEach [b] X.env = [(false,eval b X.env)]:=by rfl) :
  PI X (.Tuple es k tpos) (.Call (.Name "zip" p) [a,b] [] pos) (iZq (SqT K) (SqL K) ta):=by subst hK; exact zgw hg hm ha hs hs2
theorem zhz {X:Cx} {K:PySem.W.Frag} (hK:X.K=K) (hc:X.calm=true):zbh X (.builtin "sum") (fun xs H Q=>∃ (p:Addr) (ns:List Int),xs = [.ref p]∧SqL K H p (ns.map V.int)∧Q (.int ns.sum) H):=by subst hK; exact zbQ hc
theorem zm4 {X:Cx}:OpR X (compareOp .Is) (fun x y H Q=>∃ a b,x = .bl a∧y = .bl b∧Q (.bl (a == b)) H):=by
 intro pins s σ H x y v u Q I rx ry h
 obtain⟨a,b,rfl,rfl,q⟩:=h
 cases rx
 cases ry
 exact wpAny_pure ⟨.bl (a == b),H,I,by cases a <;> cases b <;> rfl,q⟩
end L2
end
section
set_option maxHeartbeats 4000000
namespace My
open PySem L2 PyProof.Rows
def sh (b:Int):Nat→(Nat→Int)→Nat→Int
 | 0,_,_=>0
 | n+1,l,0=>l 0+b*sh b n (fun t=>l (t+1)) 0
 | n+1,l,j+1=>sh b n (fun t=>l (t+1)) j+b*sh b n (fun t=>l (t+1)) (j+1)
theorem zfR {b:Int}:∀ {n:Nat} {l:Nat→Int} {j:Nat},n≤j→sh b n l j=0
 | 0,_,_,_=>by simp [sh]
 | n+1,l,0,h=>by omega
 | n+1,l,j+1,h=>by
  rw [sh,zfR (by omega),zfR (by omega)]; simp
theorem zfS {b:Int}:∀ {n:Nat} {u v:Nat→Int} {j:Nat},sh b n (fun t=>u t+v t) j=sh b n u j+sh b n v j
 | 0,_,_,_=>by simp [sh]
 | n+1,u,v,0=>by
  have h:=zfS (b:=b) (n:=n) (u:=fun t=>u (t+1)) (v:=fun t=>v (t+1)) (j:=0)
  simp only [sh,h]; grind
 | n+1,u,v,j+1=>by
  have h:=zfS (b:=b) (n:=n) (u:=fun t=>u (t+1)) (v:=fun t=>v (t+1)) (j:=j)
  have h':=zfS (b:=b) (n:=n) (u:=fun t=>u (t+1)) (v:=fun t=>v (t+1)) (j:=j+1)
  simp only [sh,h,h']; grind
theorem zfT {b c:Int}:∀ {n:Nat} {u:Nat→Int} {j:Nat},sh b n (fun t=>c*u t) j=c*sh b n u j
 | 0,_,_=>by simp [sh]
 | n+1,u,0=>by
  have h:=zfT (b:=b) (c:=c) (n:=n) (u:=fun t=>u (t+1)) (j:=0)
  simp only [sh,h]; grind
 | n+1,u,j+1=>by
  have h:=zfT (b:=b) (c:=c) (n:=n) (u:=fun t=>u (t+1)) (j:=j)
  have h':=zfT (b:=b) (c:=c) (n:=n) (u:=fun t=>u (t+1)) (j:=j+1)
  simp only [sh,h,h']; grind
theorem zdL {b:Int}:∀ {n:Nat} {u v:Nat→Int} {j:Nat},(∀ t,t < n→u t=v t)→sh b n u j=sh b n v j
 | 0,_,_,_,_=>by simp [sh]
 | n+1,u,v,0,h=>by
  rw [sh,sh,h 0 (by omega),zdL (n:=n) (v:=fun t=>v (t+1)) fun t ht=>h (t+1) (by omega)]
 | n+1,u,v,j+1,h=>by
  have e:=fun i=>zdL (b:=b) (n:=n) (u:=fun t=>u (t+1)) (v:=fun t=>v (t+1)) (j:=i) fun t ht=>h (t+1) (by omega)
  rw [sh,sh,e j,e (j+1)]
theorem zeC {p b b':Int} (hb:Cg p b b'):∀ {n:Nat} {u v:Nat→Int} {j:Nat},(∀ t,t < n→Cg p (u t) (v t))→Cg p (sh b n u j) (sh b' n v j)
 | 0,_,_,_,_=>by simp only [sh]; exact Cg.refl _ _
 | n+1,u,v,0,h=>by
  simp only [sh]
  exact (h 0 (by omega)).add (hb.mul (zeC hb fun t ht=>h (t+1) (by omega)))
 | n+1,u,v,j+1,h=>by
  simp only [sh]
  exact (zeC hb fun t ht=>h (t+1) (by omega)).add (hb.mul (zeC hb fun t ht=>h (t+1) (by omega)))
theorem zhA {b:Int}:∀ {n:Nat} {f:Nat→Int} {j:Nat},f n=0→sh b (n+1) f j=sh b n f j
 | 0,f,0,h=>by simp [sh,h]
 | 0,f,j+1,h=>by simp [sh]
 | n+1,f,0,h=>by
  rw [sh,zhA (n:=n) (f:=fun t=>f (t+1)) h]; simp only [sh]
 | n+1,f,j+1,h=>by
  have e:=fun i=>zhA (b:=b) (n:=n) (f:=fun t=>f (t+1)) (j:=i) h
  rw [sh,e j,e (j+1)]; simp only [sh]
theorem zfU:∀ {n:Nat} {l:Nat→Int} {j:Nat},j < n→sh 0 n l j=l j
 | 0,_,_,h=>by omega
 | n+1,l,0,_=>by simp [sh]
 | n+1,l,j+1,h=>by
  rw [sh,zfU (n:=n) (l:=fun t=>l (t+1)) (by omega)]; simp
theorem zkl {b b':Int}:∀ {n:Nat} {l:Nat→Int} {j:Nat},sh b' n (sh b n l) j=sh (b+b') n l j
 | 0,_,_=>by simp [sh]
 | n+1,l,j=>by
  have hz:sh b n (fun t=>l (t+1)) n=0:=zfR (Nat.le_refl _)
  have ih:=fun i=>zkl (b:=b) (b':=b') (n:=n) (l:=fun t=>l (t+1)) (j:=i)
  have e:sh b' (n+1) (sh b (n+1) l) j=sh b' (n+1) (fun t=>(if t=0 then l 0 else sh b n (fun t=>l (t+1)) (t - 1))+b*sh b n (fun t=>l (t+1)) t) j:=by
   refine zdL fun t _=>?_
   cases t <;> simp [sh]
  rw [e,zfS,zfT,zhA hz,ih]
  cases j with
  | zero =>
   simp only [sh,if_true]
   have e2:sh b' n (fun t=>if t+1=0 then l 0 else sh b n (fun t=>l (t+1)) (t+1 - 1)) 0=sh (b+b') n (fun t=>l (t+1)) 0:=by
    rw [← ih]; exact zdL fun t _=>by simp
   rw [e2]; grind
  | succ j =>
   simp only [sh]
   have e2:∀ i,sh b' n (fun t=>if t+1=0 then l 0 else sh b n (fun t=>l (t+1)) (t+1 - 1)) i=sh (b+b') n (fun t=>l (t+1)) i:=fun i=>by
    rw [← ih]; exact zdL fun t _=>by simp
   rw [e2,e2]; grind
def ch:Nat→Nat→Int
 | _,0=>1
 | 0,_+1=>0
 | t+1,j+1=>ch t j+ch t (j+1)
theorem zbs:∀ {t j:Nat},t < j→ch t j=0
 | _,0,h=>by omega
 | 0,j+1,_=>rfl
 | t+1,j+1,h=>by rw [ch,zbs (by omega),zbs (by omega)]; rfl
theorem zde {b:Int}:∀ {n:Nat} {l:Nat→Int} {j:Nat},sh b n l j=sm n fun t=>ch t j*b ^ (t - j)*l t
 | 0,_,_=>rfl
 | n+1,l,0=>by
  rw [sh,zde,zcE,← zbJ]
  congr 1
  ·simp [ch]
  ·exact z0 fun i _=>by simp only [ch,Nat.sub_zero]; grind
 | n+1,l,j+1=>by
  rw [sh,zde,zde,zcE,← zbJ,← zeA]
  have e0:ch 0 (j+1)*b ^ (0 - (j+1))*l 0=0:=by simp [ch]
  rw [e0,Int.zero_add]
  refine z0 fun i _=>?_
  have e1:i+1 - (j+1)=i - j:=by omega
  rw [ch,e1]
  by_cases h:j+1≤i
  ·have e2:i - j=(i - (j+1))+1:=by omega
   rw [e2,Int.pow_succ]; grind
  ·rw [zbs (t:=i) (j:=j+1) (by omega)]; simp
theorem zd9:∀ {t j:Nat},((j:Int)+1)*ch t (j+1)=((t:Int) - j)*ch t j
 | 0,0=>by simp [ch]
 | 0,j+1=>by simp [ch]
 | t+1,0=>by
  have h:=zd9 (t:=t) (j:=0)
  simp only [ch] at h ⊢
  push_cast at h ⊢; grind
 | t+1,j+1=>by
  have h:=zd9 (t:=t) (j:=j)
  have h':=zd9 (t:=t) (j:=j+1)
  simp only [ch] at h h' ⊢
  push_cast at h h' ⊢; grind
theorem zm5 {t j:Nat}:ch t j*((t:Int) - j) / ((j:Int)+1)=ch t (j+1):=by
 rw [Int.mul_comm,← zd9]
 exact Int.mul_ediv_cancel_left _ (by omega)
def hs (b:Int):Nat→(Nat→Int)→Nat→Int
 | 0,_,_=>0
 | n+1,l,0=>l 0+b*hs b n (fun t=>l (t+1)) 0
 | n+1,l,j+1=>hs b n (fun t=>l (t+1)) j
theorem zfV {b:Int}:∀ {n:Nat} {l:Nat→Int} {j:Nat},n≤j→hs b n l j=0
 | 0,_,_,_=>by simp [hs]
 | n+1,l,0,h=>by omega
 | n+1,l,j+1,h=>by rw [hs,zfV (by omega)]
theorem zea {b:Int}:∀ {n:Nat} {l:Nat→Int} {j:Nat},j < n→hs b n l j=l j+b*hs b n l (j+1)
 | 0,_,_,h=>by omega
 | n+1,l,0,h=>by simp only [hs]
 | n+1,l,j+1,h=>by
  rw [hs,zea (n:=n) (l:=fun t=>l (t+1)) (by omega)]; rfl
theorem zkm {b:Int}:∀ {n:Nat} {l:Nat→Int},sh b (n+1) l 0=hs b (n+1) l 0∧∀ j,sh b (n+1) l (j+1)=sh b n (fun t=>hs b (n+1) l (t+1)) j
 | 0,l=>by simp [sh,hs]
 | n+1,l=>by
  obtain⟨h0,h1⟩:=zkm (b:=b) (n:=n) (l:=fun t=>l (t+1))
  refine⟨?_,fun j=>?_⟩
  ·rw [sh,h0]; simp only [hs]
  ·rw [sh]
   have e:sh b (n+1) (fun t=>hs b (n+2) l (t+1)) j=sh b (n+1) (fun t=>hs b (n+1) (fun t=>l (t+1)) t) j:=zdL fun t _=>by rw [hs]
   rw [e]
   cases j with
   | zero=>rw [h0,h1 0]; simp only [sh]
   | succ j=>rw [h1 j,h1 (j+1)]; simp only [sh]
def qo (b:Int) (n:Nat) (l:Nat→Int):Nat→Nat→Int
 | 0=>l
 | f+1=>fun t=>hs b (n - f) (qo b n l f) (t+1)
theorem zmi {b:Int} {n:Nat} {l:Nat→Int}:∀ {f:Nat},f≤n→∀ j,sh b n l (f+j)=sh b (n - f) (qo b n l f) j
 | 0,_,j=>by rw [Nat.zero_add]; rfl
 | f+1,h,j=>by
  have ih:=zmi (b:=b) (n:=n) (l:=l) (f:=f) (by omega) (j+1)
  have e:f+1+j=f+(j+1):=by omega
  have e2:n - f=(n - (f+1))+1:=by omega
  rw [e,ih,e2,(zkm).2 j]
  refine zdL fun t _=>?_
  rw [qo,e2]
theorem zkn {b:Int} {n:Nat} {l:Nat→Int} {f:Nat} (h:f < n):sh b n l f=hs b (n - f) (qo b n l f) 0:=by
 have ih:=zmi (b:=b) (n:=n) (l:=l) (f:=f) (by omega) 0
 have e2:n - f=(n - (f+1))+1:=by omega
 rw [Nat.add_zero] at ih
 rw [ih,e2,(zkm).1]
theorem zlA {a b:Int} {n w:Nat} {g:Nat→Nat→Int} {j i:Nat}:sh b n (fun t=>sh a w (fun s=>g t s) i) j=sh a w (fun s=>sh b n (fun t=>g t s) j) i:=by
 rw [zde,zde]
 have e1:(fun t=>ch t j*b ^ (t - j)*sh a w (fun s=>g t s) i)=fun t=>sm w fun s=>(ch t j*b ^ (t - j))*(ch s i*a ^ (s - i)*g t s):=by
  funext t; rw [zde,← zbJ]
 have e2:(fun s=>ch s i*a ^ (s - i)*sh b n (fun t=>g t s) j)=fun s=>sm n fun t=>(ch t j*b ^ (t - j))*(ch s i*a ^ (s - i)*g t s):=by
  funext s; rw [zde,← zbJ]
  exact z0 fun t _=>by grind
 rw [e1,e2,zfN]
def mv (a b:Int) (n w:Nat) (c:Nat→Nat→Int) (j i:Nat):Int:=sh a w (fun s=>sh b n (fun t=>c t s) j) i
theorem zmj {p a a' b b':Int} {n w:Nat} {c d:Nat→Nat→Int} {j i:Nat} (ha:Cg p a a') (hb:Cg p b b') (h:∀ t s,t < n→s < w→Cg p (c t s) (d t s)):Cg p (mv a b n w c j i) (mv a' b' n w d j i) :=
 zeC ha fun s hs=>zeC hb fun t ht=>h t s ht hs
theorem zmk {a b:Int} {n w:Nat} {c:Nat→Nat→Int} {j i:Nat}:mv a b n w c j i=sm n fun t=>sm w fun s=>c t s*ch t j*ch s i*a ^ (s - i)*b ^ (t - j):=by
 unfold mv
 rw [zde,← zfN]
 refine z0 fun s _=>?_
 rw [zde,← zbJ]
 exact z0 fun t _=>by grind
theorem zlB {p a a' b b':Int} {n w:Nat} {c d:Nat→Nat→Int} (ha:Cg p (a+a') 0) (hb:Cg p (b+b') 0) (hd:∀ t s,t < n→s < w→Cg p (d t s) (mv a b n w c t s)) {j i:Nat} (hj:j < n) (hi:i < w):Cg p (mv a' b' n w d j i) (c j i):=by
 refine (zmj (Cg.refl _ _) (Cg.refl _ _) hd).trans ?_
 have e:mv a' b' n w (fun t s=>mv a b n w c t s) j i=mv (a+a') (b+b') n w c j i:=by
  unfold mv
  have e1:(fun s=>sh b' n (fun t=>sh a w (fun s=>sh b n (fun t=>c t s) t) s) j)=sh a w (fun s=>sh (b+b') n (fun t=>c t s) j):=by
   funext s
   rw [zlA]
   refine zdL fun s _=>?_
   exact zkl (b:=b) (b':=b') (l:=fun t=>c t s)
  rw [e1,zkl]
 rw [show (mv a b n w c)=(fun t s=>mv a b n w c t s) from rfl,e]
 refine (zmj ha hb fun _ _ _ _=>Cg.refl _ _).trans (Cg.of_eq ?_)
 unfold mv
 rw [zfU hi,zfU (l:=fun t=>c t i) hj]
theorem znQ {p a b:Int} {n w:Nat} {c:Nat→Nat→Int} {j i:Nat} (hj:j < n) (hi:i < w) (hc:¬ Cg p (c j i) 0):∃ t s,t < n∧s < w∧¬ Cg p (mv a b n w c t s) 0:=by
 refine Classical.byContradiction fun h=>hc ?_
 have z:∀ t s,t < n→s < w→Cg p (0:Int) (mv a b n w c t s):=fun t s ht hs=>Classical.byContradiction fun q=>h ⟨t,s,ht,hs,fun e=>q e.symm⟩
 have e:=zlB (p:=p) (a:=a) (a':=-a) (b:=b) (b':=-b) (c:=c) (d:=fun _ _=>0) (Cg.of_eq (by omega)) (Cg.of_eq (by omega)) z hj hi
 refine e.symm.trans (Cg.of_eq ?_)
 rw [zmk]
 exact zaF fun t _=>zaF fun s _=>by simp
def zaf (n w:Nat) (g:Nat→Nat→Int):List (List Int):=(List.range n).map fun j=>(List.range w).map fun i=>g j i
theorem zbT {n w j:Nat} {g:Nat→Nat→Int} (h:j < n):(zaf n w g)[j]? = some ((List.range w).map fun i=>g j i):=by
 unfold zaf
 rw [List.getElem?_map,List.getElem?_range h]
 rfl
theorem zbi {n w:Nat} {g g':Nat→Nat→Int} (h:∀ j i,j < n→i < w→g j i=g' j i):zaf n w g=zaf n w g':=by
 unfold zaf
 refine List.map_congr_left fun j hj=>List.map_congr_left fun i hi=>?_
 exact h j i (List.mem_range.mp hj) (List.mem_range.mp hi)
theorem ziV {n w j:Nat} {g:Nat→Nat→Int} {v:Nat→Int}:(zaf n w g).set j ((List.range w).map v)=zaf n w (fun j' i=>if j'=j then v i else g j' i):=by
 refine List.ext_getElem? fun k=>?_
 rw [List.getElem?_set]
 by_cases hk:k < n
 ·rw [zbT hk,zbT hk]
  by_cases e:j=k
  ·subst e
   have hl:j < (zaf n w g).length:=by unfold zaf; rw [List.length_map,List.length_range]; exact hk
   simp [hl]
  ·simp [e,Ne.symm e]
 ·have h1:(zaf n w g)[k]? = none:=List.getElem?_eq_none_iff.mpr (by unfold zaf; rw [List.length_map,List.length_range]; omega)
  have h2:(zaf n w (fun j' i=>if j'=j then v i else g j' i))[k]? = none:=List.getElem?_eq_none_iff.mpr (by unfold zaf; rw [List.length_map,List.length_range]; omega)
  have h3:(zaf n w g).length=n:=by unfold zaf; rw [List.length_map,List.length_range]
  rw [h1,h2,h3]
  split
  ·rw [if_neg (by omega)]
  ·rfl
theorem ziW {w:Nat} {u v:Nat→Int} {f:Int→Int→Int}:List.zipWith f ((List.range w).map u) ((List.range w).map v)=(List.range w).map fun i=>f (u i) (v i):=by
 rw [List.zipWith_map,List.zipWith_self]
def rst (p b:Int) (n:Nat) (c:Nat→Nat→Int) (f idx j i:Nat):Int :=
 (if j < f then sh b n (fun t=>c t i) j else if n≤idx+1+j then hs b (n - f) (qo b n (fun t=>c t i) f) (j - f) else qo b n (fun t=>c t i) f (j - f)) % p
theorem ziX {p b:Int} {n:Nat} {c:Nat→Nat→Int} {j i:Nat} (hj:j < n):rst p b n c 0 0 j i=c j i % p:=by
 unfold rst
 rw [if_neg (by omega)]
 split
 ·rw [Nat.sub_zero,Nat.sub_zero,zea hj,zfV (by omega)]
  simp [qo]
 ·rfl
theorem zko {p b:Int} {n:Nat} {c:Nat→Nat→Int} {j i:Nat} (hj:j < n):rst p b n c n 0 j i=sh b n (fun t=>c t i) j % p:=by
 unfold rst
 rw [if_pos hj]
theorem zkp {p b:Int} {n f:Nat} {c:Nat→Nat→Int} {j i:Nat} (hf:f < n) (hj:j < n):rst p b n c f (n - 1 - f) j i=rst p b n c (f+1) 0 j i:=by
 unfold rst
 by_cases h1:j < f
 ·rw [if_pos h1,if_pos (by omega)]
 ·rw [if_neg h1,if_pos (by omega)]
  by_cases h2:j=f
  ·subst h2
   rw [if_pos (by omega),Nat.sub_self,zkn hf]
  ·rw [if_neg (by omega)]
   have e1:j - f=(j - (f+1))+1:=by omega
   have e2:qo b n (fun t=>c t i) (f+1) (j - (f+1))=hs b (n - f) (qo b n (fun t=>c t i) f) (j - f):=by rw [e1]; rfl
   split
   ·rw [zea (n:=n - (f+1)) (j:=j - (f+1)) (by omega),zfV (n:=n - (f+1)) (j:=j - (f+1)+1) (by omega),e2]; simp
   ·rw [e2]
theorem zkq {p b:Int} {n f idx:Nat} {c:Nat→Nat→Int} {j i:Nat} (hi:idx < n - 1 - f) (hj:j < n):rst p b n c f (idx+1) j i=if j=n - 2 - idx then (rst p b n c f idx (n - 2 - idx) i+b*rst p b n c f idx (n - 2 - idx+1) i) % p else rst p b n c f idx j i:=by
 by_cases h:j=n - 2 - idx
 ·rw [if_pos h,← h]
  unfold rst
  rw [if_neg (by omega),if_pos (by omega),if_neg (by omega),if_neg (by omega),if_neg (by omega),if_pos (by omega),zea (by omega)]
  have e:j+1 - f=j - f+1:=by omega
  rw [e]
  exact ((Cg.emod p _).symm.add ((Cg.refl p b).mul (Cg.emod p _).symm)).mod_eq
 ·rw [if_neg h]
  unfold rst
  split
  ·rfl
  ·by_cases h2:n≤idx+1+j
   ·rw [if_pos h2,if_pos (by omega)]
   ·rw [if_neg h2,if_neg (by omega)]
end My
end
section
set_option maxHeartbeats 4000000
namespace My
open PySem L2 PyProof.Rows
theorem zhB {S:List Nat}:∀ {l:List Nat},l.Nodup→l.length≤(l.filter fun i=>decide (i∉S)).length+S.length:=by
 induction S with
 | nil =>
  intro l _
  rw [List.filter_eq_self.mpr (by simp)]
  exact Nat.le_refl _
 | cons a S ih =>
  intro l hl
  have h1:=ih hl
  have h2:l.filter (fun i=>decide (i∉a :: S))=(l.filter fun i=>decide (i∉S)).filter (fun i=>i != a):=by
   rw [List.filter_filter]
   refine List.filter_congr fun i _=>?_
   by_cases e:i=a <;> by_cases e2:i∈S <;> simp [e,e2]
  have h3:=List.Nodup.erase_eq_filter (hl.filter fun i=>decide (i∉S)) a
  have h4:(l.filter fun i=>decide (i∉S)).length≤((l.filter fun i=>decide (i∉S)).erase a).length+1:=by
   rw [List.length_erase]
   split <;> omega
  rw [h2,← h3,List.length_cons]
  omega
theorem zgK {f:Nat→Int} (m:Nat):∀ n,sm (m+n) f=sm m f+sm n fun j=>f (m+j)
 | 0=>by show sm m f=sm m f+0; omega
 | n+1=>by
  show sm (m+n) f+f (m+n)=sm m f+(sm n (fun j=>f (m+j))+f (m+n))
  rw [zgK m n]
  omega
end My
end
section
set_option maxHeartbeats 4000000
namespace My
open PySem L2 PyProof.Rows
theorem zeD {l:List Nat} {d:Nat} (h:l.Nodup) (hl:∀ x∈l,x < d):l.length≤d:=by
 have h1:=zhB (S:=List.range d) h
 rw [List.filter_eq_nil_iff.mpr (fun x hx=>by have:=hl x hx; simpa using this),List.length_range] at h1
 simpa using h1
theorem zid {p:Int} (hp:p∈zJ) {L N m:Nat} {vs:List (List Int)} {cl:List (Nat×List Int)} (E:Ech p L N m vs cl) (hm:m < N) {w0:List Int} (W0:Wh p L N m vs [] w0):∀ i,i≤cl.length→∃ w,Wh p L N m vs (cl.take i) w
 | 0,_=>⟨w0,by rw [List.take_zero]; exact W0⟩
 | i+1,hi=>by
  obtain⟨w,W⟩:=zid hp E hm W0 i (by omega)
  exact⟨_,zic hp E hm (List.getElem?_eq_getElem (by omega)) W⟩
theorem zkr {p:Int} (hp:p∈zJ) {L:Nat} {vs:List (List Int)} (hv:∀ v∈vs,v.length=L∧∀ c∈v,0≤c∧c < p) (hI:Indep p L vs):∀ m,m≤vs.length→∃ cl,Ech p L vs.length m vs cl
 | 0,_=>⟨[],Ech.start p L vs.length vs⟩
 | m+1,hm=>by
  have rp:=zV hp
  obtain⟨cl,E⟩:=zkr hp hv hI m (by omega)
  have hvm:vs[m]? = some (vs[m]'(by omega)):=List.getElem?_eq_getElem (by omega)
  obtain⟨h1,h2⟩:=hv _ (List.mem_of_getElem? hvm)
  obtain⟨w,W⟩:=zid hp E (by omega) (zgG hp (N:=vs.length) (by omega) hvm h1 h2) cl.length (Nat.le_refl _)
  rw [List.take_length] at W
  by_cases hz:∀ x,x < L→gl w x=0
  ·exfalso
   obtain⟨_,d2,d3⟩:=zkc W (by omega) hz
   have:=hI _ d3 m (by omega)
   rw [d2] at this
   have:=this.eq (by omega) (by omega) (Int.le_refl _) (by omega)
   omega
  ·obtain⟨x,hx⟩:=Classical.not_forall.mp hz
   obtain⟨hx1,hx2⟩:=Classical.not_imp.mp hx
   exact⟨_,zgH hp E (by omega) W hx1 hx2⟩
theorem zks {p:Int} (hp:p∈zJ) {L:Nat} {vs:List (List Int)} (hv:∀ v∈vs,v.length=L∧∀ c∈v,0≤c∧c < p) (hI:Indep p L vs):vs.length≤L:=by
 obtain⟨cl,E⟩:=zkr hp hv hI vs.length (Nat.le_refl _)
 have hn:(cl.map (·.1)).Nodup:=by
  rw [List.nodup_iff_pairwise_ne,List.pairwise_map,List.pairwise_iff_getElem]
  intro i j hi hj hij e
  have h1:=E.up i j _ _ (List.getElem?_eq_getElem hi) (List.getElem?_eq_getElem hj) hij
  have h2:=(E.one j _ (List.getElem?_eq_getElem hj)).2.2.2.2.1
  rw [e,h2] at h1
  cases h1
 have:=zeD hn fun x hx=>by
  obtain⟨a,ha,rfl⟩:=List.mem_map.mp hx
  obtain⟨j,hj⟩:=List.getElem?_of_mem ha
  exact (E.one j a hj).1
 rw [List.length_map,E.ln] at this
 exact this
def dot (n:Nat) (row:List Int) (v:Nat→Int):Int:=sm n fun j=>gl row j*v j
def Sol (p:Int) (n:Nat) (M:List (List Int)) (v:Nat→Int):Prop:=∀ (i:Nat) (row:List Int),M[i]? = some row→Cg p (dot n row v) 0
structure RK (p:Int) (n:Nat) (M:List (List Int)) (pv:List Nat):Prop where
 nd:pv.Nodup
 lt:∀ c∈pv,c < n
 U:∀ v,Sol p n M v→(∀ j,j < n→j∉pv→Cg p (v j) 0)→∀ j,j < n→Cg p (v j) 0
 E:∀ w:Nat→Int,∃ v,Sol p n M v∧∀ j,j < n→j∉pv→v j=w j
structure Gs (p:Int) (n:Nat) (M:List (List Int)) (at':Nat) (pv:List Nat) (R:List (List Int)):Prop where
 ln:R.length=M.length
 rw:∀ row∈R,row.length=n∧∀ c∈row,0≤c∧c < p
 sol:∀ v,Sol p n R v↔Sol p n M v
 pvl:pv.length≤R.length
 piv:∀ (i c:Nat) (row:List Int),pv[i]? = some c→R[i]? = some row→c < at'∧gl row c≠0∧∀ j,j < c→gl row j=0
 low:∀ (i:Nat) (row:List Int),pv.length≤i→R[i]? = some row→∀ j,j < at'→gl row j=0
 nd:pv.Nodup
 plt:∀ c∈pv,c < at'
theorem zlC {p:Int} {n:Nat} {M:List (List Int)} {at':Nat} {pv:List Nat} {R:List (List Int)} (G:Gs p n M at' pv R) (h:∀ (i:Nat) (row:List Int),pv.length≤i→R[i]? = some row→gl row at'=0):Gs p n M (at'+1) pv R:=by
 refine⟨G.ln,G.rw,G.sol,G.pvl,fun i c row h1 h2=>?_,fun i row h1 h2 j hj=>?_,G.nd,fun c hc=>by have:=G.plt c hc; omega⟩
 ·obtain⟨a,b⟩:=G.piv i c row h1 h2
  exact⟨by omega,b⟩
 ·by_cases e:j=at'
  ·rw [e]; exact h i row h1 h2
  ·exact G.low i row h1 h2 j (by omega)
structure El (p:Int) (n:Nat) (M:List (List Int)) (at':Nat) (pv:List Nat) (first:List Int) (k:Nat) (R:List (List Int)):Prop where
 ln:R.length=M.length
 rw:∀ row∈R,row.length=n∧∀ c∈row,0≤c∧c < p
 sol:∀ v,Sol p n R v↔Sol p n M v
 fs:R[pv.length]? = some first
 f0:gl first at'≠0
 piv:∀ (i c:Nat) (row:List Int),pv[i]? = some c→R[i]? = some row→c < at'∧gl row c≠0∧∀ j,j < c→gl row j=0
 low:∀ (i:Nat) (row:List Int),pv.length≤i→R[i]? = some row→∀ j,j < at'→gl row j=0
 cl:∀ (i:Nat) (row:List Int),pv.length < i→i < k→R[i]? = some row→gl row at'=0
 nd:pv.Nodup
 plt:∀ c∈pv,c < at'
theorem zkt {p:Int} {n:Nat} {M:List (List Int)} {at':Nat} {pv:List Nat} {R:List (List Int)} (G:Gs p n M at' pv R) {k0:Nat} {first other:List Int} (hk:pv.length≤k0) (h1:R[k0]? = some first) (h2:R[pv.length]? = some other) (h0:gl first at'≠0) :
  El p n M at' pv first (pv.length+1) ((R.set k0 other).set pv.length first):=by
 have hk0:=(List.getElem?_eq_some_iff.mp h1).1
 have hp0:=(List.getElem?_eq_some_iff.mp h2).1
 have hg:∀ i,((R.set k0 other).set pv.length first)[i]? = if i=pv.length then some first else if i=k0 then some other else R[i]?:=fun i=>by
  by_cases e:i=pv.length
  ·subst e
   rw [if_pos rfl,List.getElem?_set_self (by rw [List.length_set]; exact hp0)]
  ·rw [if_neg e,List.getElem?_set_ne (Ne.symm e)]
   by_cases e2:i=k0
   ·subst e2
    rw [if_pos rfl,List.getElem?_set_self hk0]
   ·rw [if_neg e2,List.getElem?_set_ne (Ne.symm e2)]
 have hsrc:∀ (i:Nat) (row:List Int),((R.set k0 other).set pv.length first)[i]? = some row→∃ j:Nat,R[j]? = some row∧(pv.length≤i→pv.length≤j):=fun i row h=>by
  rw [hg] at h
  by_cases e:i=pv.length
  ·rw [if_pos e] at h
   exact⟨k0,by rw [h1]; exact h,fun _=>hk⟩
  ·rw [if_neg e] at h
   by_cases e2:i=k0
   ·rw [if_pos e2] at h
    exact⟨pv.length,by rw [h2]; exact h,fun _=>Nat.le_refl _⟩
   ·rw [if_neg e2] at h
    exact⟨i,h,id⟩
 refine⟨by rw [List.length_set,List.length_set]; exact G.ln,fun row hr=>?_,fun v=>?_,by rw [hg,if_pos rfl],h0,fun i c row hc hr=>?_,fun i row hi hr=>?_,fun i row hi hk hr=>by omega,G.nd,G.plt⟩
 ·obtain⟨i,hi⟩:=List.getElem?_of_mem hr
  obtain⟨j,hj,_⟩:=hsrc i row hi
  exact G.rw row (List.mem_of_getElem? hj)
 ·rw [← G.sol v]
  constructor
  ·intro h j row hj
   by_cases e:j=k0
   ·refine h pv.length row ?_
    rw [hg,if_pos rfl,← h1,← e]; exact hj
   ·by_cases e2:j=pv.length
    ·refine h k0 row ?_
     rw [hg,if_neg (fun e3=>e (by rw [e2,e3])),if_pos rfl,← h2,← e2]; exact hj
    ·refine h j row ?_
     rw [hg,if_neg e2,if_neg e]; exact hj
  ·intro h i row hi
   obtain⟨j,hj,_⟩:=hsrc i row hi
   exact h j row hj
 ·have hil:i < pv.length:=(List.getElem?_eq_some_iff.mp hc).1
  rw [hg,if_neg (by omega),if_neg (by omega)] at hr
  exact G.piv i c row hc hr
 ·obtain⟨j,hj,hle⟩:=hsrc i row hr
  exact G.low j row (hle hi) hj
theorem zlD {p:Int} {n:Nat} {M:List (List Int)} {at':Nat} {pv:List Nat} {first:List Int} {k:Nat} {R:List (List Int)} (L:El p n M at' pv first k R) {row:List Int} (hr:R[k]? = some row) (h0:gl row at'=0):El p n M at' pv first (k+1) R:=by
 refine⟨L.ln,L.rw,L.sol,L.fs,L.f0,L.piv,L.low,fun i row' h1 h2 h3=>?_,L.nd,L.plt⟩
 by_cases e:i=k
 ·subst e
  rw [hr] at h3
  cases h3
  exact h0
 ·exact L.cl i row' h1 (by omega) h3
theorem zlE {p:Int} (hp:p∈zJ) {n:Nat} {M:List (List Int)} {at':Nat} {pv:List Nat} {first:List Int} {k:Nat} {R:List (List Int)} (L:El p n M at' pv first k R) (hat:at' < n) (hk:pv.length < k) {row:List Int} (hr:R[k]? = some row) :
  El p n M at' pv first (k+1) (R.set k (List.zipWith (fun one other=>(one*gl first at' - gl row at'*other) % p) row first)):=by
 have rp:=zV hp
 obtain⟨r1,r2⟩:=L.rw row (List.mem_of_getElem? hr)
 obtain⟨f1,f2⟩:=L.rw first (List.mem_of_getElem? L.fs)
 have hkl:=(List.getElem?_eq_some_iff.mp hr).1
 obtain⟨nw,hnw⟩:∃ nw,nw=List.zipWith (fun one other=>(one*gl first at' - gl row at'*other) % p) row first:=⟨_,rfl⟩
 rw [← hnw]
 have hg:∀ y,y < n→gl nw y=(gl row y*gl first at' - gl row at'*gl first y) % p:=fun y hy=>by rw [hnw]; exact zhv (by omega) (by omega)
 have hgn:∀ i,(R.set k nw)[i]? = if i=k then some nw else R[i]?:=fun i=>by
  by_cases e:i=k
  ·subst e; rw [if_pos rfl,List.getElem?_set_self hkl]
  ·rw [if_neg e,List.getElem?_set_ne (Ne.symm e)]
 have hdot:∀ v,Cg p (dot n nw v) (gl first at'*dot n row v - gl row at'*dot n first v):=fun v=>by
  unfold dot
  have e:gl first at'*sm n (fun j=>gl row j*v j) - gl row at'*sm n (fun j=>gl first j*v j)=sm n (fun j=>(gl row j*gl first at' - gl row at'*gl first j)*v j):=by
   rw [show ∀ a b c:Int,a - b*c=a+(-b)*c by intros; grind,← zbJ,← zbJ,← zeA]
   exact z0 fun j _=>by grind
  rw [e]
  exact zdK fun j hj=>by
   rw [hg j hj]
   exact (Cg.emod _ _).mul (Cg.refl p _)
 refine⟨by rw [List.length_set]; exact L.ln,fun row' h=>?_,fun v=>?_,by rw [hgn,if_neg (by omega)]; exact L.fs,L.f0,fun i c row' hc h=>?_,fun i row' hi h j hj=>?_,fun i row' hi hik h=>?_,L.nd,L.plt⟩
 ·rcases List.mem_or_eq_of_mem_set h with h | rfl
  ·exact L.rw row' h
  ·rw [hnw]
   refine⟨by rw [List.length_zipWith]; omega,fun c hc=>?_⟩
   obtain⟨x,y,rfl⟩:=zep hc
   exact⟨Int.emod_nonneg _ (by omega),Int.emod_lt_of_pos _ (by omega)⟩
 ·rw [← L.sol v]
  constructor
  ·intro h i row' hi
   by_cases e:i=k
   ·subst e
    rw [hr] at hi
    cases hi
    have h1:=h i nw (by rw [hgn,if_pos rfl])
    have h2:=h pv.length first (by rw [hgn,if_neg (by omega)]; exact L.fs)
    have h3:=((hdot v).symm.trans h1).add ((Cg.refl p (gl row at')).mul h2)
    obtain⟨g0,g1⟩:=zcW (show 0 < p by omega) f2 at'
    refine zdy hp (a:=gl first at') (by rw [Int.emod_eq_of_lt g0 g1]; exact L.f0) ?_
    exact (Cg.of_eq (by omega)).trans (h3.trans (Cg.of_eq (by omega)))
   ·exact h i row' (by rw [hgn,if_neg e]; exact hi)
  ·intro h i row' hi
   rw [hgn] at hi
   by_cases e:i=k
   ·rw [if_pos e] at hi
    cases hi
    have h1:=h k row hr
    have h2:=h pv.length first L.fs
    exact (hdot v).trans ((((Cg.refl p _).mul h1).sub ((Cg.refl p _).mul h2)).trans (Cg.of_eq (by omega)))
   ·rw [if_neg e] at hi
    exact h i row' hi
 ·have hil:i < pv.length:=(List.getElem?_eq_some_iff.mp hc).1
  rw [hgn,if_neg (by omega)] at h
  exact L.piv i c row' hc h
 ·rw [hgn] at h
  by_cases e:i=k
  ·rw [if_pos e] at h
   cases h
   rw [hg j (by omega),L.low k row (by omega) hr j hj,L.low pv.length first (Nat.le_refl _) L.fs j hj,Int.zero_mul,Int.mul_zero]
   rfl
  ·rw [if_neg e] at h
   exact L.low i row' hi h j hj
 ·rw [hgn] at h
  by_cases e:i=k
  ·rw [if_pos e] at h
   cases h
   rw [hg at' hat,show gl row at'*gl first at' - gl row at'*gl first at'=0 by omega]
   rfl
  ·rw [if_neg e] at h
   exact L.cl i row' hi (by omega) h
theorem zm6 {p:Int} {n:Nat} {M:List (List Int)} {at':Nat} {pv:List Nat} {first:List Int} {k:Nat} {R:List (List Int)} (L:El p n M at' pv first k R) (hk:R.length≤k):Gs p n M (at'+1) (pv++[at']) R:=by
 have hf:=(List.getElem?_eq_some_iff.mp L.fs).1
 refine⟨L.ln,L.rw,L.sol,by rw [List.length_append]; show pv.length+1≤_; omega,fun i c row hc hr=>?_,fun i row hi hr j hj=>?_,?_,fun c hc=>?_⟩
 ·by_cases hi:i < pv.length
  ·rw [List.getElem?_append_left hi] at hc
   obtain⟨a,b⟩:=L.piv i c row hc hr
   exact⟨by omega,b⟩
  ·have hil:=(List.getElem?_eq_some_iff.mp hc).1
   rw [List.length_append] at hil
   have hip:i=pv.length:=by have:i < pv.length+1:=hil; omega
   subst hip
   rw [List.getElem?_append_right (Nat.le_refl _),Nat.sub_self] at hc
   cases hc
   rw [L.fs] at hr
   cases hr
   exact⟨by omega,L.f0,L.low pv.length first (Nat.le_refl _) L.fs⟩
 ·rw [List.length_append] at hi
  have hi:pv.length+1≤i:=hi
  by_cases e:j=at'
  ·rw [e]
   exact L.cl i row (by omega) (by have:=(List.getElem?_eq_some_iff.mp hr).1; omega) hr
  ·exact L.low i row (by omega) hr j (by omega)
 ·rw [List.nodup_append]
  exact⟨L.nd,by simp,fun a ha b hb e=>by
   have:=L.plt a ha
   have hb:b=at':=by simpa using hb
   omega⟩
 ·rcases List.mem_append.mp hc with h | h
  ·have:=L.plt c h
   omega
  ·have:c=at':=by simpa using h
   omega
theorem zgL {n c:Nat} {row:List Int} {v:Nat→Int} (hc:c≤n) (h:∀ j,j < c→gl row j=0):dot n row v=sm (n - c) fun j=>gl row (c+j)*v (c+j):=by
 unfold dot
 induction n with
 | zero=>rw [show 0 - c=0 by omega]; rfl
 | succ n ih =>
  by_cases e:c=n+1
  ·subst e
   rw [Nat.sub_self]
   exact zaF fun j hj=>by rw [h j hj,Int.zero_mul]
  ·rw [show n+1 - c=(n - c)+1 by omega]
   show sm n _+_=sm (n - c) _+_
   rw [ih (by omega)]
   dsimp only
   rw [show c+(n - c)=n by omega]
theorem znR {p:Int} (hp:p∈zJ) {n:Nat} {M:List (List Int)} {pv:List Nat} {R:List (List Int)} (G:Gs p n M n pv R):RK p n M pv:=by
 have rp:=zV hp
 have hrow:∀ i,i < pv.length→∃ row,R[i]? = some row:=fun i hi=>⟨R[i]'(by have:=G.pvl; omega),by simp⟩
 have hrg:∀ (i:Nat) (row:List Int),R[i]? = some row→∀ y,0≤gl row y∧gl row y < p:=fun i row h y=>zcW (show 0 < p by omega) (G.rw row (List.mem_of_getElem? h)).2 y
 refine⟨G.nd,G.plt,fun v hv h0=>?_,fun w=>?_⟩
 ·have hv:=(G.sol v).mpr hv
  have key:∀ t,t≤n→∀ j,n - t≤j→j < n→Cg p (v j) 0:=by
   intro t
   induction t with
   | zero=>intro _ j h1 h2; omega
   | succ t ih =>
    intro ht j h1 h2
    have ih:=ih (by omega)
    by_cases e:n - t≤j
    ·exact ih j e h2
    ·have hj:j=n - (t+1):=by omega
     by_cases hpj:j∈pv
     ·obtain⟨i,hi⟩:=List.getElem?_of_mem hpj
      obtain⟨row,hr⟩:=hrow i (List.getElem?_eq_some_iff.mp hi).1
      obtain⟨_,g1,g2⟩:=G.piv i j row hi hr
      have hd:=hv i row hr
      rw [zgL (by omega) g2,show n - j=(n - j - 1)+1 by omega,zcE] at hd
      have hz:Cg p (sm (n - j - 1) fun i=>gl row (j+(i+1))*v (j+(i+1))) 0:=(zdK (g:=fun _=>0) fun m hm=>((Cg.refl p _).mul (ih (j+(m+1)) (by omega) (by omega))).trans (Cg.of_eq (Int.mul_zero _))).trans (Cg.of_eq (zaF fun _ _=>rfl))
      obtain⟨q0,q1⟩:=hrg i row hr j
      refine zdy hp (a:=gl row j) (by rw [Int.emod_eq_of_lt q0 q1]; exact g1) ?_
      have:=hd.sub hz
      exact (Cg.of_eq (by rw [Nat.add_zero]; omega)).trans (this.trans (Cg.of_eq (by omega)))
     ·exact h0 j h2 hpj
  exact fun j hj=>key n (Nat.le_refl _) j (by omega) hj
 ·have key:∀ t,t≤n→∃ v:Nat→Int,(∀ j,n - t≤j→j < n→j∉pv→v j=w j)∧∀ (i c:Nat) (row:List Int),pv[i]? = some c→R[i]? = some row→n - t≤c→Cg p (dot n row v) 0:=by
   intro t
   induction t with
   | zero=>exact fun _=>⟨fun _=>0,fun j h1 h2=>by omega,fun i c row h1 _ h3=>by have:=G.plt c (List.mem_of_getElem? h1); omega⟩
   | succ t ih =>
    intro ht
    obtain⟨v,hv1,hv2⟩:=ih (by omega)
    have hsame:∀ (z:Int) (i c:Nat) (row:List Int),pv[i]? = some c→R[i]? = some row→n - t≤c→dot n row (fun j=>if j=n - (t+1) then z else v j)=dot n row v:=fun z i c row h1 h2 h3=>by
     unfold dot
     refine z0 fun j _=>?_
     dsimp only
     by_cases e:j=n - (t+1)
     ·rw [(G.piv i c row h1 h2).2.2 j (by omega),Int.zero_mul,Int.zero_mul]
     ·rw [if_neg e]
    by_cases hpj:n - (t+1)∈pv
    ·obtain⟨i0,hi0⟩:=List.getElem?_of_mem hpj
     obtain⟨row0,hr0⟩:=hrow i0 (List.getElem?_eq_some_iff.mp hi0).1
     obtain⟨_,g1,g2⟩:=G.piv i0 _ row0 hi0 hr0
     obtain⟨q0,q1⟩:=hrg i0 row0 hr0 (n - (t+1))
     obtain⟨rest,hrest⟩:∃ rest,rest=sm (n - (n - (t+1)) - 1) (fun i=>gl row0 (n - (t+1)+(i+1))*v (n - (t+1)+(i+1))):=⟨_,rfl⟩
     refine⟨fun j=>if j=n - (t+1) then -(inv p (gl row0 (n - (t+1)))*rest) else v j,fun j h1 h2 h3=>?_,fun i c row h1 h2 h3=>?_⟩
     ·dsimp only
      by_cases e:j=n - (t+1)
      ·exact absurd hpj (e ▸ h3)
      ·rw [if_neg e]; exact hv1 j (by omega) h2 h3
     ·by_cases e:n - t≤c
      ·rw [hsame _ i c row h1 h2 e]
       exact hv2 i c row h1 h2 e
      ·have hc:c=n - (t+1):=by omega
       subst hc
       have hii:i=i0:=(List.getElem?_inj (List.getElem?_eq_some_iff.mp h1).1 G.nd).mp (h1.trans hi0.symm)
       subst hii
       rw [hr0] at h2
       cases h2
       rw [zgL (by omega) g2,show n - (n - (t+1))=(n - (n - (t+1)) - 1)+1 by omega,zcE]
       have e2:sm (n - (n - (t+1)) - 1) (fun i=>gl row0 (n - (t+1)+(i+1))*(if n - (t+1)+(i+1)=n - (t+1) then -(inv p (gl row0 (n - (t+1)))*rest) else v (n - (t+1)+(i+1))))=rest:=by
        rw [hrest]
        exact z0 fun j _=>by rw [if_neg (by omega)]
       rw [e2,Nat.add_zero,if_pos rfl]
       have hi1:=zhj hp (h:=gl row0 (n - (t+1))) (by omega) q1
       have h4:Cg p (inv p (gl row0 (n - (t+1)))*gl row0 (n - (t+1))*rest) (1*rest):=hi1.mul (Cg.refl p rest)
       have h5:=(Cg.refl p rest).sub h4
       exact (Cg.of_eq (by grind)).trans (h5.trans (Cg.of_eq (by omega)))
    ·refine⟨fun j=>if j=n - (t+1) then w (n - (t+1)) else v j,fun j h1 h2 h3=>?_,fun i c row h1 h2 h3=>?_⟩
     ·dsimp only
      by_cases e:j=n - (t+1)
      ·rw [if_pos e,e]
      ·rw [if_neg e]; exact hv1 j (by omega) h2 h3
     ·have hne:c≠n - (t+1):=fun e=>hpj (e ▸ List.mem_of_getElem? h1)
      rw [hsame _ i c row h1 h2 (by omega)]
      exact hv2 i c row h1 h2 (by omega)
  obtain⟨v,h1,h2⟩:=key n (Nat.le_refl _)
  refine⟨v,(G.sol v).mp fun i row hr=>?_,fun j hj hn=>h1 j (by omega) hj hn⟩
  by_cases hi:i < pv.length
  ·obtain⟨c,hc⟩:∃ c,pv[i]? = some c:=⟨pv[i],by simp⟩
   exact h2 i c row hc hr (by omega)
  ·refine Cg.of_eq ?_
   unfold dot
   exact zaF fun j hj=>by rw [G.low i row (by omega) hr j hj,Int.zero_mul]
end My
end
section
set_option maxHeartbeats 4000000
namespace My
open PySem L2 PyProof.Rows
abbrev Tm:=Nat×Nat
def cf (x:Int) (n u:Nat):Int:=ch n u*x ^ (n - u)
theorem zfW (x:Int) (n:Nat):cf x n 0=x ^ n:=by
 unfold cf
 cases n <;> simp [ch]
theorem zlF (x:Int) (n u:Nat):cf x (n+1) (u+1)=cf x n u+x*cf x n (u+1):=by
 unfold cf
 by_cases h:u < n
 ·rw [show n+1 - (u+1)=n - u by omega,show n - u=(n - (u+1))+1 by omega,Int.pow_succ]
  show (ch n u+ch n (u+1))*_=_
  grind
 ·have h1:ch n (u+1)=0:=zbs (by omega)
  rw [show n+1 - (u+1)=n - u by omega]
  show (ch n u+ch n (u+1))*_=_
  rw [h1]
  simp
structure Co where
 x:Int
 y:Int
 u:Nat
 v:Nat
def cv (t:Tm) (c:Co):Int:=cf c.x t.1 c.u*cf c.y t.2 c.v
def pco (q:Int×Int×Nat):List Co:=(List.range q.2.2).flatMap fun u=>(List.range (q.2.2 - u)).map fun v=>⟨q.1,q.2.1,u,v⟩
def cos (pts:List (Int×Int×Nat)):List Co:=pts.flatMap pco
def zaG (p:Int) (pts:List (Int×Int×Nat)) (t:Tm):List Int:=(cos pts).map fun c=>cv t c % p
def tz (k:Nat) (t:Tm):Nat:=t.1+(k - 1)*t.2
def tms (k s:Nat):List Tm:=(List.range (s / (k - 1)+1)).map fun j=>(s - (k - 1)*j,j)
def zO (k s:Nat):List Tm:=(List.range s).flatMap (tms k)
theorem zbv (k s:Nat):zO k (s+1)=zO k s++tms k s:=by
 unfold zO
 rw [List.range_succ,List.flatMap_append]
 simp
theorem zcF {k s:Nat} (hk:2≤k) {t:Tm}:t∈tms k s↔tz k t=s:=by
 unfold tms tz
 have k1:0 < k - 1:=by omega
 constructor
 ·intro h
  obtain⟨j,hj,rfl⟩:=List.mem_map.mp h
  have hj:=List.mem_range.mp hj
  have:(k - 1)*j≤s:=by
   have:=(Nat.le_div_iff_mul_le k1).mp (show j≤s / (k - 1) by omega)
   rw [Nat.mul_comm]; exact this
  show s - (k - 1)*j+(k - 1)*j=s
  omega
 ·intro h
  refine List.mem_map.mpr ⟨t.2,List.mem_range.mpr ?_,?_⟩
  ·have:t.2≤s / (k - 1):=(Nat.le_div_iff_mul_le k1).mpr (by rw [Nat.mul_comm]; omega)
   omega
  ·have:s - (k - 1)*t.2=t.1:=by omega
   rw [this]
theorem zas {k s:Nat} (hk:2≤k) {t:Tm}:t∈zO k s↔tz k t < s:=by
 unfold zO
 rw [List.mem_flatMap]
 constructor
 ·rintro⟨z,hz,h⟩
  rw [(zcF hk).mp h]
  exact List.mem_range.mp hz
 ·intro h
  exact⟨tz k t,List.mem_range.mpr h,(zcF hk).mpr rfl⟩
theorem ziY (k s:Nat):(tms k s).Nodup:=by
 unfold tms
 rw [List.nodup_iff_pairwise_ne,List.pairwise_map]
 refine List.Pairwise.imp ?_ List.nodup_range
 intro a b h e
 exact h (congrArg Prod.snd e)
theorem zax {k:Nat} (hk:2≤k):∀ s,(zO k s).Nodup
 | 0=>by simp [zO]
 | s+1=>by
  rw [zbv,List.nodup_append]
  refine⟨zax hk s,ziY k s,fun a ha b hb e=>?_⟩
  subst e
  have h1:=(zas hk).mp ha
  have h2:=(zcF hk).mp hb
  omega
theorem zb8 {k:Nat} (hk:2≤k):∀ s,(zO k s).Pairwise fun a b=>tz k a≤tz k b
 | 0=>by simp [zO]
 | s+1=>by
  rw [zbv,List.pairwise_append]
  refine⟨zb8 hk s,?_,fun a ha b hb=>?_⟩
  ·refine List.Pairwise.imp_of_mem (R:=fun _ _=>True) ?_ (List.pairwise_of_forall fun _ _=>trivial)
   intro a b ha hb _
   rw [(zcF hk).mp ha,(zcF hk).mp hb]
   exact Nat.le_refl _
  ·have h1:=(zas hk).mp ha
   have h2:=(zcF hk).mp hb
   omega
theorem zfk (k:Nat):∀ s,s≤(zO k s).length
 | 0=>Nat.zero_le _
 | s+1=>by
  rw [zbv,List.length_append]
  have:=zfk k s
  have h:1≤(tms k s).length:=by unfold tms; rw [List.length_map,List.length_range]; exact Nat.le_add_left _ _
  omega
theorem zdz (k:Nat) {a:Nat}:∀ {b},a≤b→zO k a <+: zO k b
 | 0,h=>by
  obtain rfl:a=0:=by omega
  exact List.prefix_refl _
 | b+1,h=>by
  by_cases e:a=b+1
  ·rw [e]
   exact List.prefix_refl _
  ·exact (zdz k (show a≤b by omega)).trans (by rw [zbv]; exact List.prefix_append _ _)
def lsum (l:List Tm) (f:Tm→Int):Int:=(l.map f).sum
theorem zku (f:Tm→Int):lsum [] f=0:=rfl
theorem zbc (a:Tm) (l:List Tm) (f:Tm→Int):lsum (a :: l) f=f a+lsum l f:=by simp [lsum]
theorem zdM (l m:List Tm) (f:Tm→Int):lsum (l++m) f=lsum l f+lsum m f:=by simp [lsum]
theorem zdf {p:Int} {f g:Tm→Int}:∀ {l:List Tm},(∀ t∈l,Cg p (f t) (g t))→Cg p (lsum l f) (lsum l g)
 | [],_=>Cg.refl p _
 | a :: l,h=>by
  rw [zbc,zbc]
  exact (h a List.mem_cons_self).add (zdf fun t ht=>h t (List.mem_cons_of_mem _ ht))
theorem zkv {l m:List Int} (h:l.Perm m):l.sum=m.sum:=by
 induction h with
 | nil=>rfl
 | cons a _ ih=>simp [ih]
 | swap a b l=>simp only [List.sum_cons]; omega
 | trans _ _ h1 h2=>rw [h1,h2]
theorem ziZ {l m:List Tm} {f:Tm→Int} (h:l.Perm m):lsum l f=lsum m f:=zkv (h.map f)
theorem zcG {l m:List Tm} {f:Tm→Int} (hl:l.Nodup) (hm:m.Nodup) (h:∀ t,t∈l↔t∈m):lsum l f=lsum m f:=ziZ ((List.perm_ext_iff_of_nodup hl hm).mpr h)
theorem zdg {f:Tm→Int} {g:Nat→Int}:∀ {l:List Tm} {n:Nat},n=l.length→(∀ i t,l[i]? = some t→g i=f t)→sm n g=lsum l f
 | [],_,rfl,_=>rfl
 | a :: l,_,rfl,h=>by
  rw [zbc,List.length_cons,zcE,h 0 a rfl,zdg rfl fun i t e=>h (i+1) t (by simpa using e)]
def gps (k s:Nat):List Tm:=(List.range (s / (k - 1)+1)).flatMap fun j=>(List.range (s - (k - 1)*j+1)).map fun i=>(i,j)
theorem zbB {k s:Nat} (hk:2≤k) {t:Tm}:t∈gps k s↔tz k t≤s:=by
 unfold gps tz
 have k1:0 < k - 1:=by omega
 rw [List.mem_flatMap]
 constructor
 ·rintro⟨j,hj,h⟩
  (obtain⟨i,hi,rfl⟩:=List.mem_map.mp h)
  have hj:=List.mem_range.mp hj
  have hi:=List.mem_range.mp hi
  have:(k - 1)*j≤s:=by
   have:=(Nat.le_div_iff_mul_le k1).mp (show j≤s / (k - 1) by omega)
   rw [Nat.mul_comm]; exact this
  show i+(k - 1)*j≤s
  omega
 ·intro h
  refine⟨t.2,List.mem_range.mpr ?_,List.mem_map.mpr ⟨t.1,List.mem_range.mpr (by omega),rfl⟩⟩
  have:t.2≤s / (k - 1):=(Nat.le_div_iff_mul_le k1).mpr (by rw [Nat.mul_comm]; omega)
  omega
theorem zcH (k s:Nat):(gps k s).Nodup:=by
 unfold gps
 rw [List.nodup_iff_pairwise_ne,List.pairwise_flatMap]
 refine⟨fun j _=>?_,?_⟩
 ·rw [List.pairwise_map]
  refine List.Pairwise.imp ?_ List.nodup_range
  intro a b h e
  exact h (congrArg Prod.fst e)
 ·refine List.Pairwise.imp ?_ List.nodup_range
  intro a b h x hx y hy e
  obtain⟨i,_,rfl⟩:=List.mem_map.mp hx
  obtain⟨i',_,rfl⟩:=List.mem_map.mp hy
  exact h (congrArg Prod.snd e)
theorem zlG {k s:Nat} (hk:2≤k) (f:Tm→Int):lsum (gps k s) f=lsum (zO k (s+1)) f :=
 zcG (zcH k s) (zax hk _) fun t=>by rw [zbB hk,zas hk]; omega
theorem zlH {k s:Nat} (hk:2≤k):(gps k s).length=(zO k (s+1)).length :=
 ((List.perm_ext_iff_of_nodup (zcH k s) (zax hk _)).mpr fun t=>by rw [zbB hk,zas hk]; omega).length_eq
def zlI (p:Int) (L m:Nat) (vs:List (List Int)):Prop:=∀ u:Nat→Int,(∀ x,x < L→Cg p (sm m fun i=>u i*vx vs i x) 0)→∀ i,i < m→Cg p (u i) 0
theorem zlJ {p:Int} {L N m:Nat} {vs:List (List Int)} {cl:List (Nat×List Int)} (hm:m≤N) (E:Ech p L N m vs cl):zlI p L m vs:=fun u hu i hi=>by
 have key:∀ y,sm N (fun i=>(if i < m then u i else 0)*vx vs i y)=sm m (fun i=>u i*vx vs i y):=fun y=>by
  rw [zd8 hm (f:=fun i=>(if i < m then u i else 0)*vx vs i y) (fun i h1 _=>by rw [if_neg (by omega)]; simp)]
  exact z0 fun i hi=>by rw [if_pos hi]
 have h:=E.ii (fun y=>if y < L then sm m (fun i=>u i*vx vs i y) else if y - L < m then u (y - L) else 0) (fun x hx=>?_) (fun i h1 h2=>?_) (fun a ha=>?_) i (by omega)
 ·rw [if_neg (by omega),Nat.add_sub_cancel_left,if_pos hi] at h
  exact h
 ·dsimp only
  rw [if_pos hx,← key]
  refine Cg.of_eq (z0 fun i _=>?_)
  have e:(if L+i < L then sm m (fun i_1=>u i_1*vx vs i_1 (L+i)) else if L+i - L < m then u (L+i - L) else 0)=if i < m then u i else 0:=by rw [if_neg (by omega),Nat.add_sub_cancel_left]
  rw [e]
 ·rw [if_neg (by omega),Nat.add_sub_cancel_left,if_neg (by omega)]
  exact Cg.refl p 0
 ·obtain⟨j,hj⟩:=List.getElem?_of_mem ha
  have:=(E.one j a hj).1
  rw [if_pos this]
  exact hu _ this
theorem zm7 {p:Int} {pts:List (Int×Int×Nat)} {t:Tm} {x:Nat} {c:Co} (h:(cos pts)[x]? = some c):gl (zaG p pts t) x=cv t c % p:=zaR (by unfold zaG; rw [List.getElem?_map,h]; rfl)
theorem zie (p:Int) (pts:List (Int×Int×Nat)) (t:Tm):(zaG p pts t).length=(cos pts).length:=by unfold zaG; rw [List.length_map]
theorem zlK {p:Int} (p0:0 < p) {pts:List (Int×Int×Nat)} {t:Tm}:∀ c∈zaG p pts t,0≤c∧c < p:=fun c hc=>by
 unfold zaG at hc
 obtain⟨d,_,rfl⟩:=List.mem_map.mp hc
 exact⟨Int.emod_nonneg _ (by omega),Int.emod_lt_of_pos _ p0⟩
theorem zkw {p:Int} {pts:List (Int×Int×Nat)} {ts:List Tm} {i x:Nat} {t:Tm} {c:Co} (ht:ts[i]? = some t) (h:(cos pts)[x]? = some c):vx (ts.map (zaG p pts)) i x=cv t c % p:=by
 unfold vx
 rw [List.getD_eq_getElem?_getD,List.getElem?_map,ht]
 exact zm7 h
structure Lst (p:Int) (k:Nat) (pts:List (Int×Int×Nat)) (size:Nat) (g:Tm→Int):Prop where
 rg:∀ t,0≤g t∧g t < p
 top:∃ t,tz k t=size∧g t≠0
 out:∀ t,size < tz k t→g t=0
 ok:∀ c∈cos pts,Cg p (lsum (zO k (size+1)) fun t=>g t*cv t c) 0
 least:∀ h:Tm→Int,(∀ c∈cos pts,Cg p (lsum (zO k size) fun t=>h t*cv t c) 0)→∀ t,tz k t < size→Cg p (h t) 0
 few:(zO k size).length≤(cos pts).length
def gof (ts:List Tm) (c:List Int) (t:Tm):Int:=(List.lookup t (ts.zip c)).getD 0
theorem zhC:∀ {ts:List Tm} {c:List Int} {i:Nat} {t:Tm},ts.Nodup→ts[i]? = some t→gof ts c t=gl c i
 | [],_,_,_,_,h=>(by simp at h)
 | a :: ts,[],i,t,_,_=>by
  show (List.lookup t ([]:List (Tm×Int))).getD 0=_
  rw [zfO (by simp)]
  rfl
 | a :: ts,b :: c,0,t,_,h=>by
  cases h
  unfold gof
  rw [List.zip_cons_cons,List.lookup_cons,beq_self_eq_true]
  rfl
 | a :: ts,b :: c,i+1,t,hn,h=>by
  (have hn':=List.nodup_cons.mp hn)
  have h':ts[i]? = some t:=by simpa using h
  have ne:t≠a:=fun e=>hn'.1 (by rw [← e]; exact List.mem_of_getElem? h')
  have:=zhC (c:=c) hn'.2 h'
  unfold gof at this ⊢
  rw [List.zip_cons_cons,List.lookup_cons,show (t == a)=false by simpa using ne,this]
  unfold gl
  simp
theorem zif:∀ {ts:List Tm} {c:List Int} {t:Tm},gof ts c t≠0→∃ i,i < c.length∧ts[i]? = some t
 | [],_,_,h=>absurd rfl h
 | a :: ts,[],t,h=>absurd rfl h
 | a :: ts,b :: c,t,h=>by
  by_cases e:t=a
  ·exact⟨0,by simp,by rw [e]; rfl⟩
  ·unfold gof at h
   rw [List.zip_cons_cons,List.lookup_cons,show (t == a)=false by simpa using e] at h
   obtain⟨i,h1,h2⟩:=zif (ts:=ts) (c:=c) (t:=t) h
   exact⟨i+1,by simpa using h1,by simpa using h2⟩
theorem zlL {p:Int} (p0:0 < p) {ts:List Tm} {c:List Int} (hc:∀ z∈c,0≤z∧z < p) (t:Tm):0≤gof ts c t∧gof ts c t < p:=by
 unfold gof
 cases h:List.lookup t (ts.zip c) with
 | none=>exact⟨Int.le_refl _,p0⟩
 | some z =>
  have:(t,z)∈ts.zip c:=by
   clear hc
   induction ts generalizing c with
   | nil=>simp at h
   | cons a ts ih =>
    cases c with
    | nil=>simp at h
    | cons b c =>
     rw [List.zip_cons_cons,List.lookup_cons] at h
     cases e:(t == a) with
     | true =>
      rw [e] at h
      cases h
      rw [show t=a by simpa using e]
      exact List.mem_cons_self
     | false =>
      rw [e] at h
      exact List.mem_cons_of_mem _ (ih h)
  exact hc z (List.of_mem_zip this).2
theorem zbj {f:Tm→Int} {q:Tm→Bool}:∀ {l:List Tm},(∀ t∈l,q t=false→f t=0)→lsum l f=lsum (l.filter q) f
 | [],_=>rfl
 | a :: l,h=>by
  have ih:=zbj (l:=l) (f:=f) (q:=q) fun t ht=>h t (List.mem_cons_of_mem _ ht)
  cases e:q a with
  | true=>rw [List.filter_cons_of_pos e,zbc,zbc,ih]
  | false=>rw [List.filter_cons_of_neg (by rw [e]; simp),zbc,h a List.mem_cons_self e,ih]; omega
theorem zdA {k:Nat} {l:List Tm} (h:l.Pairwise fun a b=>tz k a≤tz k b) {i j:Nat} {a b:Tm} (ha:l[i]? = some a) (hb:l[j]? = some b) (hij:i≤j):tz k a≤tz k b:=by
 by_cases e:i=j
 ·subst e
  rw [ha] at hb
  cases hb
  exact Nat.le_refl _
 ·obtain⟨h1,e1⟩:=List.getElem?_eq_some_iff.mp ha
  obtain⟨h2,e2⟩:=List.getElem?_eq_some_iff.mp hb
  have:=List.pairwise_iff_getElem.mp h i j h1 h2 (by omega)
  rw [e1,e2] at this
  exact this
theorem zm8 {p:Int} (p0:0 < p) {k:Nat} (hk:2≤k) {pts:List (Int×Int×Nat)} {S:Nat} {ts:List Tm} (hts:ts=(zO k S).take ((cos pts).length+1)) {c:List Int} {m:Nat} (hc:IsP p (m+1) c) {top:Tm} (htop:ts[m]? = some top) (h1:gl c m=1)
  (hD:Dep p (cos pts).length (ts.map (zaG p pts)) c) (hI:zlI p (cos pts).length m (ts.map (zaG p pts))):Lst p k pts (tz k top) (gof ts c):=by
 have hpre:ts <+: zO k S:=by rw [hts]; exact List.take_prefix _ _
 have hnd:ts.Nodup:=List.Sublist.nodup hpre.sublist (zax hk S)
 have hso:ts.Pairwise fun a b=>tz k a≤tz k b:=List.Pairwise.sublist hpre.sublist (zb8 hk S)
 have hmt:m < ts.length:=(List.getElem?_eq_some_iff.mp htop).1
 have hml:m < (cos pts).length+1:=by
  rw [hts,List.length_take] at hmt
  omega
 have hin:∀ t,gof ts c t≠0→∃ i,i≤m∧ts[i]? = some t:=fun t ht=>by
  obtain⟨i,h1,h2⟩:=zif ht
  exact⟨i,by rw [hc.1] at h1; omega,h2⟩
 have topS:tz k top < S:=(zas hk).mp (hpre.sublist.subset (List.mem_of_getElem? htop))
 have sumAll:∀ F:Tm→Int,lsum (zO k (tz k top+1)) (fun t=>gof ts c t*F t)=lsum ts (fun t=>gof ts c t*F t):=fun F=>by
  rw [zbj (l:=zO k (tz k top+1)) (q:=fun t=>decide (gof ts c t≠0)) fun t _ e=>by
    rw [show gof ts c t=0 by simpa using e]; simp,
   zbj (l:=ts) (q:=fun t=>decide (gof ts c t≠0)) fun t _ e=>by
    rw [show gof ts c t=0 by simpa using e]; simp]
  refine zcG (List.Sublist.nodup List.filter_sublist (zax hk _)) (List.Sublist.nodup List.filter_sublist hnd) fun t=>?_
  rw [List.mem_filter,List.mem_filter,zas hk]
  constructor
  ·rintro⟨_,h⟩
   obtain⟨i,_,hi⟩:=hin t (by simpa using h)
   exact⟨List.mem_of_getElem? hi,h⟩
  ·rintro⟨_,h⟩
   obtain⟨i,him,hi⟩:=hin t (by simpa using h)
   exact⟨Nat.lt_succ_of_le (zdA hso hi htop him),h⟩
 have preM:zO k (tz k top) <+: zO k S:=zdz k (Nat.le_of_lt topS)
 have hM:(zO k (tz k top)).length≤m:=by
  refine Nat.le_of_not_lt fun hlt=>?_
  have hS:(zO k S)[m]? = some top:=by
   obtain⟨r,hr⟩:=hpre
   rw [← hr,List.getElem?_append_left hmt]
   exact htop
  obtain⟨r,hr⟩:=preM
  rw [← hr,List.getElem?_append_left hlt] at hS
  have:=(zas hk).mp (List.mem_of_getElem? hS)
  omega
 have atM:∀ i t,(zO k (tz k top))[i]? = some t→ts[i]? = some t:=fun i t e=>by
  have hi:=(List.getElem?_eq_some_iff.mp e).1
  obtain⟨r,hr⟩:=preM
  have hS:(zO k S)[i]? = some t:=by rw [← hr,List.getElem?_append_left hi]; exact e
  obtain⟨r2,hr2⟩:=hpre
  rw [← hr2,List.getElem?_append_left (by omega)] at hS
  exact hS
 refine⟨zlL p0 hc.2,⟨top,rfl,by rw [zhC hnd htop,h1]; decide⟩,fun t ht=>?_,fun d hd=>?_,fun h hh t ht=>?_,by omega⟩
 ·refine Classical.byContradiction fun hne=>?_
  obtain⟨i,him,hi⟩:=hin t hne
  have:=zdA hso hi htop him
  omega
 ·rw [sumAll]
  obtain⟨x,hx⟩:=List.mem_iff_getElem?.mp hd
  have hx':=(List.getElem?_eq_some_iff.mp hx).1
  have:=hD x hx'
  rw [List.length_map,zdg (l:=ts) (f:=fun t=>gof ts c t*(cv t d % p)) rfl fun i t e=>by rw [zhC hnd e,zkw e hx]] at this
  exact (zdf fun t _=>(Cg.refl p _).mul (Cg.emod p _).symm).trans this
 ·have hu:=hI (fun i=>if i < (zO k (tz k top)).length then h (ts.getD i (0,0)) else 0) (fun x hx=>?_)
  ·obtain⟨i,hi⟩:=List.mem_iff_getElem?.mp ((zas hk).mpr ht)
   have hil:=(List.getElem?_eq_some_iff.mp hi).1
   have:=hu i (by omega)
   rw [if_pos hil,List.getD_eq_getElem?_getD,atM i t hi] at this
   exact this
  ·have hx2:(cos pts)[x]? = some ((cos pts)[x]'hx):=List.getElem?_eq_getElem hx
   rw [zd8 hM fun i h2 _=>by rw [if_neg (by omega)]; simp]
   rw [zdg (l:=zO k (tz k top)) (f:=fun t=>h t*(cv t ((cos pts)[x]'hx) % p)) rfl fun i t e=>by
    rw [if_pos (List.getElem?_eq_some_iff.mp e).1,zkw (atM i t e) hx2,List.getD_eq_getElem?_getD,atM i t e]
    rfl]
   exact (zdf fun t _=>(Cg.refl p _).mul (Cg.emod p _)).trans (hh _ (List.getElem_mem hx))
end My
end
section
set_option maxHeartbeats 4000000
namespace My
open PySem L2 PyProof.Rows
theorem zlM {p:Int} (hp:1 < p) {n:Nat} {M:List (List Int)} {pv:List Nat} (R:RK p n M pv) (h:∀ v,Sol p n M v→∀ j,j < n→Cg p (v j) 0):pv.length=n:=by
 have all:∀ j,j < n→j∈pv:=fun j hj=>Classical.byContradiction fun hn=>by
  obtain⟨v,hv,hw⟩:=R.E fun _=>1
  have:=h v hv j hj
  rw [hw j hj hn] at this
  exact absurd (this.eq (by decide) hp (by decide) (by omega)) (by decide)
 have:=((List.perm_ext_iff_of_nodup R.nd List.nodup_range).mpr fun j=>⟨fun hj=>List.mem_range.mpr (R.lt j hj),fun hj=>all j (List.mem_range.mp hj)⟩).length_eq
 rwa [List.length_range] at this
def zeE (p:Int) (k s:Nat) (pts:List (Int×Int×Nat)):List (List Int):=(cos pts).map fun c=>(gps k s).map fun t=>cv t c % p
theorem zkx {l:List Tm} (hn:l.Nodup) {i:Nat} {t:Tm} (h:l[i]? = some t):l.idxOf t=i:=by
 (obtain⟨hi,e⟩:=List.getElem?_eq_some_iff.mp h)
 rw [← e]
 exact List.Nodup.idxOf_getElem hn i hi
def tri (w:Nat):Nat:=w*(w+1) / 2
theorem zky (w:Nat):tri (w+1)=tri w+(w+1):=by
 unfold tri
 rw [show (w+1)*(w+1+1)=w*(w+1)+2*(w+1) by grind,Nat.add_mul_div_left _ _ (by decide)]
theorem zgM (n:Nat):∀ m,m≤n→((List.range m).map fun u=>n - u).sum+tri (n - m)=tri n
 | 0,_=>by simp
 | m+1,h=>by
  have ih:=zgM n m (by omega)
  rw [List.range_succ,List.map_append,List.sum_append]
  have:tri (n - m)=tri (n - (m+1))+(n - m):=by
   rw [show n - m=(n - (m+1))+1 by omega,zky]
  (simp only [List.map_cons,List.map_nil,List.sum_cons,List.sum_nil])
  omega
theorem zlN (q:Int×Int×Nat):(pco q).length=tri q.2.2:=by
 unfold pco
 rw [List.length_flatMap]
 have:=zgM q.2.2 q.2.2 (Nat.le_refl _)
 have e:(List.range q.2.2).map (fun u=>((List.range (q.2.2 - u)).map fun v=>(⟨q.1,q.2.1,u,v⟩:Co)).length)=(List.range q.2.2).map fun u=>q.2.2 - u:=List.map_congr_left fun u _=>by rw [List.length_map,List.length_range]
 rw [e]
 have t0:tri (q.2.2 - q.2.2)=0:=by rw [Nat.sub_self]; rfl
 omega
def zbU (pts:List (Int×Int×Nat)):Nat:=(pts.map fun q=>tri q.2.2).sum
theorem zcI:∀ pts,(cos pts).length=zbU pts
 | []=>rfl
 | q :: pts=>by
  have ih:=zcI pts
  unfold cos zbU at ih ⊢
  rw [List.flatMap_cons,List.length_append,zlN,ih]
  simp
theorem zlO {pts:List (Int×Int×Nat)} {x y:Int} {w u v:Nat} (h:(x,y,w)∈pts) (hu:u < w) (hv:v < w - u):(⟨x,y,u,v⟩:Co)∈cos pts:=by
 unfold cos
 refine List.mem_flatMap.mpr ⟨_,h,?_⟩
 unfold pco
 exact List.mem_flatMap.mpr ⟨u,List.mem_range.mpr hu,List.mem_map.mpr ⟨v,List.mem_range.mpr hv,rfl⟩⟩
def zat (k s:Nat) (g:Tm→Int):List (List Int):=(List.range (s / (k - 1)+1)).map fun j=>(List.range (s - (k - 1)*j+1)).map fun i=>g (i,j)
theorem zbk (k s:Nat) (g:Tm→Int):(zat k s g).length=s / (k - 1)+1:=by unfold zat; rw [List.length_map,List.length_range]
theorem zeF {k s j:Nat} {g:Tm→Int} (h:j < s / (k - 1)+1):(zat k s g)[j]? = some ((List.range (s - (k - 1)*j+1)).map fun i=>g (i,j)):=by
 unfold zat
 rw [List.getElem?_map,List.getElem?_range h]
 rfl
theorem zhD {g:Tm→Int} {n j i:Nat} (h:i < n):gl ((List.range n).map fun i=>g (i,j)) i=g (i,j):=zaR (by rw [List.getElem?_map,List.getElem?_range h]; rfl)
theorem zi0 {f:Tm→Int} {n:Nat} {w:Nat→Nat}:lsum ((List.range n).flatMap fun j=>(List.range (w j)).map fun i=>(i,j)) f=sm n fun j=>sm (w j) fun i=>f (i,j):=by
 induction n with
 | zero=>rfl
 | succ n ih =>
  rw [List.range_succ,List.flatMap_append,zdM,ih]
  show _=sm n (fun j=>sm (w j) fun i=>f (i,j))+sm (w n) (fun i=>f (i,n))
  congr 1
  have:∀ m,lsum ((List.range m).map fun i=>(i,n)) f=sm m fun i=>f (i,n):=by
   intro m
   induction m with
   | zero=>rfl
   | succ m ih2 =>
    rw [List.range_succ,List.map_append,zdM,ih2]
    show _+lsum [(m,n)] f=sm m (fun i=>f (i,n))+f (m,n)
    rw [zbc,zku]
    omega
  simp only [List.flatMap_cons,List.flatMap_nil,List.append_nil]
  exact this _
theorem zm9 {k s:Nat} {f:Tm→Int}:lsum (gps k s) f=sm (s / (k - 1)+1) fun j=>sm (s - (k - 1)*j+1) fun i=>f (i,j):=zi0
theorem zfX {a b:Int} (h0:0≤a) (h:a≤b):∀ j:Nat,a ^ j≤b ^ j
 | 0=>by simp
 | j+1=>by
  rw [Int.pow_succ,Int.pow_succ]
  exact Int.le_trans (Int.mul_le_mul_of_nonneg_right (zfX h0 h j) h0) (Int.mul_le_mul_of_nonneg_left h (Int.pow_nonneg (by omega)))
theorem zkz:∀ (t j:Nat),0≤ch t j
 | 0,0=>by decide
 | _+1,0=>by show (0:Int)≤1; decide
 | 0,j+1=>by show (0:Int)≤0; decide
 | t+1,j+1=>by
  have h1:=zkz t j
  have h2:=zkz t (j+1)
  show 0≤ch t j+ch t (j+1)
  omega
theorem zkA:∀ (t j:Nat),ch t j≤((t:Int)+1) ^ j
 | t,0=>by cases t <;> simp [ch]
 | 0,j+1=>by
  show (0:Int)≤_
  exact Int.pow_nonneg (by decide)
 | t+1,j+1=>by
  have h1:=zkA t j
  have h2:=zkA t (j+1)
  have h3:((t:Int)+1) ^ j≤((t:Int)+1+1) ^ j:=zfX (by omega) (by omega) j
  have h4:(0:Int)≤((t:Int)+1) ^ j:=Int.pow_nonneg (by omega)
  have h5:((t:Int)+1) ^ j*((t:Int)+1+1)≤((t:Int)+1+1) ^ j*((t:Int)+1+1):=Int.mul_le_mul_of_nonneg_right h3 (by omega)
  show ch t j+ch t (j+1)≤(((t+1:Nat):Int)+1) ^ (j+1)
  rw [show (((t+1:Nat):Int)+1)=(t:Int)+1+1 by omega,Int.pow_succ]
  rw [Int.pow_succ] at h2
  have h6:((t:Int)+1) ^ j+((t:Int)+1) ^ j*((t:Int)+1)=((t:Int)+1) ^ j*((t:Int)+1+1):=by grind
  omega
theorem zkB {t j:Nat} (ht:t≤200) (hj:j≤3):0≤ch t j∧ch t j < 1073741824:=by
 refine⟨zkz t j,Int.lt_of_le_of_lt (zkA t j) ?_⟩
 have h1:((t:Int)+1) ^ j≤(201:Int) ^ j:=zfX (by omega) (by omega) j
 have h2:(201:Int) ^ j < 1073741824:=by
  have:j=0∨j=1∨j=2∨j=3:=by omega
  rcases this with rfl | rfl | rfl | rfl <;> decide
 omega
end My
end
section
set_option maxHeartbeats 4000000
namespace My
open PySem L2 PyProof.Rows
section
variable {K:PySem.W.Frag}
theorem LsA.off {H:Hp} {l:Addr} {ls:List Addr} {vv:List (List Int)} (h:LsA H ls vv) (hl:H l=some (.lst (ls.map V.ref))):∀ (i:Nat) (b:Addr),ls[i]? = some b→b≠l:=by
 rintro i b hb rfl
 obtain⟨v,_,hv⟩:=Paired.get h hb
 rw [hl] at hv
 cases ls with
 | nil=>simp at hb
 | cons x r =>
  cases v with
  | nil=>simp at hv
  | cons y z=>simp at hv
theorem LsA.setAt {H:Hp} {l D:Addr} {ls:List Addr} {vv:List (List Int)} {v:List Int} {j:Nat} (h:LsA H ls vv) (hl:H l=some (.lst (ls.map V.ref))) (hD:H D=some (.lst (v.map V.int))) (hn:D≠l) {o:HO}:LsA (upd H l o) (ls.set j D) (vv.set j v):=by
 have off:=h.off hl
 clear hl
 induction h generalizing j with
 | nil=>cases j <;> exact .nil
 | @cons b u bs us h1 h2 ih =>
  cases j with
  | zero =>
   refine .cons (by rw [zl hn]; exact hD) ?_
   have ih0:LsA (upd H l o) bs us:=by
    have:=ih (j:=bs.length) fun i b' hb=>off (i+1) b' (by simpa using hb)
    rw [List.set_eq_of_length_le (Nat.le_refl _),List.set_eq_of_length_le (by rw [Paired.length h2]; exact Nat.le_refl _)] at this
    exact this
   exact ih0
  | succ j=>exact .cons (by rw [zl (off 0 b (by simp))]; exact h1) (ih fun i b' hb=>off (i+1) b' (by simpa using hb))
theorem zml {many:Nat} {base:Int} {ds:List Int} (h:zfG many base ds) {i:Int} (h0:0≤i) (h1:i < many):∃ d,atI (ds.map V.int) i=some (.int d)∧0≤d∧d < base:=by
 obtain⟨n,rfl⟩:∃ n:Nat,i=n:=⟨i.toNat,by omega⟩
 have hn:n < ds.length:=by rw [h.1]; omega
 refine⟨ds[n]'hn,zM (by rw [List.getElem?_map,List.getElem?_eq_getElem hn]; rfl),h.2 _ (List.getElem_mem hn)⟩
theorem zkC {H H':Hp} {ls:List Addr} {vv:List (List Int)} {D:Addr} (hD:D∉ls) (k:∀ b o,b≠D→H b=some o→H' b=some o) (h:LsA H ls vv):LsA H' ls vv:=by
 induction h with
 | nil=>exact .nil
 | cons h1 _ ih=>exact .cons (k _ _ (fun e=>hD (by rw [← e]; exact List.mem_cons_self)) h1) (ih fun z=>hD (List.mem_cons_of_mem _ z))
theorem zdN {α β:Type} {R:α→β→Prop}:∀ {as:List α} {bs:List β} {x:α} {y:β},Paired R (as++[x]) (bs++[y])→Paired R as bs∧R x y
 | [],[],_,_,h=>by cases h with | cons h1 _=>exact⟨.nil,h1⟩
 | [],b :: bs,_,_,h=>by have:=Paired.length h; simp at this
 | a :: as,[],_,_,h=>by have:=Paired.length h; simp at this
 | a :: as,b :: bs,_,_,h=>by
  cases h with
  | cons h1 h2 =>
   obtain⟨p1,p2⟩:=zdN h2
   exact⟨.cons h1 p1,p2⟩
def trm (j:Nat) (r:List Int) (m:Nat):List (Int×Int):=((List.range m).filter fun i=>gl r i≠0).map fun i:Nat=>((i:Int),(j:Int))
def zaB (rows:List (List Int)) (m:Nat):List (Int×Int):=(List.range m).flatMap fun j=>trm j (rows.getD j []) (rows.getD j []).length
theorem zdh (j:Nat) (r:List Int) (m:Nat):trm j r (m+1)=if gl r m≠0 then trm j r m++[((m:Int),(j:Int))] else trm j r m:=by
 unfold trm
 rw [List.range_succ,List.filter_append,List.map_append]
 by_cases h:gl r m=0 <;> simp [h]
theorem zcJ (rows:List (List Int)) (m:Nat):zaB rows (m+1)=zaB rows m++trm m (rows.getD m []) (rows.getD m []).length:=by
 unfold zaB
 rw [List.range_succ,List.flatMap_append]
 simp
theorem zdi (j:Nat) (r:List Int) (m:Nat):(trm j r m).length≤m:=by
 unfold trm
 rw [List.length_map]
 exact Nat.le_trans (List.length_filter_le _ _) (by simp)
def szs (k:Int) (ts:List (Int×Int)):List Int:=ts.map fun q=>q.1+(k - 1)*q.2
theorem zeb (k:Int) (ts:List (Int×Int)):(szs k ts).length=ts.length:=by simp [szs]
theorem zig (k:Int) (l m:List (Int×Int)):szs k (l++m)=szs k l++szs k m:=by simp [szs]
def RwA (H:Hp):List Addr→List (List Int)→Prop:=Paired fun b v=>H b=some (.lst (v.map V.int))∨H b=some (.tup (v.map V.int))
def wd (rows:List (List Int)):Nat:=rows.foldr (fun r m=>max r.length m) 0
theorem zfl {rows:List (List Int)} {r:List Int} (h:r∈rows):r.length≤wd rows:=by
 induction rows with
 | nil=>cases h
 | cons a l ih =>
  show r.length≤max a.length (wd l)
  rcases (List.mem_cons.mp h) with rfl | h
  ·exact Nat.le_max_left _ _
  ·exact Nat.le_trans (ih h) (Nat.le_max_right _ _)
theorem zcX:∀ {rows:List (List Int)},rows≠[]→∃ r∈rows,r.length=wd rows
 | [],h=>absurd rfl h
 | a :: l,_=>by
  by_cases e:l = []
  ·subst e; exact⟨a,List.mem_cons_self,by show _=max a.length 0; omega⟩
  ·obtain⟨r,hr,er⟩:=zcX e
   by_cases h:wd l≤a.length
   ·exact⟨a,List.mem_cons_self,by show _=max a.length (wd l); omega⟩
   ·exact⟨r,List.mem_cons_of_mem _ hr,by show _=max a.length (wd l); omega⟩
def zau (rows:List (List Int)):List Int:=rows.map fun r=>(r.length:Int)
theorem zcY (rows:List (List Int)):(zau rows).length=rows.length:=by simp [zau]
theorem zmm {rows:List (List Int)} {M:Int} (h0:zau rows = []→M=0) (h1:zau rows≠[]→M∈zau rows∧∀ a∈zau rows,if true=true then a≤M else M≤a):M=(wd rows:Int):=by
 by_cases e:rows = []
 ·subst e; exact h0 rfl
 ·obtain⟨m1,m2⟩:=h1 (by simpa [zau] using e)
  obtain⟨r,hr,rfl⟩:=List.mem_map.mp m1
  obtain⟨r',hr',e'⟩:=zcX e
  have b1:=zfl hr
  have b2:=m2 _ (List.mem_map.mpr ⟨r',hr',rfl⟩)
  rw [if_pos rfl] at b2
  omega
def zbt (p x:Int) (m:Nat):List Int:=(List.range m).map fun i=>x ^ i % p
theorem zfm (p x:Int) (m:Nat):zbt p x (m+1)=zbt p x m++[x ^ m % p]:=by
 unfold zbt
 rw [List.range_succ,List.map_append]
 rfl
theorem zdj (p x:Int) (m:Nat):(zbt p x m).length=m:=by unfold zbt; rw [List.length_map,List.length_range]
theorem zih {xs:List V} {v:V}:atI (xs++[v]) (-1)=some v:=by
 unfold atI ixN
 rw [if_neg (by decide),if_pos (by rw [List.length_append]; show -((xs.length+1:Nat):Int)≤-1; omega)]
 show (xs++[v])[(-1+((xs++[v]).length:Int)).toNat]? = some v
 rw [List.length_append,show (-1+((xs.length + [v].length:Nat):Int)).toNat=xs.length by show (-1+((xs.length+1:Nat):Int)).toNat=_; omega,List.getElem?_append_right (Nat.le_refl _),Nat.sub_self]
 rfl
theorem zfn {B:Nat} {rows:List (List Int)} (h:∀ r∈rows,r.length≤B):∀ m,(zaB rows m).length≤B*m
 | 0=>by simp [zaB]
 | m+1=>by
  have ih:=zfn h m
  have hl:(rows.getD m []).length≤B:=by
   cases e:rows[m]? with
   | none=>simp [List.getD,e]
   | some r=>simp only [List.getD,e,Option.getD_some]; exact h r (List.mem_of_getElem? e)
  have h2:=zdi m (rows.getD m []) (rows.getD m []).length
  rw [zcJ,List.length_append,Nat.mul_succ]
  omega
end
end My
end
section
set_option maxHeartbeats 4000000
namespace PySem
open PyProof.Rows
theorem zdX:isSubtype (.type "range_iterator") (.type "reversed")=pure false:=by rw [isSubtype_type]; kernel_rfl
abbrev zgN (a b:Int):Obj:={ cls:=.type "range_iterator",data:=.fields #[rawInt (a+(Builtin.Range.rangeSize a b 1 - 1)*1),rawInt (Builtin.Range.rangeSize a b 1),rawInt (-1)] }
theorem zkD (r:Addr) (a b:Int) (t u v:Tok) (hs:(Builtin.Range.rangeFitsLong a && Builtin.Range.rangeFitsLong b && Builtin.Range.rangeFitsLong 1 && Builtin.Range.rangeFitsLong (-1) && Builtin.Range.rangeFitsLong (a - 1) && Builtin.Range.rangeFitsLong (Builtin.Range.rangeSize a b 1))=true) :
  Meets (Builtin.«range.__reversed__» ⟨[.ref r],[]⟩) (fun _ R s=>s.heap.get? r=some { cls:=.type "range",dict:=none,data:=.fields #[.int a t,.int b u,.int 1 v],slots:=#[] }∧R (.ok (.ret (Value.ref s.heap.objs.size))) { s with heap:=s.heap.push (zgN a b) }) :=
 .of_wp fun prog w A R s h=>by
  (obtain⟨hp,g,d,tk,os⟩:=s)
  obtain⟨hl,h⟩:=h
  wp_walk
  rw [hs]
  exact⟨_,rfl,h⟩
section
variable {prog:Program} {w:World} {A:Around} {E:Value→Shared→Prop} {s:Shared}
theorem zlP {r:Addr} {a b:Int} {t u v:Tok} {Q:Value→Shared→Prop} (hr:IsRange s.heap r a b 1 t u v) (ha:-1000000≤a∧a < 1000000∧-1000000≤b∧b < 1000000)
  (h:Q (.ref s.heap.objs.size) { s with heap:=s.heap.push (zgN a b) }):wpAny (model prog w) A (call (.type "reversed") [.ref r]) Q E s:=by
 have hs:(Builtin.Range.rangeFitsLong a && Builtin.Range.rangeFitsLong b && Builtin.Range.rangeFitsLong 1 && Builtin.Range.rangeFitsLong (-1) && Builtin.Range.rangeFitsLong (a - 1) && Builtin.Range.rangeFitsLong (Builtin.Range.rangeSize a b 1))=true:=by
  have hz:0≤Builtin.Range.rangeSize a b 1∧Builtin.Range.rangeSize a b 1≤2000000:=by
   (unfold Builtin.Range.rangeSize)
   rw [if_pos (by decide),Int.ediv_one]
   split <;> omega
  generalize Builtin.Range.rangeSize a b 1=z at hz ⊢
  unfold Builtin.Range.rangeFitsLong
  (simp only [Bool.and_eq_true,decide_eq_true_eq])
  omega
 (have hT:s.TypeIs (.ref r) "range":=⟨_,hr,rfl⟩)
 refine callType_other (U:="range_iterator") (Q₁:=fun obj s₁=>obj = .ref s.heap.objs.size∧s₁ = { s with heap:=s.heap.push (zgN a b) }) (by decide +kernel) F.create_reversed ⟨_,_,F.mro_reversed⟩ F.made_reversed zdX (F.typeCall_reversed_1 _) ?_ ?_
 ·refine codeAny_of_tree ?_
  show wpAny _ A.in1.in1 (do checkBuiltinCall "reversed.__new__" ⟨[.type "reversed",.ref r],[]⟩; again (.builtin "reversed.__new__" ⟨[.type "reversed",.ref r],[]⟩)) _ _ s
  refine (wpAny_bind (wpAny_of_eq (F.newCall_reversed_1 _) (wpAny_pure ⟨plainId_quiet F.plain_reversed_new _,codeAny_builtin F.entry_reversed_new ?_⟩)))
  (rw [Around.under_plainId F.plain_reversed_new _])
  (unfold Builtin.«reversed.__new__»)
  refine (wpAny_bind (wpAny_of_eq (newClass_reversed _) ?_))
  try dsimp only
  refine (wpAny_bind (wpAny_of_eq (a:=()) (by first | rfl | kernel_rfl) (wpAny_bind (wpAny_of_eq (a:=()) (by first | rfl | kernel_rfl) ?_))))
  try dsimp only
  refine (wpAny_bind (wpAny_specialOf hT F.slot_range_reversed.lookup ?_))
  try dsimp only
  refine (wpAny_bind (wpAny_of_eq (F.slot_range_reversed.bind _) ?_))
  try dsimp only
  show wpAny _ _ (if (Value.builtin "range.__reversed__" == Value.none)=true then _ else _) _ _ _
  rw [if_neg (show ¬ ((Value.builtin "range.__reversed__" == Value.none)=true) from Bool.false_ne_true)]
  refine (wpAny_bind (wpAny_rule ?_))
  refine wpAny_bind (m:=runValue (.call (.builtin "range.__reversed__") ⟨[.ref r],[]⟩)) (show wpAny _ _ (call (.builtin "range.__reversed__") [.ref r]) _ _ _ from call_meets F.slot_range_reversed hT F.entry_range_reversed (F.args_range_reversed_1 _) (zkD r a b t u v hs) ⟨hr,?_⟩)
  first
  | exact wpAny_pure ⟨rfl,rfl⟩
  | exact wpAny_bind (wpAny_pure (wpAny_pure ⟨rfl,rfl⟩))
 ·rintro obj s₁ ⟨rfl,rfl⟩
  (exact⟨⟨_,Heap.get?_push_size _ rfl,rfl⟩,h⟩)
end
end PySem
namespace L2
open PySem PySem.Spec PyProof.Rows
theorem zgO {X:Cx}:zbh X (.type "range") (fun xs H Q=>∃ i j:Int,xs = [.int i,.int j]∧∀ l,H l=none→Q (.ref l) (upd H l (.rng i j))):=by
 intro pins s σ H xs us Q I r h
 obtain⟨i,j,rfl,q⟩:=h
 cases r with
 | cons r1 r =>
  cases r with
  | cons r2 r =>
   cases r
   obtain⟨t,rfl⟩:=r1
   obtain⟨t',rfl⟩:=r2
   refine call_range_2 ?_
   exact⟨.ref s.heap.objs.size,_,I.laid (o:=.rng i j) (fun b o e=>Heap.get?_push_of_some _ e) (Nat.le_refl _) ⟨_,_,_,Heap.get?_push_size _ rfl⟩,rfl,q _ I.fresh⟩
def znS (ta:TA):TI:=fun σ H R=>ta σ H fun vs H1=>∃ (a:Addr) (i j:Int),vs = [.ref a]∧H1 a=some (.rng i j)∧(-1000000≤i∧i < 1000000∧-1000000≤j∧j < 1000000)∧R (ziP (i+((j - i).toNat:Int) - 1) (j - i).toNat) H1
theorem zlQ {X:Cx} {tg:Expr} {p pos:Pos} {a:Expr} {ta:TA} (hg:Gl X "reversed") (hm:X.mg "reversed" = none) (ha:PA X [a] ta) (hs:starEach [a] X.env = [(false,eval a X.env)]:=by rfl) :
  PI X tg (.Call (.Name "reversed" p) [a] [] pos) (znS ta):=by
 intro pins s σ H R I h
 refine Call_ (zba I hg hm boot_reversed (PyProof.Rows.callWith_type1 (thn (ha pos pins s σ H _ I h) fun us s1 ⟨vs,H1,I1,r1,q1⟩=>?_) hs rfl))
 obtain⟨l,i,j,e,hq,hb,q⟩:=q1
 subst e
 cases r1 with
 | cons r rr =>
  cases rr
  cases r
  obtain⟨t,u,v,hr⟩:=(show zab X.prog X.w H1 s1.heap l (.rng i j) from I1.hok l _ hq)
  refine zlP hr hb ?_
  have hsz:Builtin.Range.rangeSize i j 1=((j - i).toNat:Int):=by
   (unfold Builtin.Range.rangeSize)
   rw [if_pos (by decide),Int.ediv_one]
   split <;> omega
  have I2:Inv X pins σ H1 { s1 with heap:=s1.heap.push (zgN i j) }:=I1.kept (t':=s1.toks) fun b o e=>Heap.get?_push_of_some _ e
  have hit:IsRangeIter (s1.heap.push (zgN i j)) s1.heap.objs.size ((i+((j - i).toNat:Int) - 1)+((0:Nat):Int)*(-1)) ((((j - i).toNat:Nat):Int) - ((0:Nat):Int)) (-1):=by
   have e1:(i+((j - i).toNat:Int) - 1)+((0:Nat):Int)*(-1)=i+(Builtin.Range.rangeSize i j 1 - 1)*1:=by rw [hsz]; omega
   have e2:(((j - i).toNat:Nat):Int) - ((0:Nat):Int)=Builtin.Range.rangeSize i j 1:=by rw [hsz]; omega
   rw [e1,e2]
   exact Heap.get?_push_size _ rfl
  refine wpAny_pyIter_rangeiter hit ?_
  refine⟨_,[s1.heap.objs.size],_,ziP (i+((j - i).toNat:Int) - 1) (j - i).toNat,H1,rfl,I2,zgC _ _ _,hit,fun b hb=>?_,q⟩
  have z:b=s1.heap.objs.size:=by simpa using hb
  subst z
  exact I1.fpOk (Nat.le_refl _) (I1.hok.fresh (Nat.le_refl _))
end L2
end
section
set_option maxHeartbeats 4000000
namespace My
open PySem L2 PyProof.Rows
def top (i:Nat):Stmt:=PySem.Challenge.pw_slipcurve_k17_papers_found.main.body.getD i (.Pass ⟨0,0,0,0⟩)
abbrev zcK:Stmt:=top 13
abbrev za6:Stmt:=top 14
abbrev za7:Stmt:=top 16
abbrev zaA:Stmt:=top 17
abbrev zaM:Stmt:=top 18
abbrev zbV:Stmt:=top 19
abbrev zak:Stmt:=top 20
abbrev zbl:Stmt:=top 21
abbrev zaH:Stmt:=top 23
abbrev zbw:Stmt:=top 25
abbrev zcr:Stmt:=top 26
abbrev zbx:Stmt:=top 27
abbrev zcs:Stmt:=top 28
abbrev zct:Stmt:=top 29
abbrev zbW:Stmt:=top 30
abbrev zdk:Stmt:=top 31
abbrev zbm:Stmt:=top 32
abbrev zaS:Stmt:=top 33
abbrev zai:Stmt:=top 34
abbrev za8:Stmt:=top 35
abbrev zbn:Stmt:=top 36
abbrev zb9:Stmt:=top 39
abbrev zaT:Stmt:=top 40
abbrev zdl:Stmt:=top 42
abbrev zcL:Stmt:=top 43
abbrev zcM:Stmt:=top 44
abbrev zcu:Stmt:=top 45
abbrev zcN:Stmt:=top 46
abbrev zaI:Stmt:=top 47
abbrev zdm:Stmt:=top 48
abbrev zbo:Stmt:=top 49
abbrev zca:Stmt:=top 50
abbrev zcb:Stmt:=top 51
abbrev zaJ:Stmt:=top 52
abbrev zbX:Stmt:=top 53
abbrev zaD:Stmt:=top 54
abbrev zdn:Stmt:=top 55
abbrev zdo:Stmt:=top 56
abbrev zcv:Stmt:=top 57
abbrev zce:Stmt:=top 58
structure Adr where
 SlipError:Addr
 TooFew:Addr
 NoCurve:Addr
 NoPaper:Addr
 NoPlace:Addr
 NoNumber:Addr
 Heard:Addr
 NotHeard:Addr
 NothingLeft:Addr
 NoText:Addr
 NoRow:Addr
 inverse:Addr
 times_root:Addr
 moved_powers:Addr
 numbers_at:Addr
 vectors_of:Addr
 without:Addr
 first_relation:Addr
 first_sum:Addr
 heard_points:Addr
 width_of:Addr
 filled:Addr
 terms_of:Addr
 turned:Addr
 raised:Addr
 size_of:Addr
 moved:Addr
 weight_at:Addr
 first_terms:Addr
 least_curve:Addr
 check_curves:Addr
 curve_for:Addr
 paper_of:Addr
 paper_holds:Addr
 l_cell:Addr
 l_draws:Addr
 l_whole:Addr
 l_code:Addr
 l_value:Addr
 l_polynomial:Addr
 l_row:Addr
 l_rank:Addr
 l_powers:Addr
 l_choose:Addr
 l_passes:Addr
 l_asked:Addr
 l_has_curve:Addr
 l_word:Addr
 l_told:Addr
 l_size:Addr
 law:Addr
structure KW (K:PySem.W.Frag) (t:Adr) (C:Addr) (b0 b1 b2 b3 b4 b5 b6 b7 b8 b9:Bool):Prop where
 i0:PySem.W.kitOne K (.ref C) (.ref t.TooFew)=some b0
 i1:PySem.W.kitOne K (.ref C) (.ref t.NoCurve)=some b1
 i2:PySem.W.kitOne K (.ref C) (.ref t.NoPaper)=some b2
 i3:PySem.W.kitOne K (.ref C) (.ref t.NoPlace)=some b3
 i4:PySem.W.kitOne K (.ref C) (.ref t.NoNumber)=some b4
 i5:PySem.W.kitOne K (.ref C) (.ref t.Heard)=some b5
 i6:PySem.W.kitOne K (.ref C) (.ref t.NotHeard)=some b6
 i7:PySem.W.kitOne K (.ref C) (.ref t.NothingLeft)=some b7
 i8:PySem.W.kitOne K (.ref C) (.ref t.NoText)=some b8
 i9:PySem.W.kitOne K (.ref C) (.ref t.NoRow)=some b9
 iv:PySem.W.kitOne K (.ref C) (.type "ValueError")=some true
 xc:Xc K C
 sl:PySem.W.kitCls K (.ref C) (.ref t.SlipError)=some true
structure Txt (K:PySem.W.Frag) (mg:Str→Option Value) (t:Adr):Prop where
 len_:mg "len" = none
 range_:mg "range" = none
 list_:mg "list" = none
 tuple_:mg "tuple" = none
 min_:mg "min" = none
 max_:mg "max" = none
 int_:mg "int" = none
 bool_:mg "bool" = none
 isinstance_:mg "isinstance" = none
 zip_:mg "zip" = none
 enumerate_:mg "enumerate" = none
 sum_:mg "sum" = none
 dict_:mg "dict" = none
 reversed_:mg "reversed" = none
 all_:mg "all" = none
 ValueError_:mg "ValueError" = none
 g_MOST_PAPER_WEIGHT:∃ q,mg "MOST_PAPER_WEIGHT" = some (.int 4 q)
 x_SlipError:mg "SlipError" = some (.ref t.SlipError)
 x_TooFew:mg "TooFew" = some (.ref t.TooFew)
 x_NoCurve:mg "NoCurve" = some (.ref t.NoCurve)
 x_NoPaper:mg "NoPaper" = some (.ref t.NoPaper)
 x_NoPlace:mg "NoPlace" = some (.ref t.NoPlace)
 x_NoNumber:mg "NoNumber" = some (.ref t.NoNumber)
 x_Heard:mg "Heard" = some (.ref t.Heard)
 x_NotHeard:mg "NotHeard" = some (.ref t.NotHeard)
 x_NothingLeft:mg "NothingLeft" = some (.ref t.NothingLeft)
 x_NoText:mg "NoText" = some (.ref t.NoText)
 x_NoRow:mg "NoRow" = some (.ref t.NoRow)
 xi_NoCurve:PySem.W.excIn K t.NoCurve zhq "ValueError.__new__" = true
 xi_NoPaper:PySem.W.excIn K t.NoPaper zhq "ValueError.__new__" = true
 kw_NoCurve:KW K t t.NoCurve false true false false false false false false false false
 kw_NoPaper:KW K t t.NoPaper false false true false false false false false false false
 sb:PySem.W.mroIn K t.SlipError (.type "BaseException")=some true
 m_inverse:mg "inverse" = some (.ref t.inverse)
 m_times_root:mg "times_root" = some (.ref t.times_root)
 m_moved_powers:mg "moved_powers" = some (.ref t.moved_powers)
 m_numbers_at:mg "numbers_at" = some (.ref t.numbers_at)
 m_vectors_of:mg "vectors_of" = some (.ref t.vectors_of)
 m_without:mg "without" = some (.ref t.without)
 m_first_relation:mg "first_relation" = some (.ref t.first_relation)
 m_first_sum:mg "first_sum" = some (.ref t.first_sum)
 m_heard_points:mg "heard_points" = some (.ref t.heard_points)
 m_width_of:mg "width_of" = some (.ref t.width_of)
 m_filled:mg "filled" = some (.ref t.filled)
 m_terms_of:mg "terms_of" = some (.ref t.terms_of)
 m_turned:mg "turned" = some (.ref t.turned)
 m_raised:mg "raised" = some (.ref t.raised)
 m_size_of:mg "size_of" = some (.ref t.size_of)
 m_moved:mg "moved" = some (.ref t.moved)
 m_weight_at:mg "weight_at" = some (.ref t.weight_at)
 m_first_terms:mg "first_terms" = some (.ref t.first_terms)
 m_least_curve:mg "least_curve" = some (.ref t.least_curve)
 m_check_curves:mg "check_curves" = some (.ref t.check_curves)
 m_curve_for:mg "curve_for" = some (.ref t.curve_for)
 m_paper_of:mg "paper_of" = some (.ref t.paper_of)
 m_paper_holds:mg "paper_holds" = some (.ref t.paper_holds)
 m_l_cell:mg "_law_cell" = some (.ref t.l_cell)
 m_l_draws:mg "_law_draws" = some (.ref t.l_draws)
 m_l_whole:mg "_law_whole" = some (.ref t.l_whole)
 m_l_code:mg "_law_code" = some (.ref t.l_code)
 m_l_value:mg "_law_value" = some (.ref t.l_value)
 m_l_polynomial:mg "_law_polynomial" = some (.ref t.l_polynomial)
 m_l_row:mg "_law_row" = some (.ref t.l_row)
 m_l_rank:mg "_law_rank" = some (.ref t.l_rank)
 m_l_powers:mg "_law_powers" = some (.ref t.l_powers)
 m_l_choose:mg "_law_choose" = some (.ref t.l_choose)
 m_l_passes:mg "_law_passes" = some (.ref t.l_passes)
 m_l_asked:mg "_law_asked" = some (.ref t.l_asked)
 m_l_has_curve:mg "_law_has_curve" = some (.ref t.l_has_curve)
 m_l_word:mg "_law_word" = some (.ref t.l_word)
 m_l_told:mg "_law_told" = some (.ref t.l_told)
 m_l_size:mg "_law_size" = some (.ref t.l_size)
 f_inverse:∃ fd,Fun K "inverse" "inverse" zcK t.inverse fd∧Binds K fd ["p","number"] []
 f_times_root:∃ fd,Fun K "times_root" "times_root" za6 t.times_root fd∧Binds K fd ["p","polynomial","root"] []
 f_moved_powers:∃ fd,Fun K "moved_powers" "moved_powers" za7 t.moved_powers fd∧Binds K fd ["p","by","most","kept"] []
 f_numbers_at:∃ fd,Fun K "numbers_at" "numbers_at" zaA t.numbers_at fd∧Binds K fd ["p","terms","point"] []
 f_vectors_of:∃ fd,Fun K "vectors_of" "vectors_of" zaM t.vectors_of fd∧Binds K fd ["p","terms","points"] []
 f_without:∃ fd,Fun K "without" "without" zbV t.without fd∧Binds K fd ["p","vector","times","other"] []
 f_first_relation:∃ fd,Fun K "first_relation" "first_relation" zak t.first_relation fd∧Binds K fd ["p","vectors"] []
 f_first_sum:∃ fd,Fun K "first_sum" "first_sum" zbl t.first_sum fd∧Binds K fd ["p","terms","points"] []
 f_heard_points:∃ fd,Fun K "heard_points" "heard_points" zaH t.heard_points fd∧Binds K fd ["code","row"] []
 f_width_of:∃ fd,Fun K "width_of" "width_of" zbw t.width_of fd∧Binds K fd ["curve"] []
 f_filled:∃ fd,Fun K "filled" "filled" zcr t.filled fd∧Binds K fd ["p","curve"] []
 f_terms_of:∃ fd,Fun K "terms_of" "terms_of" zbx t.terms_of fd∧Binds K fd ["curve"] []
 f_turned:∃ fd,Fun K "turned" "turned" zcs t.turned fd∧Binds K fd ["lines","width"] []
 f_raised:∃ fd,Fun K "raised" "raised" zct t.raised fd∧Binds K fd ["p","lines","by"] []
 f_size_of:∃ fd,Fun K "size_of" "size_of" zbW t.size_of fd∧Binds K fd ["k","curve"] []
 f_moved:∃ fd,Fun K "moved" "moved" zdk t.moved fd∧Binds K fd ["p","curve","point"] []
 f_weight_at:∃ fd,Fun K "weight_at" "weight_at" zbm t.weight_at fd∧Binds K fd ["p","curve","point"] []
 f_first_terms:∃ fd,Fun K "first_terms" "first_terms" zaS t.first_terms fd∧Binds K fd ["k","many"] []
 f_least_curve:∃ fd,Fun K "least_curve" "least_curve" zai t.least_curve fd∧Binds K fd ["p","k","points"] []
 f_check_curves:∃ fd,Fun K "check_curves" "check_curves" za8 t.check_curves fd∧Binds K fd ["k"] []
 f_curve_for:∃ fd,Fun K "curve_for" "curve_for" zbn t.curve_for fd∧Binds K fd ["code","row","m"] []
 f_paper_of:∃ fd,Fun K "paper_of" "paper_of" zb9 t.paper_of fd∧Binds K fd ["code","row","t"] []
 f_paper_holds:∃ fd,Fun K "paper_holds" "paper_holds" zaT t.paper_holds fd∧Binds K fd ["code","row","t","paper"] []
 f_l_cell:∃ fd,Fun K "_law_cell" "_law_cell" zdl t.l_cell fd∧Binds K fd ["script","k"] []
 f_l_draws:∃ fd,Fun K "_law_draws" "_law_draws" zcL t.l_draws fd∧Binds K fd ["script","k","many","base"] []
 f_l_whole:∃ fd,Fun K "_law_whole" "_law_whole" zcM t.l_whole fd∧Binds K fd ["found"] []
 f_l_code:∃ fd,Fun K "_law_code" "_law_code" zcu t.l_code fd∧Binds K fd ["script","at","most_k","most_n"] []
 f_l_value:∃ fd,Fun K "_law_value" "_law_value" zcN t.l_value fd∧Binds K fd ["p","polynomial","x"] []
 f_l_polynomial:∃ fd,Fun K "_law_polynomial" "_law_polynomial" zaI t.l_polynomial fd∧Binds K fd ["draws","p","k"] []
 f_l_row:∃ fd,Fun K "_law_row" "_law_row" zdm t.l_row fd∧Binds K fd ["script","at","code"] []
 f_l_rank:∃ fd,Fun K "_law_rank" "_law_rank" zbo t.l_rank fd∧Binds K fd ["p","rows"] []
 f_l_powers:∃ fd,Fun K "_law_powers" "_law_powers" zca t.l_powers fd∧Binds K fd ["p","x","many"] []
 f_l_choose:∃ fd,Fun K "_law_choose" "_law_choose" zcb t.l_choose fd∧Binds K fd ["many","few"] []
 f_l_passes:∃ fd,Fun K "_law_passes" "_law_passes" zaJ t.l_passes fd∧Binds K fd ["p","curve","point","m"] []
 f_l_asked:∃ fd,Fun K "_law_asked" "_law_asked" zbX t.l_asked fd∧Binds K fd ["p","k","weighed","size"] []
 f_l_has_curve:∃ fd,Fun K "_law_has_curve" "_law_has_curve" zaD t.l_has_curve fd∧Binds K fd ["p","k","weighed","size"] []
 f_l_word:∃ fd,Fun K "_law_word" "_law_word" zdn t.l_word fd∧Binds K fd ["e"] []
 f_l_told:∃ fd,Fun K "_law_told" "_law_told" zdo t.l_told fd∧Binds K fd ["code","row","t"] []
 f_l_size:∃ fd,Fun K "_law_size" "_law_size" zcv t.l_size fd∧Binds K fd ["k","curve"] []
section
variable {P:Program} {w:World} {K:PySem.W.Frag} {mg:Str→Option Value} {base:Heap} {t:Adr}
theorem zi1:FnScope ["script","k"] ["script","k"] (zh zdl):=⟨rfl,rfl,rfl,by decide +kernel,rfl,by decide +kernel,by decide +kernel⟩
theorem zi2 {fd:FuncData} (T:Txt K mg t) (F:Fun K "_law_cell" "_law_cell" zdl t.l_cell fd):FnOk P w K mg base CX0 1 t.l_cell fd ["script","k"] (ziC K):=by
 refine F.ok zi1 (fun vs H Q E h=>?_) (fun cdv A outer s H vs Q E hr h=>?_)
 ·obtain⟨a,ns,k,rfl,_⟩:=h; rfl
 ·obtain⟨a,ns,k,rfl,hS,hlen,k0,k1,q⟩:=h
  refine⟨_,(@ze _ _ _ _ _ (@zaO _ _ _ _ _ _ _ _ (@zC _ _ _ _ _ _ _ _ (@zei _) (@pvx _ 1 _ _ rfl) (@zn _ _ _ _ _ _ _ _ _ (@zx _) (by rfl) T.len_ boot_len (@ya _ _ _ (@pvx _ 0 _ _ rfl) (by rfl)) (by decide) (by decide) (by rfl) (by rfl)) (zL _)) (@zk _ _ _ (@zz _ _ _ _ (@zy _ _ _ _ _ _ _ (@zu _) (@pvx _ 0 _ _ rfl) (@pvx _ 1 _ _ rfl) (fun _ _=>rfl)))) (@z8 _)) (by exact (@ze _ _ _ _ _ (@zaO _ _ _ _ _ _ _ _ (@zC _ _ _ _ _ _ _ _ (@zdE _) (@zn _ _ _ _ _ _ _ _ _ (@zx _) (by rfl) T.len_ boot_len (@ya _ _ _ (@pvx _ 0 _ _ rfl) (by rfl)) (by decide) (by decide) (by rfl) (by rfl)) (@zf _ _ _ _) (zL _)) (@zk _ _ _ (@zz _ _ _ _ (@zi _ _ _ _ _ _ _ _ (@zG _) (@zi _ _ _ _ _ _ _ _ (@zD _) (@zf _ _ _ _) (@pvx _ 1 _ _ rfl)) (@zf _ _ _ _)))) (@z8 _)) (by exact (@zk _ _ _ (@zz _ _ _ _ (@zi _ _ _ _ _ _ _ _ (@zG _) (@zi _ _ _ _ _ _ _ _ (@zE _) (@zy _ _ _ _ _ _ _ (@zu _) (@pvx _ 0 _ _ rfl) (@zi _ _ _ _ _ _ _ _ (@zE _) (@pvx _ 1 _ _ rfl) (@zn _ _ _ _ _ _ _ _ _ (@zx _) (by rfl) T.len_ boot_len (@ya _ _ _ (@pvx _ 0 _ _ rfl) (by rfl)) (by decide) (by decide) (by rfl) (by rfl))) (fun _ _=>rfl)) (@zf _ _ _ _)) (@zi _ _ _ _ _ _ _ _ (@zD _) (@zf _ _ _ _) (@pvx _ 1 _ _ rfl))))))))),?_⟩
  refine⟨_,rfl,_,rfl,a,_,rfl,.inl hS,_,_,rfl,rfl,_,rfl,?_⟩; rw [List.length_map]
  refine zaq (fun h=>?_) (fun h=>?_)
  ·have h:k < (ns.length:Int):=by simpa using h
   obtain⟨c,hc⟩:=zd5 k0 h
   exact⟨_,rfl,_,rfl,a,_,k,_,rfl,rfl,hS,hc,q c⟩
  ·have h:¬ k < (ns.length:Int):=by simpa using h
   refine⟨_,rfl,a,_,rfl,.inl hS,rfl,_,rfl,?_⟩
   rw [List.length_map]
   refine zaq (fun h2=>?_) (fun h2=>?_)
   ·exact⟨_,rfl,_,_,rfl,rfl,.inl ⟨by decide,by decide⟩,_,_,rfl,rfl,q _⟩
   ·have h2:¬ V.int (ns.length:Int)=V.int 0:=by simpa using h2
    have hpos:0 < (ns.length:Int):=by
     have:(ns.length:Int)≠0:=fun z=>h2 (by rw [z])
     omega
    have m0:=Int.emod_nonneg k (show (ns.length:Int)≠0 by omega)
    have m1:=Int.emod_lt_of_pos k hpos
    obtain⟨c,hc⟩:=zd5 m0 m1
    refine⟨_,rfl,_,rfl,_,rfl,a,_,rfl,.inl hS,_,_,rfl,rfl,by rw [List.length_map]; exact hpos,a,_,_,_,rfl,rfl,hS,by rw [List.length_map]; exact hc,_,_,rfl,rfl,(by show (0:Int) < 1000003; decide),?_⟩
    exact⟨_,rfl,_,_,rfl,rfl,.inl ⟨by decide,by decide⟩,_,_,rfl,rfl,q _⟩
theorem zaa:FnScope ["script","k","many","base","primes","cell","rest","row","j","mash"] ["script","k","many","base"] (zh zcL):=⟨rfl,rfl,rfl,by decide +kernel,rfl,by decide +kernel,by decide +kernel⟩
theorem zcZ {fd:FuncData} (T:Txt K mg t) (F:Fun K "_law_draws" "_law_draws" zcL t.l_draws fd):FnOk P w K mg base CX0 2 t.l_draws fd ["script","k","many","base"] (zhk K):=by
 obtain⟨fd_l_cell,F_l_cell,b_l_cell⟩:=T.f_l_cell
 have G_l_cell:=zi2 (P:=P) (w:=w) (base:=base) T F_l_cell
 refine F.ok zaa (fun vs H Q E h=>?_) (fun cdv A outer s H vs Q E hr h=>?_)
 ·obtain⟨a,ns,k,many,base,rfl,_⟩:=h
  rfl
 ·obtain⟨a,ns,k,many,bs,rfl,hS,hlen,k0,k1,m0,m1,b0,b1,q⟩:=h
  refine⟨_,(@ze _ _ _ _ _ (@zm _ _ (4) _ _ _ _ zaa.nd rfl (Or.inl rfl) (@za4 _ _ _ _ _ (@zcp _ _ _ _ _ _ (by exact (@zcp _ _ _ _ _ _ (by exact (@zcp _ _ _ _ _ _ (by exact (@zcp _ _ _ _ _ _ (by exact (@zcp _ _ _ _ _ _ (by exact (@za _ _ _ _ _ (@zf _ _ _ _) (@za _ _ _ _ _ (@zf _ _ _ _) (@ya _ _ _ (@zf _ _ _ _) (by rfl)) (by rfl)) (by rfl))))))))))))) (by rfl) (by trivial)) (by exact (@ze _ _ _ _ _ (@zm _ _ (5) _ _ _ _ zaa.nd rfl (Or.inl rfl) (@zp _ _ _ _ _ _ _ _ _ _ _ _ _ _ _ _ G_l_cell (hr.mono (by decide)) rfl T.m_l_cell F_l_cell.kp b_l_cell .nil (@zN _) (@za _ _ _ _ _ (@pvx _ 0 _ _ rfl) (@ya _ _ _ (@pvx _ 1 _ _ rfl) (by rfl)) (by rfl)) (by decide) (by rfl) (by rfl)) (by rfl) (by trivial)) (by exact (@ze _ _ _ _ _ (@zm _ _ (6) _ _ _ _ zaa.nd rfl (Or.inl rfl) (@zf _ _ _ _) (by rfl) (by trivial)) (by exact (@ze _ _ _ _ _ (@zaO _ _ _ _ _ _ _ _ (@zC _ _ _ _ _ _ _ _ (@zej _) (@pvx _ 5 _ _ rfl) (@zi _ _ _ _ _ _ _ _ (@zmB _) (@zf _ _ _ _) (@zf _ _ _ _)) (zL _)) (@zk _ _ _ (@zm _ _ (6) _ _ _ _ zaa.nd rfl (Or.inl rfl) (@pvx _ 5 _ _ rfl) (by rfl) (by trivial))) (@z8 _)) (by exact (@ze _ _ _ _ _ (@zm _ _ (7) _ _ _ _ zaa.nd rfl (Or.inl rfl) (@zY _ _ _ _ (@zd _)) (by rfl) (by trivial)) (by exact (@ze _ _ _ _ _ (@zal _ _ _ _ _ _ _ _ PassesOwn.never rfl (@zH _ _ _ _ _ _ rfl T.range_ (@ya _ _ _ (@pvx _ 2 _ _ rfl) (by rfl)) (by rfl)) (@zg _ _ (8) _ zaa.nd rfl (Or.inl rfl) (by trivial)) (@ze _ _ _ _ _ (@zm _ _ (9) _ _ _ _ zaa.nd rfl (Or.inl rfl) (@zi _ _ _ _ _ _ _ _ (@zD _) (@zi _ _ _ _ _ _ _ _ (@zE _) (@pvx _ 5 _ _ rfl) (@zy _ _ _ _ _ _ _ (@zb2 _) (@pvx _ 4 _ _ rfl) (@zi _ _ _ _ _ _ _ _ (@zE _) (@pvx _ 8 _ _ rfl) (@zf _ _ _ _)) (fun _ _=>rfl))) (@zi _ _ _ _ _ _ _ _ (@zG _) (@zf _ _ _ _) (@zi _ _ _ _ _ _ _ _ (@zD _) (@zi _ _ _ _ _ _ _ _ (@zD _) (@zf _ _ _ _) (@pvx _ 8 _ _ rfl)) (@pvx _ 8 _ _ rfl)))) (by rfl) (by trivial)) (by exact (@ze _ _ _ _ _ (@zm _ _ (9) _ _ _ _ zaa.nd rfl (Or.inl rfl) (@zi _ _ _ _ _ _ _ _ (@zG _) (@zi _ _ _ _ _ _ _ _ (@zG _) (@pvx _ 9 _ _ rfl) (@zi _ _ _ _ _ _ _ _ (@zD _) (@zi _ _ _ _ _ _ _ _ (@zD _) (@zf _ _ _ _) (@zi _ _ _ _ _ _ _ _ (@zG _) (@pvx _ 8 _ _ rfl) (@zf _ _ _ _))) (@zi _ _ _ _ _ _ _ _ (@zG _) (@pvx _ 8 _ _ rfl) (@zf _ _ _ _)))) (@zi _ _ _ _ _ _ _ _ (@zD _) (@zf _ _ _ _) (@pvx _ 1 _ _ rfl))) (by rfl) (by trivial)) (by exact (@ze _ _ _ _ _ (@zm _ _ (9) _ _ _ _ zaa.nd rfl (Or.inl rfl) (@zi _ _ _ _ _ _ _ _ (@zE _) (@pvx _ 9 _ _ rfl) (@zy _ _ _ _ _ _ _ (@zb2 _) (@pvx _ 4 _ _ rfl) (@zi _ _ _ _ _ _ _ _ (@zE _) (@zi _ _ _ _ _ _ _ _ (@zG _) (@zi _ _ _ _ _ _ _ _ (@zD _) (@zf _ _ _ _) (@pvx _ 8 _ _ rfl)) (@pvx _ 1 _ _ rfl)) (@zf _ _ _ _)) (fun _ _=>rfl))) (by rfl) (by trivial)) (by exact (@ze _ _ _ _ _ (@zm _ _ (9) _ _ _ _ zaa.nd rfl (Or.inl rfl) (@zi _ _ _ _ _ _ _ _ (@zE _) (@zi _ _ _ _ _ _ _ _ (@zD _) (@zi _ _ _ _ _ _ _ _ (@zD _) (@pvx _ 9 _ _ rfl) (@pvx _ 9 _ _ rfl)) (@pvx _ 9 _ _ rfl)) (@zy _ _ _ _ _ _ _ (@zb2 _) (@pvx _ 4 _ _ rfl) (@zi _ _ _ _ _ _ _ _ (@zE _) (@zi _ _ _ _ _ _ _ _ (@zG _) (@pvx _ 8 _ _ rfl) (@zf _ _ _ _)) (@zf _ _ _ _)) (fun _ _=>rfl))) (by rfl) (by trivial)) (by exact (@ze _ _ _ _ _ (@zaO _ _ _ _ _ _ _ _ (@zC _ _ _ _ _ _ _ _ (@zhV _) (@pvx _ 6 _ _ rfl) (@zf _ _ _ _) (zL _)) (@zk _ _ _ (@zm _ _ (9) _ _ _ _ zaa.nd rfl (Or.inl rfl) (@pvx _ 6 _ _ rfl) (by rfl) (by trivial))) (@z8 _)) (by exact (@ze _ _ _ _ _ (@za3 _ _ _ _ (@zcd _ _ _ _ _ _ _ _ _ _ _ _ PySem.F.plainAttrs_list PySem.F.slot_list_append PySem.F.type_list_append (@zbb _) (@pvx _ 7 _ _ rfl) (@ya _ _ _ (@zi _ _ _ _ _ _ _ _ (@zE _) (@pvx _ 9 _ _ rfl) (@pvx _ 3 _ _ rfl)) (by rfl)) (by rfl) (by rfl) (by rfl) (by rfl) (by rfl)) (by rfl)) (by exact (@zk _ _ _ (@zm _ _ (6) _ _ _ _ zaa.nd rfl (Or.inl rfl) (@zi _ _ _ _ _ _ _ _ (@zaV _) (@pvx _ 6 _ _ rfl) (@pvx _ 3 _ _ rfl)) (by rfl) (by trivial))))))))))))))) (by intro _; rfl)) (by exact (@zk _ _ _ (@zz _ _ _ _ (@pvx _ 7 _ _ rfl))))))))))))))),?_⟩
  refine⟨by show 8≤sizeLine; rw [sizeLine_eq]; decide,fun tp ht=>?_⟩
  have s1:zw H (upd H tp (.tup zlg)):=zb ht
  refine⟨_,rfl,_,rfl,a,ns,k,rfl,s1.seq hS,hlen,k0,k1,fun c=>?_⟩
  refine⟨_,rfl,_,_,rfl,rfl,⟨by decide,by decide,by decide⟩,_,_,rfl,rfl,_,rfl,?_⟩
  refine zaq (fun _=>⟨_,rfl,?_⟩) (fun _=>?_)
  all_goals
   refine⟨Nat.zero_le _,fun l hl=>?_⟩
   have hln:H l=none:=zw.free s1 hl
   have htl:tp≠l:=zq zc hl
   refine⟨_,rfl,many,rfl,by omega,by omega,zad (lo:=0) (n:=many.toNat) (fun i σ H'=>∃ (r:Int) (v8 v9:Option V) (ds:List Int),σ = [some (.ref a),some (.int k),some (.int many),some (.int bs),some (.ref tp),some (.int c),some (.int r),some (.ref l),v8,v9]∧zfG i bs ds∧zw H H'∧H' tp=some (.tup zlg)∧H' l=some (.lst (ds.map V.int)))
    ⟨_,none,none,[],rfl,⟨rfl,by simp⟩,zW s1 hln,by rw [zl htl]; exact zc,zc⟩ ?_ ?_⟩
   ·rintro i σ H2 hi ⟨r,v8,v9,ds,rfl,hd,s2,htp,hrow⟩
    obtain⟨q1,e1,q1p,q1l⟩:=zeq (0+(i:Int))
    obtain⟨q2,e2,q2p,q2l⟩:=zeq (3*(0+(i:Int))+k)
    obtain⟨q3,e3,q3p,q3l⟩:=zeq (0+(i:Int)+5)
    have c1:=Int.emod_nonneg c (show q1≠0 by omega)
    have c2:=Int.emod_lt_of_pos c q1p
    have hi':(i:Int) < 1000:=by omega
    refine⟨_,rfl,_,rfl,_,rfl,_,_,rfl,rfl,(by show (0:Int) < 8; decide),tp,_,_,_,rfl,rfl,SqT.of htp,e1,_,_,rfl,rfl,q1p,_,rfl,_,_,rfl,rfl,.inl ⟨by decide,by decide⟩,_,rfl,_,_,rfl,rfl,.inl ⟨by omega,by omega⟩,_,_,rfl,rfl,_,_,rfl,rfl,.inl ⟨by omega,by omega⟩,?_⟩
    refine⟨_,rfl,_,rfl,_,_,rfl,rfl,_,_,rfl,rfl,.inl ⟨by decide,by decide⟩,_,rfl,_,_,rfl,rfl,_,_,rfl,rfl,.inl ⟨by omega,by omega⟩,_,_,rfl,rfl,_,rfl,_,_,rfl,rfl,.inl ⟨by decide,by decide⟩,_,_,rfl,rfl,?_⟩
    refine⟨_,rfl,_,rfl,_,rfl,_,_,rfl,rfl,.inl ⟨by decide,by decide⟩,_,rfl,_,_,rfl,rfl,_,_,rfl,rfl,(by show (0:Int) < 8; decide),tp,_,_,_,rfl,rfl,SqT.of htp,e2,_,_,rfl,rfl,q2p,?_⟩
    generalize c % q1*(48271+2*(0+(i:Int))*(0+(i:Int)))+7919*(0+(i:Int)+1)*(0+(i:Int)+1)+104729*k=ms
    have d1:=Int.emod_nonneg ms (show q2≠0 by omega)
    have d2:=Int.emod_lt_of_pos ms q2p
    refine⟨_,rfl,_,rfl,_,_,rfl,rfl,.inl ⟨by omega,by omega⟩,_,rfl,_,_,rfl,rfl,.inr ⟨by omega,by omega⟩,_,rfl,_,rfl,_,_,rfl,rfl,_,_,rfl,rfl,(by show (0:Int) < 8; decide),tp,_,_,_,rfl,rfl,SqT.of htp,e3,_,_,rfl,rfl,q3p,?_⟩
    refine⟨_,rfl,_,_,rfl,rfl,_,rfl,?_⟩
    have hdl:=hd.1
    refine zaq (fun _=>⟨_,rfl,?_⟩) (fun _=>?_)
    all_goals
     refine⟨_,rfl,.inl ⟨rfl,_,SqL.of hrow⟩,_,rfl,_,rfl,_,_,rfl,rfl,b0,l,_,_,rfl,rfl,hrow,zae (by rw [List.length_map]; omega),?_⟩
     refine⟨_,rfl,_,rfl,_,_,rfl,rfl,⟨b0,b1⟩,?_⟩
     refine⟨_,_,_,ds++[_],rfl,⟨by rw [List.length_append,hdl]; rfl,fun d hm=>?_⟩,zW s2 hln,by rw [zl htl]; exact htp,by rw [zc,List.map_append]; rfl⟩; rcases List.mem_append.mp hm with hm | hm
     ·exact hd.2 d hm
     ·have e:=List.mem_singleton.mp hm
      rw [e]
      exact⟨Int.emod_nonneg _ (by omega),Int.emod_lt_of_pos _ b0⟩
   ·rintro σ H2 ⟨r,v8,v9,ds,rfl,hd,s2,htp,hrow⟩
    exact⟨_,rfl,q l ds H2 hln s2 hd hrow⟩
theorem zhE:FnScope ["found"] ["found"] (zh zcM):=⟨rfl,rfl,rfl,by decide +kernel,rfl,by decide +kernel,by decide +kernel⟩
theorem zhF {fd:FuncData} (T:Txt K mg t) (F:Fun K "_law_whole" "_law_whole" zcM t.l_whole fd):FnOk P w K mg base CX0 1 t.l_whole fd ["found"] (zhm K):=by
 refine F.ok zhE (fun vs H Q E h=>?_) (fun cdv A outer s H vs Q E hr h=>?_)
 ·obtain⟨i,rfl,_⟩:=h
  rfl
 ·obtain⟨i,rfl,q⟩:=h
  refine⟨_,(@zk _ _ _ (@zz _ _ _ _ (@zmu _ _ _ _ _ _ _ (@zn _ _ _ _ _ _ _ _ _ (@zco _) (by rfl) T.isinstance_ boot_isinstance (@za _ _ _ _ _ (@pvx _ 0 _ _ rfl) (@ya _ _ _ (@zd4 _ _ (.ty "int") _ _ rfl T.int_ boot_int rfl (by decide) (by decide)) (by rfl)) (by rfl)) (by decide) (by decide) (by rfl) (by rfl)) (@zmt _ _ _ _ _ (@zmv _ _ _ _ (@zn _ _ _ _ _ _ _ _ _ (@zco _) (by rfl) T.isinstance_ boot_isinstance (@za _ _ _ _ _ (@pvx _ 0 _ _ rfl) (@ya _ _ _ (@zd4 _ _ (.ty "bool") _ _ rfl T.bool_ boot_bool rfl (by decide) (by decide)) (by rfl)) (by rfl)) (by decide) (by decide) (by rfl) (by rfl))))))),?_⟩
  refine⟨_,rfl,_,_,_,_,rfl,.int i,rfl,_,rfl,zld ?_⟩
  exact⟨_,rfl,_,_,_,_,rfl,.int i,rfl,_,rfl,q⟩
theorem zbd:FnScope ["script","at","most_k","most_n","plan","primes","p","k","many","left"] ["script","at","most_k","most_n"] (zh zcu):=⟨rfl,rfl,rfl,by decide +kernel,rfl,by decide +kernel,by decide +kernel⟩
theorem zi3 {fd:FuncData} (T:Txt K mg t) (F:Fun K "_law_code" "_law_code" zcu t.l_code fd):FnOk P w K mg base CX0 3 t.l_code fd ["script","at","most_k","most_n"] (ziD K):=by
 obtain⟨fd_l_draws,F_l_draws,b_l_draws⟩:=T.f_l_draws
 have G_l_draws:=zcZ (P:=P) (w:=w) (base:=base) T F_l_draws
 refine F.ok zbd (fun vs H Q E h=>?_) (fun cdv A outer s H vs Q E hr h=>?_)
 ·obtain⟨a,ns,at',mk,mn,rfl,_⟩:=h
  rfl
 ·obtain⟨a,ns,at',mk,mn,rfl,hS,hlen,a0,a1,k1,k5,kn,n16,q⟩:=h
  refine⟨_,(@ze _ _ _ _ _ (@zm _ _ (4) _ _ _ _ zbd.nd rfl (Or.inr rfl) (@zp _ _ _ _ _ _ _ _ _ _ _ _ _ _ _ _ G_l_draws (hr.mono (by decide)) rfl T.m_l_draws F_l_draws.kp b_l_draws .nil (@zN _) (@za _ _ _ _ _ (@pvx _ 0 _ _ rfl) (by exact (@za _ _ _ _ _ (@pvx _ 1 _ _ rfl) (@za _ _ _ _ _ (@zf _ _ _ _) (@ya _ _ _ (@zf _ _ _ _) (by rfl)) (by rfl)) (by rfl))) (by rfl)) (by decide) (by rfl) (by rfl)) (by rfl) (by trivial)) (by exact (by exact (@zjO _ 5 _ _ _ _ _ _ _ [5,7,11,13,17,19,23,29,31,37,41,43,47,53,59,61,67,71,73,79,83,89,97] (by decide +kernel) zbd.nd rfl (Or.inl rfl) (by first | exact .inl rfl | exact .inr rfl) (by exact (@ze _ _ _ _ _ (@zm _ _ (6) _ _ _ _ zbd.nd rfl (Or.inl rfl) (@zy _ _ _ _ _ _ _ (@zu _) (@zY _ _ _ _ (@za _ _ _ _ _ (@zy _ _ _ _ _ _ _ (@zu _) (@pvx _ 5 _ _ rfl) (@zi _ _ _ _ _ _ _ _ (@zE _) (@zy _ _ _ _ _ _ _ (@zu _) (@pvx _ 4 _ _ rfl) (@zf _ _ _ _) (fun _ _=>rfl)) (@zf _ _ _ _)) (fun _ _=>rfl)) (@ya _ _ _ (@zy _ _ _ _ _ _ _ (@zu _) (@pvx _ 5 _ _ rfl) (@zi _ _ _ _ _ _ _ _ (@zE _) (@zy _ _ _ _ _ _ _ (@zu _) (@pvx _ 4 _ _ rfl) (@zf _ _ _ _) (fun _ _=>rfl)) (@zf _ _ _ _)) (fun _ _=>rfl)) (by rfl)) (by rfl))) (@zi _ _ _ _ _ _ _ _ (@zE _) (@zy _ _ _ _ _ _ _ (@zu _) (@pvx _ 4 _ _ rfl) (@zf _ _ _ _) (fun _ _=>rfl)) (@zf _ _ _ _)) (fun _ _=>rfl)) (by rfl) (by trivial)) (by exact (@ze _ _ _ _ _ (@zm _ _ (7) _ _ _ _ zbd.nd rfl (Or.inl rfl) (@zi _ _ _ _ _ _ _ _ (@zG _) (@zf _ _ _ _) (@zi _ _ _ _ _ _ _ _ (@zE _) (@zy _ _ _ _ _ _ _ (@zu _) (@pvx _ 4 _ _ rfl) (@zf _ _ _ _) (fun _ _=>rfl)) (@zn _ _ _ _ _ _ _ _ _ (@ze7 _ rfl) (by rfl) T.min_ boot_min (@za _ _ _ _ _ (@pvx _ 2 _ _ rfl) (@ya _ _ _ (@pvx _ 6 _ _ rfl) (by rfl)) (by rfl)) (by decide) (by decide) (by rfl) (by rfl)))) (by rfl) (by trivial)) (by exact (@ze _ _ _ _ _ (@zm _ _ (8) _ _ _ _ zbd.nd rfl (Or.inl rfl) (@zi _ _ _ _ _ _ _ _ (@zG _) (@pvx _ 7 _ _ rfl) (@zi _ _ _ _ _ _ _ _ (@zE _) (@zy _ _ _ _ _ _ _ (@zu _) (@pvx _ 4 _ _ rfl) (@zf _ _ _ _) (fun _ _=>rfl)) (@zi _ _ _ _ _ _ _ _ (@zG _) (@zi _ _ _ _ _ _ _ _ (@zR _) (@zn _ _ _ _ _ _ _ _ _ (@ze7 _ rfl) (by rfl) T.min_ boot_min (@za _ _ _ _ _ (@pvx _ 3 _ _ rfl) (@ya _ _ _ (@pvx _ 6 _ _ rfl) (by rfl)) (by rfl)) (by decide) (by decide) (by rfl) (by rfl)) (@pvx _ 7 _ _ rfl)) (@zf _ _ _ _)))) (by rfl) (by trivial)) (by exact (@ze _ _ _ _ _ (@zm _ _ (9) _ _ _ _ zbd.nd rfl (Or.inr rfl) (@zam _ _ _ _ _ _ _ _ _ (@zeV _ rfl) (by rfl) T.list_ boot_list (@ya _ _ _ (@zam _ _ _ _ _ _ _ _ _ (@zgp _) (by rfl) T.range_ boot_range (@ya _ _ _ (@pvx _ 6 _ _ rfl) (by rfl)) (by decide) (by decide) (by rfl) (by rfl)) (by rfl)) (by decide) (by decide) (by rfl) (by rfl)) (by rfl) (by trivial)) (by exact (@zk _ _ _ (@zz _ _ _ _ (@za4 _ _ _ _ _ (@za _ _ _ _ _ (@pvx _ 6 _ _ rfl) (@za _ _ _ _ _ (@pvx _ 7 _ _ rfl) (@ya _ _ _ (@zam _ _ _ _ _ _ _ _ _ (@zaQ _) (by rfl) T.tuple_ boot_tuple (@ya _ _ _ (@zA _ _ _ _ _ _ _ _ _ _ _ _ _ (CompSc.of (N':=["j","left","plan"]) (ix:=[none,some 9,some 4]) (zh zcu) ["script","at","most_k","most_n","plan","primes","p","k","many","left"] rfl rfl (by decide +kernel)) rfl (@zT _ _ rfl) (@zH _ _ _ _ _ _ rfl T.range_ (@ya _ _ _ (@pvx _ 8 _ _ rfl) (by rfl)) (by rfl)) (fun _ _ _ _=>(@zg _ _ (0) _ (show (["j","left","plan"]:List Str).Nodup by decide +kernel) rfl (Or.inl rfl) (by trivial))) (fun _ _ _ _=>(@zr _)) (fun _ _ _ _=>(@zmM _ (K) _ _ _ _ _ _ _ _ _ _ _ rfl PySem.F.plainAttrs_list PySem.F.slot_list_pop PySem.F.type_list_pop (@zjC _) (@pvx _ 1 _ _ rfl) (@ya _ _ _ (@zi _ _ _ _ _ _ _ _ (@zE _) (@zy _ _ _ _ _ _ _ (@zar _ (K) rfl) (@pvx _ 2 _ _ rfl) (@zi _ _ _ _ _ _ _ _ (@zG _) (@zf _ _ _ _) (@pvx _ 0 _ _ rfl)) (fun _ _=>rfl)) (@zn _ _ _ _ _ _ _ _ _ (@zbf _ (K) rfl) (by rfl) T.len_ boot_len (@ya _ _ _ (@pvx _ 1 _ _ rfl) (by rfl)) (by decide) (by decide) (by rfl) (by rfl))) (by rfl)) (by rfl) (by rfl) (by rfl) (by rfl) (by rfl))) (by intro _; rfl)) (by rfl)) (by decide) (by decide) (by rfl) (by rfl)) (by rfl)) (by rfl)) (by rfl)))))))))))))))))),?_⟩
  refine⟨_,rfl,_,rfl,a,ns,at',20,27720,rfl,hS,hlen,a0,a1,by decide,by decide,by decide,by decide,fun l ds H1 hl s1 hd hpl=>?_⟩
  have hdl:ds.length=20:=hd.1
  have dat:∀ m:Int,0≤m→m < 20→∃ c:Int,atI (ds.map V.int) m=some (.int c):=fun m h0 h1=>zd5 h0 (by omega)
  refine⟨by show 23≤sizeLine; rw [sizeLine_eq]; decide,fun pr hpr=>?_⟩
  have hlpr:l≠pr:=zq hpl hpr
  obtain⟨d0,ed0⟩:=dat 0 (by decide) (by decide)
  obtain⟨d1,ed1⟩:=dat 1 (by decide) (by decide)
  obtain⟨d2,ed2⟩:=dat 2 (by decide) (by decide)
  obtain⟨d3,ed3⟩:=dat 3 (by decide) (by decide)
  have hp2:(upd H1 pr (.lst (zJ.map V.int))) l=some (.lst (ds.map V.int)):=by rw [zl hlpr]; exact hpl
  obtain⟨p1,mp1,ep1⟩:=zjS (ns:=zJ) (k:=d0 % 23) (Int.emod_nonneg _ (by decide)) (Int.emod_lt_of_pos _ (by decide))
  obtain⟨p2,mp2,ep2⟩:=zjS (ns:=zJ) (k:=d0 % 3) (Int.emod_nonneg _ (by decide)) (by have:=Int.emod_lt_of_pos d0 (show (0:Int) < 3 by decide); have e:(zJ.length:Int)=23:=rfl; omega)
  obtain⟨p,ep,hpp⟩:=zmN (x:=p1) (y:=p2) (m:=d1 % 2) (Int.emod_nonneg _ (by decide)) (Int.emod_lt_of_pos _ (by decide))
  have mp:p∈zJ:=by rcases hpp with e | e <;> rw [e] <;> assumption
  have rp:=zV mp
  refine⟨_,rfl,_,rfl,l,_,_,_,rfl,rfl,SqL.of hp2,ed0,_,_,rfl,rfl,(by show (0:Int) < 23; decide),pr,_,_,_,rfl,rfl,SqL.of zc,ep1,
   _,rfl,_,rfl,l,_,_,_,rfl,rfl,SqL.of hp2,ed0,_,_,rfl,rfl,(by show (0:Int) < 3; decide),pr,_,_,_,rfl,rfl,SqL.of zc,ep2,za2,fun l2 hl2=>?_⟩
  have hll2:l≠l2:=zq hp2 hl2
  have hp3:(upd (upd H1 pr (.lst (zJ.map V.int))) l2 (.lst [.int p1,.int p2])) l=some (.lst (ds.map V.int)):=by rw [zl hll2]; exact hp2
  refine⟨_,rfl,l,_,_,_,rfl,rfl,SqL.of hp3,ed1,_,_,rfl,rfl,(by show (0:Int) < 2; decide),l2,_,_,_,rfl,rfl,SqL.of zc,ep,?_⟩
  have hm1:(0:Int) < (if p < mk then p else mk):=by split <;> omega
  have hm2:(if p < mk then p else mk)≤mk:=by split <;> omega
  have hm3:(if p < mk then p else mk)≤p:=by split <;> omega
  refine⟨_,rfl,l,_,_,_,rfl,rfl,SqL.of hp3,ed2,_,rfl,_,rfl,_,_,rfl,_,_,rfl,rfl,hm1,_,_,rfl,rfl,?_⟩
  generalize (if p < mk then p else mk)=mm at hm1 hm2 hm3 ⊢
  have hk0:=Int.emod_nonneg d2 (show mm≠0 by omega)
  have hk1:=Int.emod_lt_of_pos d2 hm1
  have hn1:(if p < mn then p else mn)≤mn:=by split <;> omega
  have hn2:(if p < mn then p else mn)≤p:=by split <;> omega
  have hn3:mm≤(if p < mn then p else mn):=by split <;> omega
  refine⟨_,rfl,_,rfl,l,_,_,_,rfl,rfl,SqL.of hp3,ed3,_,rfl,_,rfl,_,_,rfl,_,rfl,_,_,rfl,rfl,_,_,rfl,rfl,_,_,rfl,rfl,(by omega),_,_,rfl,rfl,?_⟩
  generalize (if p < mn then p else mn)=nn at hn1 hn2 hn3 ⊢
  have hq0:=Int.emod_nonneg d3 (show nn - (1+d2 % mm)+1≠0 by omega)
  have hq1:=Int.emod_lt_of_pos d3 (show 0 < nn - (1+d2 % mm)+1 by omega)
  refine⟨_,rfl,p,rfl,fun r hr2=>⟨r,p,rfl,zc,by omega,by omega,fun lf hlf=>?_⟩⟩
  have hlr:l≠r:=zq hp3 hr2
  have hlf1:l≠lf:=by
   refine zq (H:=upd (upd (upd H1 pr (.lst (zJ.map V.int))) l2 (.lst [.int p1,.int p2])) r (.rng 0 p)) (o:=.lst (ds.map V.int)) ?_ hlf
   rw [zl hlr]; exact hp3
  have sA:zw H (upd (upd H1 pr (.lst (zJ.map V.int))) l2 (.lst [.int p1,.int p2])):=(s1.trans (zb hpr)).trans (zb hl2)
  have sB:=(sA.trans (zb (o:=.rng 0 p) hr2)).trans (zb (o:=.lst ((zbG 0 p.toNat).map V.int)) hlf)
  have hlfH:H lf=none:=(sA.trans (zb (o:=.rng 0 p) hr2)).free hlf
  obtain⟨nd0,rg0⟩:=ziE p
  refine⟨_,rfl,_,rfl,_,rfl,_,rfl,by omega,by omega,zI (n:=(1+d2 % mm+d3 % (nn - (1+d2 % mm)+1)).toNat) (fun i ys H'=>∃ xs ls:List Int,ys=xs.map V.int∧xs.length=i∧zw H H'∧H' l=some (.lst (ds.map V.int))∧H' lf=some (.lst (ls.map V.int))∧ls.length+i=p.toNat∧(xs++ls).Nodup∧∀ y∈xs++ls,0≤y∧y < p)
   ⟨[],zbG 0 p.toNat,rfl,rfl,sB,by rw [zl hlf1,zl hlr]; exact hp3,zc,by rw [zcR]; rfl,by simpa using nd0,by simpa using rg0⟩ (fun i ys H' hi _=>hi) (fun ys H' _=>Nat.le_refl _) ?_ ?_⟩
  ·rintro i x ys H4 H5 hi ⟨xs,ls,rfl,hxl,s4,hpl4,hlf4,hll,nd,rg⟩ ⟨rfl,rfl⟩
   refine gY ?_
   obtain⟨c,ec⟩:=dat (4+(0+(i:Int))) (by omega) (by omega)
   have lpos:0 < ls.length:=by omega
   have lm:((ls.map V.int).length:Int)=(ls.length:Int):=by rw [List.length_map]
   have c0:=Int.emod_nonneg c (show (ls.length:Int)≠0 by omega)
   have c1:=Int.emod_lt_of_pos c (show (0:Int) < ls.length by omega)
   have hsl:=sizeLine_eq
   obtain⟨y,ey⟩:∃ y,ls[(c % (ls.length:Int)).toNat]? = some y:=⟨ls[(c % (ls.length:Int)).toNat]'(by omega),by simp⟩
   refine⟨_,rfl,.inl ⟨rfl,_,SqL.of hlf4⟩,_,rfl,_,rfl,_,_,rfl,rfl,l,_,_,_,rfl,rfl,SqL.of hpl4,ec,_,rfl,lf,_,rfl,.inl (SqL.of hlf4),_,_,rfl,rfl,(by rw [lm]; omega),lf,_,_,(c % (ls.length:Int)).toNat,.int y,rfl,rfl,hlf4,?_⟩
   rw [lm]
   refine⟨by omega,by omega,by rw [List.length_map]; exact seqIndex_of c0 c1,by rw [List.getElem?_map,ey]; rfl,zae (by rw [List.length_map]; omega),xs++[y],ls.eraseIdx (c % (ls.length:Int)).toNat,by rw [List.map_append]; rfl,by rw [List.length_append,hxl]; rfl,zW s4 hlfH,by rw [zl hlf1]; exact hpl4,by rw [zc,zfi],?_,zli ey nd rg⟩
   rw [List.length_eraseIdx]
   split <;> omega
  ·rintro ys H4 D ⟨xs,ls,rfl,hxl,s4,hpl4,hlf4,hll,nd,rg⟩ hD
   refine⟨D,_,rfl,.inl ⟨SqL.of zc,fun tt htt=>⟨by show 3≤sizeLine; rw [sizeLine_eq]; decide,fun c hc=>?_⟩⟩⟩
   have s5:=(s4.trans (zb (o:=.lst (xs.map V.int)) hD)).trans (zb (o:=.tup (xs.map V.int)) htt)
   refine q c tt p _ xs _ (s5.free hc) (s5.trans (zb hc)) ⟨mp,by omega,by omega,by omega,by omega,(List.nodup_append.mp nd).1,fun y hy=>rg y (List.mem_append_left _ hy)⟩ zc ?_
   rw [zl (zq zc hc)]
   exact zc
theorem zbe:FnScope ["p","polynomial","x","total","power","number"] ["p","polynomial","x"] (zh zcN):=⟨rfl,rfl,rfl,by decide +kernel,rfl,by decide +kernel,by decide +kernel⟩
theorem zhG {fd:FuncData} (T:Txt K mg t) (F:Fun K "_law_value" "_law_value" zcN t.l_value fd):FnOk P w K mg base CX0 1 t.l_value fd ["p","polynomial","x"] (zhl K):=by
 refine F.ok zbe (fun vs H Q E h=>?_) (fun cdv A outer s H vs Q E hr h=>?_)
 ·obtain⟨p,x,a,cs,rfl,_⟩:=h
  rfl
 ·obtain⟨p,x,a,cs,rfl,hS,p0,p1,x0,x1,q⟩:=h
  refine⟨_,(@ze _ _ _ _ _ (@zm _ _ (3) _ _ _ _ zbe.nd rfl (Or.inl rfl) (@zf _ _ _ _) (by rfl) (by trivial)) (by exact (@ze _ _ _ _ _ (@zm _ _ (4) _ _ _ _ zbe.nd rfl (Or.inl rfl) (@zf _ _ _ _) (by rfl) (by trivial)) (by exact (@ze _ _ _ _ _ (@zal _ _ _ _ _ _ _ _ PassesOwn.never rfl (@zjM _ _ _ _ (@pvx _ 1 _ _ rfl)) (@zg _ _ (5) _ zbe.nd rfl (Or.inl rfl) (by trivial)) (@ze _ _ _ _ _ (@zm _ _ (3) _ _ _ _ zbe.nd rfl (Or.inl rfl) (@zi _ _ _ _ _ _ _ _ (@zE _) (@zi _ _ _ _ _ _ _ _ (@zG _) (@pvx _ 3 _ _ rfl) (@zi _ _ _ _ _ _ _ _ (@zD _) (@pvx _ 5 _ _ rfl) (@pvx _ 4 _ _ rfl))) (@pvx _ 0 _ _ rfl)) (by rfl) (by trivial)) (by exact (@zk _ _ _ (@zm _ _ (4) _ _ _ _ zbe.nd rfl (Or.inl rfl) (@zi _ _ _ _ _ _ _ _ (@zE _) (@zi _ _ _ _ _ _ _ _ (@zD _) (@pvx _ 4 _ _ rfl) (@pvx _ 2 _ _ rfl)) (@pvx _ 0 _ _ rfl)) (by rfl) (by trivial))))) (by intro _; rfl)) (by exact (@zk _ _ _ (@zz _ _ _ _ (@pvx _ 3 _ _ rfl))))))))),?_⟩
  refine⟨_,rfl,a,rfl,?_⟩
  rcases hS with hS | hS
  ·refine .inl ⟨⟨_,hS⟩,zbN (K:=K) (a:=a) (xs:=cs.map V.int) (fun i σ H'=>H'=H∧∃ (total power:Int) (nb:Option V),σ = [some (.int p),some (.ref a),some (.int x),some (.int total),some (.int power),nb]∧0≤power∧power≤97∧lv p x total power (cs.drop i)=lv p x 0 1 cs)
    ⟨rfl,0,1,none,rfl,by decide,by decide,rfl⟩ (fun i σ H' _ ⟨e,_⟩=>by rw [e]; exact hS) ?_ ?_⟩
   ·rintro i y σ H1 hy ⟨rfl,total,power,nb,rfl,w0,w1,hl⟩
    obtain⟨c,rfl,hc⟩:=zao hy
    have m0:=Int.emod_nonneg (power*x) (show p≠0 by omega)
    have m1:=Int.emod_lt_of_pos (power*x) p0
    refine⟨_,rfl,_,rfl,_,rfl,_,_,rfl,rfl,.inr ⟨by omega,by omega⟩,_,_,rfl,rfl,_,rfl,_,_,rfl,rfl,p0,?_⟩
    refine⟨_,rfl,_,rfl,_,_,rfl,rfl,.inl ⟨by omega,by omega⟩,_,rfl,_,_,rfl,rfl,p0,?_⟩
    exact⟨rfl,_,_,_,rfl,m0,by omega,(zh7 hc).symm.trans hl⟩
   ·rintro σ H1 ⟨rfl,total,power,nb,rfl,w0,w1,hl⟩
    rw [List.length_map,List.drop_length] at hl
    have hl:total=lv p x 0 1 cs:=hl
    rw [zh6 p0] at hl
    rw [← hl] at q
    exact⟨_,rfl,q⟩
  ·refine .inr ⟨⟨_,hS⟩,zk4 (K:=K) (a:=a) (xs:=cs.map V.int) (fun i σ H'=>H'=H∧∃ (total power:Int) (nb:Option V),σ = [some (.int p),some (.ref a),some (.int x),some (.int total),some (.int power),nb]∧0≤power∧power≤97∧lv p x total power (cs.drop i)=lv p x 0 1 cs)
    ⟨rfl,0,1,none,rfl,by decide,by decide,rfl⟩ (fun i σ H' _ ⟨e,_⟩=>by rw [e]; exact hS) ?_ ?_⟩
   ·rintro i y σ H1 hy ⟨rfl,total,power,nb,rfl,w0,w1,hl⟩
    obtain⟨c,rfl,hc⟩:=zao hy
    have m0:=Int.emod_nonneg (power*x) (show p≠0 by omega)
    have m1:=Int.emod_lt_of_pos (power*x) p0
    refine⟨_,rfl,_,rfl,_,rfl,_,_,rfl,rfl,.inr ⟨by omega,by omega⟩,_,_,rfl,rfl,_,rfl,_,_,rfl,rfl,p0,?_⟩
    refine⟨_,rfl,_,rfl,_,_,rfl,rfl,.inl ⟨by omega,by omega⟩,_,rfl,_,_,rfl,rfl,p0,?_⟩
    exact⟨rfl,_,_,_,rfl,m0,by omega,(zh7 hc).symm.trans hl⟩
   ·rintro σ H1 ⟨rfl,total,power,nb,rfl,w0,w1,hl⟩
    rw [List.length_map,List.drop_length] at hl
    have hl:total=lv p x 0 1 cs:=hl
    rw [zh6 p0] at hl
    rw [← hl] at q
    exact⟨_,rfl,q⟩
def zi4 (K:PySem.W.Frag):Sp:=fun vs H Q _=>∃ (a:Addr) (ds:List Int) (p k:Int),vs = [.ref a,.int p,.int k]∧SqL K H a (ds.map V.int)∧ds.length≤1000∧0 < p ∧
 ∀ (l:Addr) (poly:List Int) (H':Hp),H l=none→zw H H'→(poly.length≤ds.length∧∀ x∈poly,0≤x∧x < p)→H' l=some (.tup (poly.map V.int))→Q (.ref l) H'
theorem zdY:FnScope ["draws","p","k"] ["draws","p","k"] (zh zaI):=⟨rfl,rfl,rfl,by decide +kernel,rfl,by decide +kernel,by decide +kernel⟩
theorem zdZ {fd:FuncData} (T:Txt K mg t) (F:Fun K "_law_polynomial" "_law_polynomial" zaI t.l_polynomial fd):FnOk P w K mg base CX0 1 t.l_polynomial fd ["draws","p","k"] (zi4 K):=by
 refine F.ok zdY (fun vs H Q E h=>?_) (fun cdv A outer s H vs Q E hr h=>?_)
 ·obtain⟨a,ds,p,k,rfl,_⟩:=h
  rfl
 ·obtain⟨a,ds,p,k,rfl,ha,hn,p0,q⟩:=h
  refine⟨_,(@zk _ _ _ (@zz _ _ _ _ (@zam _ _ _ _ _ _ _ _ _ (@zaQ _) (by rfl) T.tuple_ boot_tuple (@ya _ _ _ (@zA _ _ _ _ _ _ _ _ _ _ _ _ _ (CompSc.of (N':=["draw","p"]) (ix:=[none,some 1]) (zh zaI) ["draws","p","k"] rfl rfl (by decide +kernel)) rfl (@zT _ _ rfl) (@z9 _ _ _ _ (@zbO _ _ _ _ _ _ _ _ _ _ zcA (@pvx _ 0 _ _ rfl) (@zc3 _) (@zb1 _ _ _ (@pvx _ 2 _ _ rfl)))) (fun _ _ _ _=>(@zg _ _ (0) _ (show (["draw","p"]:List Str).Nodup by decide +kernel) rfl (Or.inl rfl) (by trivial))) (fun _ _ _ _=>(@zr _)) (fun _ _ _ _=>(@zi _ _ _ _ _ _ _ _ (@zE _) (@pvx _ 0 _ _ rfl) (@pvx _ 1 _ _ rfl))) (by intro _; rfl)) (by rfl)) (by decide) (by decide) (by rfl) (by rfl)))),?_⟩
  obtain⟨ms,ems,lms⟩:=zgt ds none (some k)
  refine⟨_,rfl,_,rfl,_,rfl,a,_,rfl,ha,fun z hz=>?_⟩
  rw [ems]
  have s4:=zb (o:=.lst (ms.map V.int)) hz
  refine⟨z,rfl,⟨_,SqL.of zc⟩,zaC (K:=K) (xs:=ms.map V.int) (fs:=ms.map fun d=>V.int (d % p)) (SqL.of zc) (by rw [List.length_map,List.length_map]) (by rw [List.length_map]; omega) ?_ ?_⟩
  ·intro j x y R B hx hy hR
   obtain⟨c,_,rfl,rfl⟩:=zgu hx hy
   refine gY ?_
   exact⟨_,rfl,_,rfl,_,_,rfl,rfl,p0,hR⟩
  intro D hD
  have epol:(ms.map fun d=>V.int (d % p))=(ms.map (· % p)).map V.int:=by rw [List.map_map]; rfl
  rw [epol]
  refine⟨D,_,rfl,.inl ⟨SqL.of zc,fun po hpo=>?_⟩⟩
  have s5:=s4.trans (zb (o:=.lst ((ms.map (· % p)).map V.int)) hD)
  refine q po _ _ (s5.free hpo) (s5.trans (zb hpo)) ⟨by rw [List.length_map]; exact lms,fun x hx=>?_⟩ zc
  obtain⟨d,_,rfl⟩:=List.mem_map.mp hx
  exact⟨Int.emod_nonneg _ (by omega),Int.emod_lt_of_pos _ p0⟩
def zkE (K:PySem.W.Frag):Sp:=fun vs H Q _=>∃ (a c tt:Addr) (ns:List Int) (at' p k:Int) (pl:List Int),vs = [.ref a,.int at',.ref c]∧SqL K H a (ns.map V.int)∧ns.length≤63∧0≤at'∧at'≤900∧zbH H c tt p k pl∧0 < p∧p≤97∧(∀ x∈pl,0≤x∧x < p)∧pl.length≤16 ∧
 ∀ (l:Addr) (rw:List (Option Int)) (H':Hp),H l=none→zw H H'→rw.length=pl.length→(∀ z,some z∈rw→0≤z∧z < p)→H' l=some (.lst (rw.map enc))→Q (.ref l) H'
theorem zna {a b m:Int} (h0:0≤m) (h1:m < 6) (a0:0≤a) (a1:a < 3) (b0:0≤b) (b1:b < 3):∃ z:Int,atI [V.int 0,.int 0,.int a,.int b,.int 0,.int 0] m=some (.int z)∧0≤z∧z < 3:=by
 have:m=0∨m=1∨m=2∨m=3∨m=4∨m=5:=by omega
 rcases this with e | e | e | e | e | e <;> subst e
 ·exact⟨0,rfl,by decide,by decide⟩
 ·exact⟨0,rfl,by decide,by decide⟩
 ·exact⟨a,rfl,a0,a1⟩
 ·exact⟨b,rfl,b0,b1⟩
 ·exact⟨0,rfl,by decide,by decide⟩
 ·exact⟨0,rfl,by decide,by decide⟩
theorem zlR {m:Int} (h0:0≤m) (h1:m < 6):∃ z:Int,atI [V.int 4,.int 9,.int 9,.int 9,.int 2,.int 1] m=some (.int z)∧0 < z:=by
 have:m=0∨m=1∨m=2∨m=3∨m=4∨m=5:=by omega
 rcases this with e | e | e | e | e | e <;> subst e <;> exact⟨_,rfl,by decide⟩
theorem zlS {m:Int} (h0:0≤m) (h1:m < 2):∃ z:Int,atI [V.int 9,.int 3] m=some (.int z)∧0 < z:=by
 have:m=0∨m=1:=by omega
 rcases this with e | e <;> subst e <;> exact⟨_,rfl,by decide⟩
theorem znT (n:Nat):(List.replicate n [V.non]).flatten=(List.replicate n (none:Option Int)).map enc:=by
 induction n with
 | zero=>rfl
 | succ n ih=>rw [List.replicate_succ,List.flatten_cons,ih,List.replicate_succ]; rfl
def zfY (H:Hp) (on:Addr):Prop:=∃ os:List Addr,os.length=3∧H on=some (.lst (os.map V.ref))∧∀ o∈os,∃ ms:List Int,H o=some (.tup (ms.map V.int))
theorem zfY.same {H H':Hp} {on:Addr} (s:zw H H') (h:zfY H on):zfY H' on:=by
 obtain⟨os,h1,h2,h3⟩:=h
 exact⟨os,h1,s _ _ h2,fun o ho=>let ⟨ms,e⟩:=h3 o ho; ⟨ms,s _ _ e⟩⟩
theorem zkF {p:Int} {rw:List (Option Int)} (h:∀ z,some z∈rw→0≤z∧z < p):∀ z,some z∈rw++[none]→0≤z∧z < p:=by
 intro z hz
 rcases List.mem_append.mp hz with m | m
 ·exact h z m
 ·cases List.mem_singleton.mp m
theorem zgP {p i:Int} {rw:List (Option Int)} (h:∀ z,some z∈rw→0≤z∧z < p) (hi:0≤i∧i < p):∀ z,some z∈rw++[some i]→0≤z∧z < p:=by
 intro z hz
 rcases List.mem_append.mp hz with m | m
 ·exact h z m
 ·cases List.mem_singleton.mp m
  exact hi
theorem zgQ {p x:Int} {cs:List Int} (hp:0 < p):0≤zc8 p x cs∧zc8 p x cs < p:=⟨zh4 hp cs,zh5 hp cs⟩
theorem zap:FnScope ["script","at","code","p","k","places","plan","ones","slips","way","row","number","which","entry"] ["script","at","code"] (zh zdm):=⟨rfl,rfl,rfl,by decide +kernel,rfl,by decide +kernel,by decide +kernel⟩
theorem zkG {fd:FuncData} (T:Txt K mg t) (F:Fun K "_law_row" "_law_row" zdm t.l_row fd):FnOk P w K mg base CX0 3 t.l_row fd ["script","at","code"] (zkE K):=by
 obtain⟨fd_l_draws,F_l_draws,b_l_draws⟩:=T.f_l_draws
 have G_l_draws:=zcZ (P:=P) (w:=w) (base:=base) T F_l_draws
 obtain⟨fd_l_polynomial,F_l_polynomial,b_l_polynomial⟩:=T.f_l_polynomial
 have G_l_polynomial:=zdZ (P:=P) (w:=w) (base:=base) T F_l_polynomial
 obtain⟨fd_l_value,F_l_value,b_l_value⟩:=T.f_l_value
 have G_l_value:=zhG (P:=P) (w:=w) (base:=base) T F_l_value
 refine F.ok zap (fun vs H Q E h=>?_) (fun cdv A outer s H vs Q E hr h=>?_)
 ·obtain⟨a,c,tt,ns,at',p,k,pl,rfl,_⟩:=h
  rfl
 ·obtain⟨a,c,tt,ns,at',p,k,pl,rfl,hS,hlen,a0,a1,hc,p0,p1,hpl,hn,q⟩:=h
  refine⟨_,(@ze _ _ _ _ _ (@zaX _ _ _ _ _ _ (@pvx _ 2 _ _ rfl) (@zaP _ _ _ _ _ _ rfl (@zj _ _ _ _ _ (@zg _ _ (3) _ zap.nd rfl (Or.inr rfl) (by trivial)) (@zj _ _ _ _ _ (@zg _ _ (4) _ zap.nd rfl (Or.inr rfl) (by trivial)) (@zj _ _ _ _ _ (@zg _ _ (5) _ zap.nd rfl (Or.inl rfl) (by trivial)) (@zB _) (by rfl)) (by rfl)) (by rfl)) (by rfl) (by rfl)) (by rfl) (by rfl) (by rfl)) (by exact (@ze _ _ _ _ _ (@zm _ _ (6) _ _ _ _ zap.nd rfl (Or.inr rfl) (@zp _ _ _ _ _ _ _ _ _ _ _ _ _ _ _ _ G_l_draws (hr.mono (by decide)) rfl T.m_l_draws F_l_draws.kp b_l_draws .nil (@zN _) (@za _ _ _ _ _ (@pvx _ 0 _ _ rfl) (by exact (@za _ _ _ _ _ (@pvx _ 1 _ _ rfl) (@za _ _ _ _ _ (@zf _ _ _ _) (@ya _ _ _ (@zf _ _ _ _) (by rfl)) (by rfl)) (by rfl))) (by rfl)) (by decide) (by rfl) (by rfl)) (by rfl) (by trivial)) (by exact (@ze _ _ _ _ _ (@zaY _ _ _ _ _ _ _ _ _ _ _ _ _ (7) _ _ _ zap.nd rfl (Or.inl rfl) (CompSc.of (N':=["j","plan","p","k"]) (ix:=[none,some 6,some 3,some 4]) (zh zdm) ["script","at","code","p","k","places","plan","ones","slips","way","row","number","which","entry"] rfl rfl (by decide +kernel)) rfl (@zT _ _ rfl) (@zH _ _ _ _ _ _ rfl T.range_ (@ya _ _ _ (@zf _ _ _ _) (by rfl)) (by rfl)) (fun _ _ _ _=>(@zg _ _ (0) _ (show (["j","plan","p","k"]:List Str).Nodup by decide +kernel) rfl (Or.inl rfl) (by trivial))) (fun _ _ _ _=>(@zr _)) (fun _ _ _ _=>(@zp _ _ _ _ _ _ _ _ _ _ _ _ _ _ _ _ G_l_polynomial (hr.mono (by decide)) rfl T.m_l_polynomial F_l_polynomial.kp b_l_polynomial .nil (@zN _) (@za _ _ _ _ _ (@zbO _ _ _ _ _ _ _ _ _ _ (zjP (K:=K) rfl) (@pvx _ 1 _ _ rfl) (@zb1 _ _ _ (@zi _ _ _ _ _ _ _ _ (@zD _) (@zf _ _ _ _) (@pvx _ 0 _ _ rfl))) (@zc3 _)) (@za _ _ _ _ _ (@pvx _ 2 _ _ rfl) (@ya _ _ _ (@pvx _ 3 _ _ rfl) (by rfl)) (by rfl)) (by rfl)) (by decide) (by rfl) (by rfl))) (by rfl) (by intro _; rfl) (by trivial)) (by exact (@ze _ _ _ _ _ (@zm _ _ (8) _ _ _ _ zap.nd rfl (Or.inl rfl) (@zp _ _ _ _ _ _ _ _ _ _ _ _ _ _ _ _ G_l_draws (hr.mono (by decide)) rfl T.m_l_draws F_l_draws.kp b_l_draws .nil (@zN _) (@za _ _ _ _ _ (@pvx _ 0 _ _ rfl) (by exact (@za _ _ _ _ _ (@zi _ _ _ _ _ _ _ _ (@zG _) (@pvx _ 1 _ _ rfl) (@zf _ _ _ _)) (@za _ _ _ _ _ (@zf _ _ _ _) (@ya _ _ _ (@zf _ _ _ _) (by rfl)) (by rfl)) (by rfl))) (by rfl)) (by decide) (by rfl) (by rfl)) (by rfl) (by trivial)) (by exact (@ze _ _ _ _ _ (@zm _ _ (9) _ _ _ _ zap.nd rfl (Or.inl rfl) (@zi _ _ _ _ _ _ _ _ (@zE _) (@zy _ _ _ _ _ _ _ (@zu _) (@pvx _ 8 _ _ rfl) (@zf _ _ _ _) (fun _ _=>rfl)) (@zf _ _ _ _)) (by rfl) (by trivial)) (by exact (@ze _ _ _ _ _ (@zm _ _ (10) _ _ _ _ zap.nd rfl (Or.inl rfl) (@zY _ _ _ _ (@zd _)) (by rfl) (by trivial)) (by exact (@ze _ _ _ _ _ (@zal _ _ _ _ _ _ _ _ PassesOwn.never rfl (@zH _ _ _ _ _ _ rfl T.range_ (@ya _ _ _ (@zn _ _ _ _ _ _ _ _ _ (@zx _) (by rfl) T.len_ boot_len (@ya _ _ _ (@pvx _ 5 _ _ rfl) (by rfl)) (by decide) (by decide) (by rfl) (by rfl)) (by rfl)) (by rfl)) (@zg _ _ (11) _ zap.nd rfl (Or.inl rfl) (by trivial)) (@ze _ _ _ _ _ (@zm _ _ (12) _ _ _ _ zap.nd rfl (Or.inl rfl) (@zy _ _ _ _ _ _ _ (@zu _) (@zY _ _ _ _ (@zcp _ _ _ _ _ _ (by exact (@zcp _ _ _ _ _ _ (by exact (@za _ _ _ _ _ (@zi _ _ _ _ _ _ _ _ (@zE _) (@zy _ _ _ _ _ _ _ (@zu _) (@pvx _ 8 _ _ rfl) (@pvx _ 11 _ _ rfl) (fun _ _=>rfl)) (@zf _ _ _ _)) (by exact (@za _ _ _ _ _ (@zi _ _ _ _ _ _ _ _ (@zE _) (@zy _ _ _ _ _ _ _ (@zu _) (@pvx _ 8 _ _ rfl) (@pvx _ 11 _ _ rfl) (fun _ _=>rfl)) (@zf _ _ _ _)) (@za _ _ _ _ _ (@zf _ _ _ _) (@ya _ _ _ (@zf _ _ _ _) (by rfl)) (by rfl)) (by rfl))) (by rfl))))))) (@pvx _ 9 _ _ rfl) (fun _ _=>rfl)) (by rfl) (by trivial)) (by exact (@ze _ _ _ _ _ (@zm _ _ (13) _ _ _ _ zap.nd rfl (Or.inl rfl) (@zp _ _ _ _ _ _ _ _ _ _ _ _ _ _ _ _ G_l_value (hr.mono (by decide)) rfl T.m_l_value F_l_value.kp b_l_value .nil (@zN _) (@za _ _ _ _ _ (@pvx _ 3 _ _ rfl) (@za _ _ _ _ _ (@zy _ _ _ _ _ _ _ (@zu _) (@pvx _ 7 _ _ rfl) (@pvx _ 12 _ _ rfl) (fun _ _=>rfl)) (@ya _ _ _ (@zy _ _ _ _ _ _ _ (@zb2 _) (@pvx _ 5 _ _ rfl) (@pvx _ 11 _ _ rfl) (fun _ _=>rfl)) (by rfl)) (by rfl)) (by rfl)) (by decide) (by rfl) (by rfl)) (by rfl) (by trivial)) (by exact (@ze _ _ _ _ _ (@zaO _ _ _ _ _ _ _ _ (@zC _ _ _ _ _ _ _ _ (@zdE _) (@zi _ _ _ _ _ _ _ _ (@zE _) (@zi _ _ _ _ _ _ _ _ (@zaV _) (@zy _ _ _ _ _ _ _ (@zu _) (@pvx _ 8 _ _ rfl) (@pvx _ 11 _ _ rfl) (fun _ _=>rfl)) (@zf _ _ _ _)) (@zy _ _ _ _ _ _ _ (@zu _) (@zY _ _ _ _ (@zcp _ _ _ _ _ _ (by exact (@zcp _ _ _ _ _ _ (by exact (@zcp _ _ _ _ _ _ (by exact (@za _ _ _ _ _ (@zf _ _ _ _) (@za _ _ _ _ _ (@zf _ _ _ _) (@ya _ _ _ (@zf _ _ _ _) (by rfl)) (by rfl)) (by rfl))))))))) (@pvx _ 9 _ _ rfl) (fun _ _=>rfl))) (@zf _ _ _ _) (zL _)) (@zk _ _ _ (@zm _ _ (13) _ _ _ _ zap.nd rfl (Or.inl rfl) (@zi _ _ _ _ _ _ _ _ (@zE _) (@zi _ _ _ _ _ _ _ _ (@zaV _) (@zy _ _ _ _ _ _ _ (@zu _) (@pvx _ 8 _ _ rfl) (@pvx _ 11 _ _ rfl) (fun _ _=>rfl)) (@zf _ _ _ _)) (@pvx _ 3 _ _ rfl)) (by rfl) (by trivial))) (@z8 _)) (by exact (@ze _ _ _ _ _ (@zaO _ _ _ _ _ _ _ _ (@PW.pt _ _ _ (@zjq _ _ _ _ _ _ _ (@zC _ _ _ _ _ _ _ _ (@zdE _) (@zi _ _ _ _ _ _ _ _ (@zE _) (@zi _ _ _ _ _ _ _ _ (@zaV _) (@zy _ _ _ _ _ _ _ (@zu _) (@pvx _ 8 _ _ rfl) (@pvx _ 11 _ _ rfl) (fun _ _=>rfl)) (@zf _ _ _ _)) (@zy _ _ _ _ _ _ _ (@zu _) (@zY _ _ _ _ (@za _ _ _ _ _ (@zf _ _ _ _) (@ya _ _ _ (@zf _ _ _ _) (by rfl)) (by rfl))) (@zi _ _ _ _ _ _ _ _ (@zE _) (@zy _ _ _ _ _ _ _ (@zu _) (@pvx _ 8 _ _ rfl) (@zf _ _ _ _) (fun _ _=>rfl)) (@zf _ _ _ _)) (fun _ _=>rfl))) (@zf _ _ _ _) (zL _)) (@zhR _ _ _ _ (@zC _ _ _ _ _ _ _ _ (@zhV _) (@zi _ _ _ _ _ _ _ _ (@zE _) (@zy _ _ _ _ _ _ _ (@zu _) (@pvx _ 8 _ _ rfl) (@zf _ _ _ _) (fun _ _=>rfl)) (@zf _ _ _ _)) (@zf _ _ _ _) (zL _))))) (@zk _ _ _ (@zm _ _ (13) _ _ _ _ zap.nd rfl (Or.inl rfl) (@zdt _ _ _) (by rfl) (by trivial))) (@z8 _)) (by exact (@zk _ _ _ (@za3 _ _ _ _ (@zcd _ _ _ _ _ _ _ _ _ _ _ _ PySem.F.plainAttrs_list PySem.F.slot_list_append PySem.F.type_list_append (@zbb _) (@pvx _ 10 _ _ rfl) (@ya _ _ _ (@pvx _ 13 _ _ rfl) (by rfl)) (by rfl) (by rfl) (by rfl) (by rfl) (by rfl)) (by rfl))))))))))) (by intro _; rfl)) (by exact (@zk _ _ _ (@zz _ _ _ _ (@zee _ _ _ _ _ _ _ _ (@zC _ _ _ _ _ _ _ _ (@zdE _) (@zi _ _ _ _ _ _ _ _ (@zE _) (@zy _ _ _ _ _ _ _ (@zu _) (@pvx _ 8 _ _ rfl) (@zf _ _ _ _) (fun _ _=>rfl)) (@zf _ _ _ _)) (@zf _ _ _ _) (zL _)) (@zi _ _ _ _ _ _ _ _ (@zfA _) (@zY _ _ _ _ (@ya _ _ _ (@zdt _ _ _) (by rfl))) (@zn _ _ _ _ _ _ _ _ _ (@zx _) (by rfl) T.len_ boot_len (@ya _ _ _ (@pvx _ 10 _ _ rfl) (by rfl)) (by decide) (by decide) (by rfl) (by rfl))) (@pvx _ 10 _ _ rfl)))))))))))))))))),?_⟩
  have hsl:=sizeLine_eq
  refine⟨_,rfl,c,_,rfl,SqT.of hc.1,rfl,_,_,rfl,_,_,rfl,_,_,rfl,rfl,?_⟩
  refine⟨_,rfl,_,rfl,a,ns,at',16,27720,rfl,hS,hlen,a0,by omega,by decide,by decide,by decide,by decide,fun l ds H1 hl s1 hd h1l=>?_⟩
  have hdl:ds.length=16:=hd.1
  refine⟨3,rfl,by decide,by decide,zI (n:=3) (fun i ys H'=>zw H1 H'∧∃ os:List Addr,os.length=i∧ys=os.map V.ref∧∀ o∈os,∃ ms:List Int,H' o=some (.tup (ms.map V.int))) ⟨fun _ _ e=>e,[],rfl,rfl,by simp⟩ (fun i ys H' hi _=>hi) (fun ys H' _=>Nat.le_refl _) ?_ ?_⟩
  ·rintro i xx ys H4 H5 hi ⟨s4,os,ho,rfl,hos⟩ ⟨rfl,rfl⟩
   refine gY ?_
   refine⟨_,rfl,_,rfl,_,_,rfl,rfl,.inl ⟨by decide,by decide⟩,_,rfl,l,_,rfl,SqL.of (s4 _ _ h1l),fun z hz=>?_⟩
   obtain⟨ms,ems,lms⟩:=zgt ds (some (3*(0+(i:Int)))) none
   rw [ems]
   refine⟨_,rfl,_,rfl,z,ms,p,k,rfl,SqL.of zc,by omega,p0,fun po poly H6 hpo s6 _ h6=>?_⟩
   have s5:=(zb (o:=.lst (ms.map V.int)) hz).trans s6
   refine⟨zae (by rw [List.length_map]; omega),s4.trans s5,os++[po],by rw [List.length_append,ho]; rfl,by rw [List.map_append]; rfl,fun o hm=>?_⟩
   rcases (List.mem_append.mp hm) with hm | hm
   ·obtain⟨m2,e⟩:=hos o hm
    exact⟨m2,s5 _ _ e⟩
   ·rw [List.mem_singleton.mp hm]; exact⟨poly,h6⟩
  ·rintro ys H4 on ⟨s4,os,ho,rfl,hos⟩ hon
   have s5:=s1.trans (s4.trans (zb (o:=.lst (os.map V.ref)) hon))
   have hones:zfY (upd H4 on (.lst (os.map V.ref))) on:=⟨os,ho,zc,fun o hm=>let ⟨ms,e⟩:=hos o hm; ⟨ms,(zb hon) _ _ e⟩⟩
   generalize upd H4 on (.lst (os.map V.ref))=H5 at s5 hones ⊢
   refine⟨_,rfl,_,rfl,_,_,rfl,rfl,a,ns,at'+1,20,27720,rfl,s5.seq hS,hlen,by omega,by omega,by decide,by decide,by decide,by decide,fun sl es H6 hsl6 s6 he h6s=>?_⟩
   have hel:es.length=20:=he.1
   have her:=he.2
   have eat:∀ m:Int,0≤m→m < 20→∃ c:Int,atI (es.map V.int) m=some (.int c):=fun m h0 h1=>zd5 h0 (by omega)
   obtain⟨d16,e16⟩:=eat 16 (by decide) (by decide)
   obtain⟨d17,e17⟩:=eat 17 (by decide) (by decide)
   obtain⟨d18,e18⟩:=eat 18 (by decide) (by decide)
   obtain⟨d19,e19⟩:=eat 19 (by decide) (by decide)
   have w0:=Int.emod_nonneg d16 (show (6:Int)≠0 by decide)
   have w1:=Int.emod_lt_of_pos d16 (show (0:Int) < 6 by decide)
   refine⟨_,rfl,sl,_,_,_,rfl,rfl,SqL.of h6s,e16,_,_,rfl,rfl,(by show (0:Int) < 6; decide),?_⟩
   obtain⟨way,hway⟩:∃ way,d16 % 6=way:=⟨_,rfl⟩
   rw [hway] at w0 w1
   refine⟨Nat.zero_le _,fun ro hro=>?_⟩
   have hslro:sl≠ro:=zq h6s hro
   have hroH:H ro=none:=(s5.trans s6).free hro
   have hro5:H5 ro=none:=s6.free hro
   refine⟨_,rfl,tt,_,rfl,.inr (SqT.of ((((s5.trans s6).trans (zb hro))) _ _ hc.2)),_,rfl,by rw [List.length_map]; omega,by rw [List.length_map]; omega,?_⟩
   rw [List.length_map,Int.toNat_natCast]
   refine zad (lo:=0) (n:=pl.length) (fun i σ H'=>∃ (rw:List (Option Int)) (v11 v12 v13:Option V),σ = [some (.ref a),some (.int at'),some (.ref c),some (.int p),some (.int k),some (.ref tt),some (.ref l),some (.ref on),some (.ref sl),some (.int way),some (.ref ro),v11,v12,v13] ∧
    rw.length=i∧zw H5 H'∧H' ro=some (.lst (rw.map enc))∧H' sl=some (.lst (es.map V.int))∧∀ z,some z∈rw→0≤z∧z < p)
    ⟨[],none,none,none,by subst hway; rfl,rfl,s6.trans (zb hro),zc,by rw [zl hslro]; exact h6s,fun z hz=>by simp at hz⟩ ?_ ?_
   ·rintro i σ H7 hi ⟨rw,v11,v12,v13,rfl,hrl,s7,h7r,h7s,hrg⟩
    obtain⟨di,ei⟩:=eat (0+(i:Int)) (by omega) (by omega)
    obtain⟨x,hx⟩:∃ x,pl[i]? = some x:=⟨pl[i]'hi,by simp⟩
    obtain⟨x0,x1⟩:=hpl x (List.mem_of_getElem? hx)
    have hxat:atI (pl.map V.int) (0+(i:Int))=some (.int x):=by rw [Int.zero_add]; exact zM (by rw [List.getElem?_map,hx]; rfl)
    have m20:=Int.emod_nonneg di (show (2:Int)≠0 by decide)
    have m21:=Int.emod_lt_of_pos di (show (0:Int) < 2 by decide)
    have m30:=Int.emod_nonneg di (show (3:Int)≠0 by decide)
    have m31:=Int.emod_lt_of_pos di (show (0:Int) < 3 by decide)
    obtain⟨wh,ewh,wh0,wh1⟩:=zna w0 w1 m20 (by omega) m30 m31
    refine⟨_,rfl,_,rfl,sl,_,_,_,rfl,rfl,SqL.of h7s,ei,_,_,rfl,rfl,(by show (0:Int) < 2; decide),_,rfl,_,rfl,sl,_,_,_,rfl,rfl,SqL.of h7s,ei,_,_,rfl,rfl,(by show (0:Int) < 3; decide),by show 6≤sizeLine; omega,fun l6 hl6=>?_⟩
    refine⟨_,rfl,l6,_,_,_,rfl,rfl,SqL.of zc,ewh,?_⟩
    have s8:=s7.trans (zb (o:=.lst [.int 0,.int 0,.int (di % 2),.int (di % 3),.int 0,.int 0]) hl6)
    have h8r:=(zb (o:=.lst [.int 0,.int 0,.int (di % 2),.int (di % 3),.int 0,.int 0]) hl6) _ _ h7r
    have h8s:=(zb (o:=.lst [.int 0,.int 0,.int (di % 2),.int (di % 3),.int 0,.int 0]) hl6) _ _ h7s
    obtain⟨H8,hH8⟩:∃ H8,H8=upd H7 l6 (.lst [.int 0,.int 0,.int (di % 2),.int (di % 3),.int 0,.int 0]):=⟨_,rfl⟩
    rw [← hH8] at s8 h8r h8s ⊢
    have hc8:=hc.same (s5.trans s8)
    obtain⟨os8,o1,o2,o3⟩:=hones.same s8
    obtain⟨ow,how⟩:∃ ow,os8[wh.toNat]? = some ow:=⟨os8[wh.toNat]'(by omega),by simp⟩
    obtain⟨mw,hmw⟩:=o3 ow (List.mem_of_getElem? how)
    have hoat:atI (os8.map V.ref) wh=some (.ref ow):=by
     have e:((wh.toNat:Nat):Int)=wh:=by omega
     rw [← e]
     exact zM (by rw [List.getElem?_map,how]; rfl)
    refine⟨_,rfl,_,rfl,_,rfl,on,_,_,_,rfl,rfl,SqL.of o2,hoat,_,rfl,_,rfl,tt,_,_,_,rfl,rfl,SqT.of hc8.2,hxat,p,x,ow,mw,rfl,.inr (SqT.of hmw),p0,p1,x0,x1,?_⟩
    obtain⟨z6,ez6,z60⟩:=zlR w0 w1
    refine⟨_,rfl,_,rfl,sl,_,_,_,rfl,rfl,SqL.of h8s,ei,_,_,rfl,rfl,⟨by decide,by decide⟩,by show 6≤sizeLine; omega,fun l7 hl7=>?_⟩
    have u7:=zb (o:=.lst [.int 4,.int 9,.int 9,.int 9,.int 2,.int 1]) hl7
    refine⟨_,rfl,l7,_,_,_,rfl,rfl,SqL.of zc,ez6,_,_,rfl,rfl,z60,rfl,_,rfl,?_⟩
    have s9:=s8.trans u7
    have h9r:=u7 _ _ h8r
    have h9s:=u7 _ _ h8s
    generalize upd H8 l7 (.lst [.int 4,.int 9,.int 9,.int 9,.int 2,.int 1])=H9 at s9 h9r h9s ⊢
    have t0:=Int.emod_nonneg d17 (show (2:Int)≠0 by decide)
    have t1:=Int.emod_lt_of_pos d17 (show (0:Int) < 2 by decide)
    obtain⟨z2,ez2,z20⟩:=zlS t0 t1
    refine zaq (fun _=>⟨_,rfl,_,rfl,sl,_,_,_,rfl,rfl,SqL.of h9s,ei,_,_,rfl,rfl,⟨by decide,by decide⟩,_,rfl,_,_,rfl,rfl,p0,?_⟩) (fun _=>?_)
    all_goals
     refine⟨_,rfl,_,rfl,sl,_,_,_,rfl,rfl,SqL.of h9s,ei,_,_,rfl,rfl,⟨by decide,by decide⟩,za2,fun l8 hl8=>?_⟩
     have u8:=zb (o:=.lst [.int 9,.int 3]) hl8
     have sX:=s9.trans u8
     have hXr:=u8 _ _ h9r
     have hXs:=u8 _ _ h9s
     refine⟨_,rfl,sl,_,_,_,rfl,rfl,SqL.of hXs,e17,_,_,rfl,rfl,(by show (0:Int) < 2; decide),l8,_,_,_,rfl,rfl,SqL.of zc,ez2,_,_,rfl,rfl,z20,rfl,_,rfl,?_⟩; refine zaq (fun _=>?_) (fun _=>?_)
     ·refine⟨_,rfl,sl,_,_,_,rfl,rfl,SqL.of hXs,e18,_,_,rfl,rfl,(by show (0:Int) < 3; decide),_,_,rfl,rfl,_,rfl,?_⟩; refine zaq (fun _=>?_) (fun _=>?_)
      ·exact⟨_,rfl,.inl ⟨rfl,_,SqL.of hXr⟩,_,rfl,ro,_,_,rfl,rfl,hXr,zae (by rw [List.length_map]; omega),rw++[none],_,_,_,rfl,by rw [List.length_append,hrl]; rfl,zW sX hro5,by rw [zc,List.map_append]; rfl,by rw [zl hslro]; exact hXs,zkF hrg⟩
      ·exact⟨_,rfl,.inl ⟨rfl,_,SqL.of hXr⟩,_,rfl,ro,_,_,rfl,rfl,hXr,zae (by rw [List.length_map]; omega),rw++[some _],_,_,_,rfl,by rw [List.length_append,hrl]; rfl,zW sX hro5,by rw [zc,List.map_append]; rfl,by rw [zl hslro]; exact hXs,zgP hrg (by first | exact⟨Int.emod_nonneg _ (by omega),Int.emod_lt_of_pos _ p0⟩ | exact zgQ p0)⟩
     ·refine zeT ?_
      exact⟨_,rfl,.inl ⟨rfl,_,SqL.of hXr⟩,_,rfl,ro,_,_,rfl,rfl,hXr,zae (by rw [List.length_map]; omega),rw++[some _],_,_,_,rfl,by rw [List.length_append,hrl]; rfl,zW sX hro5,by rw [zc,List.map_append]; rfl,by rw [zl hslro]; exact hXs,zgP hrg (by first | exact⟨Int.emod_nonneg _ (by omega),Int.emod_lt_of_pos _ p0⟩ | exact zgQ p0)⟩
   ·rintro σ H7 ⟨rw,v11,v12,v13,rfl,hrl,s7,h7r,h7s,hrg⟩
    refine⟨_,rfl,sl,_,_,_,rfl,rfl,SqL.of h7s,e19,_,_,rfl,rfl,(by show (0:Int) < 30; decide),rfl,_,rfl,?_⟩
    refine zaq (fun _=>?_) (fun _=>⟨_,rfl,q ro rw H7 hroH (s5.trans s7) hrl hrg h7r⟩)
    refine⟨by show 1≤sizeLine; omega,fun z hz=>⟨_,rfl,ro,_,rfl,.inl (SqL.of ((zb hz) _ _ h7r)),z,_,[.non],rfl,rfl,zc,by rw [List.length_map]; omega,by rw [List.length_map]; omega,by rw [List.length_map]; show 1*_≤sizeLine; omega,fun y hy=>?_⟩⟩
    have s8:=(s5.trans s7).trans (zb (o:=.lst [.non]) hz)
    refine q y (List.replicate pl.length none) _ (s8.free hy) (s8.trans (zb hy)) (by rw [List.length_replicate]) (fun z hz=>by cases List.eq_of_mem_replicate hz) ?_
    rw [zc,List.length_map,znT,hrl,Int.toNat_natCast]
theorem za0:FnScope ["p","number","product","square","left"] ["p","number"] (zh zcK):=⟨rfl,rfl,rfl,by decide +kernel,rfl,by decide +kernel,by decide +kernel⟩
theorem zhH {fd:FuncData} (T:Txt K mg t) (F:Fun K "inverse" "inverse" zcK t.inverse fd):FnOk P w K mg base CX0 1 t.inverse fd ["p","number"] (zhn K):=by
 refine F.ok za0 (fun vs H Q E h=>?_) (fun cdv A outer s H vs Q E hr h=>?_)
 ·obtain⟨p,h,rfl,_⟩:=h
  rfl
 ·obtain⟨p,hh,rfl,mp,h0,h1,q⟩:=h
  refine⟨_,(@ze _ _ _ _ _ (@zm _ _ (2) _ _ _ _ za0.nd rfl (Or.inl rfl) (@zf _ _ _ _) (by rfl) (by trivial)) (by exact (@ze _ _ _ _ _ (@zm _ _ (3) _ _ _ _ za0.nd rfl (Or.inl rfl) (@zi _ _ _ _ _ _ _ _ (@zE _) (@pvx _ 1 _ _ rfl) (@pvx _ 0 _ _ rfl)) (by rfl) (by trivial)) (by exact (@ze _ _ _ _ _ (@zm _ _ (4) _ _ _ _ za0.nd rfl (Or.inl rfl) (@zi _ _ _ _ _ _ _ _ (@zR _) (@pvx _ 0 _ _ rfl) (@zf _ _ _ _)) (by rfl) (by trivial)) (by exact (@ze _ _ _ _ _ (@zeg _ _ _ _ _ _ PassesOwn.never (@zC _ _ _ _ _ _ _ _ (@zhV _) (@pvx _ 4 _ _ rfl) (@zf _ _ _ _) (zL _)) (@ze _ _ _ _ _ (@zaO _ _ _ _ _ _ _ _ (@zC _ _ _ _ _ _ _ _ (@zdE _) (@zi _ _ _ _ _ _ _ _ (@zE _) (@pvx _ 4 _ _ rfl) (@zf _ _ _ _)) (@zf _ _ _ _) (zL _)) (@zk _ _ _ (@zm _ _ (2) _ _ _ _ za0.nd rfl (Or.inl rfl) (@zi _ _ _ _ _ _ _ _ (@zE _) (@zi _ _ _ _ _ _ _ _ (@zD _) (@pvx _ 2 _ _ rfl) (@pvx _ 3 _ _ rfl)) (@pvx _ 0 _ _ rfl)) (by rfl) (by trivial))) (@z8 _)) (by exact (@ze _ _ _ _ _ (@zm _ _ (3) _ _ _ _ za0.nd rfl (Or.inl rfl) (@zi _ _ _ _ _ _ _ _ (@zE _) (@zi _ _ _ _ _ _ _ _ (@zD _) (@pvx _ 3 _ _ rfl) (@pvx _ 3 _ _ rfl)) (@pvx _ 0 _ _ rfl)) (by rfl) (by trivial)) (by exact (@zk _ _ _ (@zg7 _ _ (4) _ _ _ _ _ _ za0.nd rfl (Or.inl rfl) (@zf _ _ _ _) zjv (by trivial)))))))) (by exact (@zk _ _ _ (@zz _ _ _ _ (@pvx _ 2 _ _ rfl))))))))))),?_⟩
  have rp:=zV mp
  have e0:=Int.emod_nonneg hh (show p≠0 by omega)
  have e1:=Int.emod_lt_of_pos hh (show 0 < p by omega)
  refine⟨_,rfl,_,rfl,_,_,rfl,rfl,(by show 0 < p; omega),_,rfl,_,_,rfl,rfl,?_⟩
  refine zjt (fun σ H'=>H'=H∧∃ (prod sq left:Int) (n:Nat),σ = [some (.int p),some (.int hh),some (.int prod),some (.int sq),some (.int left)]∧0≤prod∧prod < p∧0≤sq∧sq < p∧0≤left∧left < 2 ^ n∧zcB p n prod sq left=inv p hh) (fun σ _=>zmO σ)
   ⟨rfl,1,hh % p,p - 2,7,rfl,by omega,by omega,e0,e1,by omega,by omega,rfl⟩ ?_ ?_
  ·rintro σ H1 ⟨rfl,prod,sq,left,n,rfl,b0,b1,s0,s1,l0,l1,hi⟩
   refine⟨_,rfl,_,_,rfl,rfl,_,rfl,?_⟩
   refine zaq (fun hl=>?_) (fun hl=>?_)
   ·have hl:0 < left:=by simpa using hl
    obtain⟨m,rfl⟩:∃ m,n=m+1:=by
     cases n with
     | zero=>omega
     | succ m=>exact⟨m,rfl⟩
    rw [zfH hl l1] at hi
    have l2:left / 2 < 2 ^ m:=by
     have:(2:Int) ^ (m+1)=2 ^ m*2:=Int.pow_succ ..
     omega
    have m0:=Int.emod_nonneg (prod*sq) (show p≠0 by omega)
    have m1:=Int.emod_lt_of_pos (prod*sq) (show 0 < p by omega)
    have n0:=Int.emod_nonneg (sq*sq) (show p≠0 by omega)
    have n1:=Int.emod_lt_of_pos (sq*sq) (show 0 < p by omega)
    refine⟨_,rfl,_,_,rfl,rfl,(by show (0:Int) < 2; decide),rfl,_,rfl,?_⟩; refine zaq (fun ho=>?_) (fun ho=>?_)
    ·have ho:left % 2=1:=by simpa using ho
     rw [if_pos ho] at hi
     refine⟨_,rfl,_,rfl,_,_,rfl,rfl,.inl ⟨by omega,by omega⟩,_,rfl,_,_,rfl,rfl,(by show 0 < p; omega),?_⟩
     refine⟨_,rfl,_,rfl,_,_,rfl,rfl,.inl ⟨by omega,by omega⟩,_,rfl,_,_,rfl,rfl,(by show 0 < p; omega),?_⟩
     refine⟨_,rfl,_,_,rfl,rfl,⟨by decide,by decide⟩,⟨rfl,_,_,_,m,rfl,m0,m1,n0,n1,by omega,l2,hi⟩,?_⟩
     show (left / 2).toNat < left.toNat
     omega
    ·have ho:¬ left % 2=1:=by simpa using ho
     rw [if_neg ho] at hi
     refine⟨_,rfl,_,rfl,_,_,rfl,rfl,.inl ⟨by omega,by omega⟩,_,rfl,_,_,rfl,rfl,(by show 0 < p; omega),?_⟩
     refine⟨_,rfl,_,_,rfl,rfl,⟨by decide,by decide⟩,⟨rfl,_,_,_,m,rfl,b0,b1,n0,n1,by omega,l2,hi⟩,?_⟩
     show (left / 2).toNat < left.toNat
     omega
   ·have hl:¬ 0 < left:=by simpa using hl
    have el:left=0:=by omega
    subst el
    rw [zgr] at hi
    rw [← hi] at q
    exact⟨_,rfl,q⟩
  ·rintro σ H1 Q1 Q2 hq ⟨v,e,i,j,e1,e2,k,e3,q⟩
   exact⟨v,e,i,j,e1,e2,k,e3,hq _ _ q⟩
def zeG (K:PySem.W.Frag):Sp:=fun vs H Q _=>∃ (p r:Int) (a:Addr) (cs:List Int),vs = [.int p,.ref a,.int r]∧H a=some (.lst (cs.map V.int))∧cs.length≤1000∧0 < p∧-97≤r∧r≤97 ∧
 ∀ (l:Addr) (H':Hp),H l=none→zw H H'→H' l=some (.lst ((zc9 p r cs).map V.int))→Q (.ref l) H'
theorem zbK:FnScope ["p","polynomial","root","raised","kept"] ["p","polynomial","root"] (zh za6):=⟨rfl,rfl,rfl,by decide +kernel,rfl,by decide +kernel,by decide +kernel⟩
theorem zeX {fd:FuncData} (T:Txt K mg t) (F:Fun K "times_root" "times_root" za6 t.times_root fd):FnOk P w K mg base CX0 1 t.times_root fd ["p","polynomial","root"] (zeG K):=by
 refine F.ok zbK (fun vs H Q E h=>?_) (fun cdv A outer s H vs Q E hr h=>?_)
 ·obtain⟨p,r,a,cs,rfl,_⟩:=h
  rfl
 ·obtain⟨p,r,a,cs,rfl,ha,hlen,p0,r0,r1,q⟩:=h
  refine⟨_,(@ze _ _ _ _ _ (@zm _ _ (3) _ _ _ _ zbK.nd rfl (Or.inl rfl) (@zi _ _ _ _ _ _ _ _ (@zcl _) (@zY _ _ _ _ (@ya _ _ _ (@zf _ _ _ _) (by rfl))) (@pvx _ 1 _ _ rfl)) (by rfl) (by trivial)) (by exact (@ze _ _ _ _ _ (@zm _ _ (4) _ _ _ _ zbK.nd rfl (Or.inl rfl) (@zi _ _ _ _ _ _ _ _ (@zcl _) (@pvx _ 1 _ _ rfl) (@zY _ _ _ _ (@ya _ _ _ (@zf _ _ _ _) (by rfl)))) (by rfl) (by trivial)) (by exact (@zk _ _ _ (@zz _ _ _ _ (@zA _ _ _ _ _ _ _ _ _ _ _ _ _ (CompSc.of (N':=["high","low","root","p"]) (ix:=[none,none,some 2,some 0]) (zh za6) ["p","polynomial","root","raised","kept"] rfl rfl (by decide +kernel)) rfl (@zaz _ _ _ _ (@zt _ _ _ rfl (@zt _ _ _ rfl (@zah _)))) (@zc6 _ _ _ _ _ _ _ _ _ rfl T.zip_ (@za _ _ _ _ _ (@pvx _ 3 _ _ rfl) (@ya _ _ _ (@pvx _ 4 _ _ rfl) (by rfl)) (by rfl)) (by rfl) (by rfl)) (fun _ _ _ _=>(@zac _ (K) _ _ _ (2) _ rfl rfl (@zj _ _ _ _ _ (@zg _ _ (0) _ (show (["high","low","root","p"]:List Str).Nodup by decide +kernel) rfl (Or.inl rfl) (by trivial)) (@zj _ _ _ _ _ (@zg _ _ (1) _ (show (["high","low","root","p"]:List Str).Nodup by decide +kernel) rfl (Or.inl rfl) (by trivial)) (@zB _) (by rfl)) (by rfl)) (by rfl) (by rfl))) (fun _ _ _ _=>(@zr _)) (fun _ _ _ _=>(@zi _ _ _ _ _ _ _ _ (@zE _) (@zi _ _ _ _ _ _ _ _ (@zR _) (@pvx _ 0 _ _ rfl) (@zi _ _ _ _ _ _ _ _ (@zD _) (@pvx _ 2 _ _ rfl) (@pvx _ 1 _ _ rfl))) (@pvx _ 3 _ _ rfl))) (by intro _; rfl)))))))),?_⟩
  have hsl:=sizeLine_eq
  refine⟨by show 1≤sizeLine; omega,fun z hz=>⟨_,rfl,z,a,[.int 0],cs.map V.int,rfl,rfl,zc,by rw [zl (zq ha hz)]; exact ha,by rw [List.length_map]; show 1+cs.length≤sizeLine; omega,fun ra hra=>?_⟩⟩
  have s1:zw H (upd (upd H z (.lst [.int 0])) ra (.lst ([.int 0]++cs.map V.int))):=(zb hz).trans (zb hra)
  refine⟨_,rfl,by show 1≤sizeLine; omega,fun z2 hz2=>⟨a,z2,cs.map V.int,[.int 0],rfl,rfl,by rw [zl (zq (s1 _ _ ha) hz2)]; exact s1 _ _ ha,zc,by rw [List.length_map]; show cs.length+1≤sizeLine; omega,fun ke hke=>?_⟩⟩
  have s2:=s1.trans ((zb (o:=.lst [.int 0]) hz2).trans (zb (o:=.lst (cs.map V.int++[.int 0])) hke))
  have hra2:upd (upd (upd (upd H z (.lst [.int 0])) ra (.lst ([.int 0]++cs.map V.int))) z2 (.lst [.int 0])) ke (.lst (cs.map V.int++[.int 0])) ra=some (.lst ((0 :: cs).map V.int)) :=
   ((zb (o:=.lst [.int 0]) hz2).trans (zb (o:=.lst (cs.map V.int++[.int 0])) hke)) _ _ zc
  have hke2:upd (upd (upd (upd H z (.lst [.int 0])) ra (.lst ([.int 0]++cs.map V.int))) z2 (.lst [.int 0])) ke (.lst (cs.map V.int++[.int 0])) ke=some (.lst ((cs++[0]).map V.int)):=by rw [zc,List.map_append]; rfl
  generalize upd (upd (upd (upd H z (.lst [.int 0])) ra (.lst ([.int 0]++cs.map V.int))) z2 (.lst [.int 0])) ke (.lst (cs.map V.int++[.int 0]))=H2 at s2 hra2 hke2 ⊢
  refine⟨_,rfl,_,rfl,ra,ke,_,_,rfl,SqL.of hra2,SqL.of hke2,zI (n:=cs.length+1) (fun i ys H'=>ys=((zc9 p r cs).take i).map V.int∧zw H2 H') ⟨by simp,fun _ _ e=>e⟩ ?_ ?_ ?_ ?_⟩
  ·rintro i ys H3 hi ⟨_,s3⟩
   obtain⟨x,hx⟩:∃ x,(0 :: cs)[i]? = some x:=⟨(0 :: cs)[i]'(by simpa using hi),by simp⟩
   obtain⟨y,hy⟩:∃ y,(cs++[0])[i]? = some y:=⟨(cs++[0])[i]'(by simpa using hi),by simp⟩
   exact⟨_,_,.int x,.int y,SqL.of (s3 _ _ hra2),SqL.of (s3 _ _ hke2),by rw [List.getElem?_map,hx]; rfl,by rw [List.getElem?_map,hy]; rfl⟩
  ·rintro ys H3 ⟨_,s3⟩
   exact⟨_,_,SqL.of (s3 _ _ hra2),SqL.of (s3 _ _ hke2),.inl (by simp)⟩
  ·rintro i x ys H3 H4 hi ⟨rfl,s3⟩ ⟨T,u,v,hT,rfl,rfl,hu,hv⟩
   obtain⟨x,rfl,hx⟩:=zao (hu _ (SqL.of (s3 _ _ hra2)))
   obtain⟨y,rfl,hy⟩:=zao (hv _ (SqL.of (s3 _ _ hke2)))
   refine gY2 (SqT.of zc) ?_
   refine⟨_,rfl,_,rfl,_,rfl,_,_,rfl,rfl,.inl ⟨by omega,by omega⟩,_,_,rfl,rfl,_,rfl,_,_,rfl,rfl,p0,zae ?_,?_,s3.trans (zb hT)⟩
   ·rw [List.length_map]
    exact Nat.le_trans (List.length_take_le _ _) (by omega)
   ·show _=(List.take (i+1) (List.zipWith (trF p r) (0 :: cs) (cs++[0]))).map V.int
    rw [zgs hx hy,List.map_append]
    rfl
  ·rintro ys H3 D ⟨rfl,s3⟩ hD
   refine q D _ ((s2.trans s3).free hD) ((s2.trans s3).trans (zb hD)) ?_
   rw [zc,List.take_of_length_le (by rw [zcC]; exact Nat.le_refl _)]
theorem zaW:FnScope ["code","row","p","k","places"] ["code","row"] (zh zaH):=⟨rfl,rfl,rfl,by decide +kernel,rfl,by decide +kernel,by decide +kernel⟩
theorem zcf {fd:FuncData} (T:Txt K mg t) (F:Fun K "heard_points" "heard_points" zaH t.heard_points fd):FnOk P w K mg base CX0 1 t.heard_points fd ["code","row"] (zlq K):=by
 refine F.ok zaW (fun vs H Q E h=>?_) (fun cdv A outer s H vs Q E hr h=>?_)
 ·obtain⟨c,tt,r,p,k,pl,rw,rfl,_⟩:=h
  rfl
 ·obtain⟨c,tt,r,p,k,pl,rw,rfl,hc,hr',hn,q⟩:=h
  refine⟨_,(@ze _ _ _ _ _ (@zaX _ _ _ _ _ _ (@pvx _ 0 _ _ rfl) (@zaP _ _ _ _ _ _ rfl (@zj _ _ _ _ _ (@zg _ _ (2) _ zaW.nd rfl (Or.inl rfl) (by trivial)) (@zj _ _ _ _ _ (@zg _ _ (3) _ zaW.nd rfl (Or.inl rfl) (by trivial)) (@zj _ _ _ _ _ (@zg _ _ (4) _ zaW.nd rfl (Or.inl rfl) (by trivial)) (@zB _) (by rfl)) (by rfl)) (by rfl)) (by rfl) (by rfl)) (by rfl) (by rfl) (by rfl)) (by exact (@zk _ _ _ (@zz _ _ _ _ (@zA _ _ _ _ _ _ _ _ _ _ _ _ _ (CompSc.of (N':=["place","entry"]) (ix:=[none,none]) (zh zaH) ["code","row","p","k","places"] rfl rfl (by decide +kernel)) rfl (@zaz _ _ _ _ (@zt _ _ _ rfl (@zt _ _ _ rfl (@zah _)))) (@zgw _ _ _ _ _ _ _ _ _ rfl T.zip_ (@za _ _ _ _ _ (@pvx _ 4 _ _ rfl) (@ya _ _ _ (@pvx _ 1 _ _ rfl) (by rfl)) (by rfl)) (by rfl) (by rfl)) (fun _ _ _ _=>(@zac _ (K) _ _ _ (2) _ rfl rfl (@zj _ _ _ _ _ (@zg _ _ (0) _ (show (["place","entry"]:List Str).Nodup by decide +kernel) rfl (Or.inl rfl) (by trivial)) (@zj _ _ _ _ _ (@zg _ _ (1) _ (show (["place","entry"]:List Str).Nodup by decide +kernel) rfl (Or.inl rfl) (by trivial)) (@zB _) (by rfl)) (by rfl)) (by rfl) (by rfl))) (fun _ _ _ _=>(@zbP _ _ _ (@zC _ _ _ _ _ _ _ _ (@zhW _) (@pvx _ 1 _ _ rfl) (@zdt _ _ _) (zL _)))) (fun _ _ _ _=>(@za4 _ _ _ _ _ (@za _ _ _ _ _ (@pvx _ 0 _ _ rfl) (@ya _ _ _ (@pvx _ 1 _ _ rfl) (by rfl)) (by rfl)))) (by intro _; rfl)))))),?_⟩
  have hsl:=sizeLine_eq
  have hl:=hr'.len
  refine⟨_,rfl,c,_,rfl,SqT.of hc.1,rfl,_,_,rfl,_,_,rfl,_,_,rfl,rfl,?_⟩
  refine⟨_,rfl,_,rfl,tt,r,_,_,rfl,SqT.of hc.2,hr'.at',zI (n:=pl.length) (fun i ys H'=>zw H H'∧∃ us:List Addr,ys=us.map V.ref∧PtB H' us (hps (pl.take i) (rw.take i))) ⟨fun _ _ e=>e,[],rfl,.nil⟩ ?_ ?_ ?_ ?_⟩
  ·rintro i ys H3 hi ⟨s3,_⟩
   obtain⟨o,ho⟩:∃ o,rw[i]? = some o:=⟨rw[i]'(by omega),by simp⟩
   exact⟨_,_,.int pl[i],enc o,SqT.of (s3 _ _ hc.2),s3.seq hr'.at',by rw [List.getElem?_map,List.getElem?_eq_getElem hi]; rfl,by rw [List.getElem?_map,ho]; rfl⟩
  ·rintro ys H3 ⟨s3,_⟩
   exact⟨_,_,SqT.of (s3 _ _ hc.2),s3.seq hr'.at',.inl (by rw [List.length_map])⟩
  ·rintro i xx ys H3 H4 hi ⟨s3,us,rfl,hus⟩ ⟨T,u,v,hT,rfl,rfl,hu,hv⟩
   obtain⟨x,rfl,hx⟩:=zao (hu _ (SqT.of (s3 _ _ hc.2)))
   obtain⟨o,rfl,ho⟩:=zh8 (hv _ (s3.seq hr'.at'))
   have v4:=zb (o:=.tup [.int x,enc o]) hT
   have s4:=s3.trans v4
   have hs:=zez hx ho
   have hul:=hus.length
   have hb:=zbA (pl.take i) (rw.take i)
   rw [List.length_take] at hb
   refine⟨T,_,rfl,SqT.of zc,rfl,_,_,rfl,_,_,rfl,rfl,?_⟩
   refine⟨_,rfl,rfl,_,rfl,?_⟩
   cases o with
   | none =>
    refine zeT ⟨s4,us,rfl,?_⟩
    rw [hs,List.append_nil]
    exact hus.same v4
   | some z =>
    refine zld ⟨_,rfl,_,rfl,by show 2≤sizeLine; omega,fun T2 hT2=>⟨by rw [List.length_map]; omega,s4.trans (zb hT2),us++[T2],by rw [List.map_append]; rfl,?_⟩⟩
    rw [hs]
    exact Paired.snoc (hus.same (v4.trans (zb hT2))) zc
  ·rintro ys H3 D ⟨s3,us,rfl,hus⟩ hD
   rw [List.take_length,List.take_of_length_le (by omega)] at hus
   exact q D us _ (s3.free hD) (s3.trans (zb hD)) zc (hus.same (zb hD))
end
end My
end
section
set_option maxHeartbeats 4000000
namespace My
open PySem L2 PyProof.Rows
section
variable {P:Program} {w:World} {K:PySem.W.Frag} {mg:Str→Option Value} {base:Heap} {t:Adr}
def pwr (p x:Int) (kept n:Nat):List Int:=(List.range kept).map fun u=>cf x n u % p
def pws (p x:Int) (kept n:Nat):List (List Int):=(List.range n).map (pwr p x kept)
theorem zeH (p x:Int) (kept n:Nat):pws p x kept (n+1)=pws p x kept n++[pwr p x kept n]:=by
 unfold pws
 rw [List.range_succ,List.map_append]
 rfl
theorem za9 (p x:Int) (kept n:Nat):(pwr p x kept n).length=kept:=by unfold pwr; rw [List.length_map,List.length_range]
theorem zeI {p x:Int} {kept n u:Nat} (h:u < kept):gl (pwr p x kept n) u=cf x n u % p:=zaR (by unfold pwr; rw [List.getElem?_map,List.getElem?_range h]; rfl)
theorem zkH {p x:Int} {kept n:Nat}:(zc9 p (-x) (pwr p x kept n)).take kept=pwr p x kept (n+1):=by
 refine zka (by rw [List.length_take,zcC,za9,za9]; omega) fun u hu=>?_
 have hu:u < kept:=by rw [List.length_take,zcC,za9] at hu; omega
 rw [zeI hu]
 have e1:gl ((zc9 p (-x) (pwr p x kept n)).take kept) u=gl (zc9 p (-x) (pwr p x kept n)) u:=by
  unfold gl
  rw [List.getD_eq_getElem?_getD,List.getD_eq_getElem?_getD,List.getElem?_take_of_lt hu]
 rw [e1]
 unfold zc9
 rw [zhv (by rw [List.length_cons,za9]; omega) (by rw [List.length_append,za9]; simp; omega)]
 have e2:gl (pwr p x kept n++[0]) u=cf x n u % p:=by
  rw [← zeI hu]
  unfold gl
  rw [List.getD_eq_getElem?_getD,List.getD_eq_getElem?_getD,List.getElem?_append_left (by rw [za9]; exact hu)]
 rw [e2]
 show (_ - (-x)*_) % p=_
 cases u with
 | zero =>
  show (0 - (-x)*(cf x n 0 % p)) % p=cf x (n+1) 0 % p
  rw [zfW,zfW,Int.pow_succ]
  refine Cg.mod_eq ?_
  refine (((Cg.refl p 0).sub ((Cg.refl p (-x)).mul (Cg.emod p _)))).trans (Cg.of_eq (by grind))
 | succ u =>
  have e3:gl (0 :: pwr p x kept n) (u+1)=cf x n u % p:=by
   rw [← zeI (show u < kept by omega)]
   unfold gl
   simp
  rw [e3,zlF]
  refine Cg.mod_eq ?_
  refine ((Cg.emod p _).sub ((Cg.refl p (-x)).mul (Cg.emod p _))).trans (Cg.of_eq (by grind))
theorem zkI {p x:Int} (hp:1 < p) {kept:Nat} (hk:1≤kept):pwr p x kept 0=1 :: List.replicate (kept - 1) 0:=by
 refine zka (by rw [za9,List.length_cons,List.length_replicate]; omega) fun u hu=>?_
 rw [za9] at hu
 rw [zeI hu]
 cases u with
 | zero =>
  rw [zfW,Int.pow_zero]
  show (1:Int) % p=1
  exact Int.emod_eq_of_lt (by decide) hp
 | succ u =>
  have e:cf x 0 (u+1)=0:=by show (0:Int)*_=0; simp
  rw [e,Int.zero_emod]
  unfold gl
  rw [List.getD_eq_getElem?_getD,List.getElem?_cons_succ,List.getElem?_replicate,if_pos (by omega)]
  rfl
def zd0 (K:PySem.W.Frag):Sp:=fun vs H Q _=>∃ (p x:Int) (most kept:Nat),vs = [.int p,.int x,.int (most:Int),.int (kept:Int)]∧5≤p∧p≤97∧0≤x∧x < p∧most≤500∧1≤kept∧kept≤100 ∧
 ∀ (l:Addr) (ls:List Addr) (H':Hp),H l=none→zw H H'→H' l=some (.lst (ls.map V.ref))→LsA H' ls (pws p x kept (most+1))→Q (.ref l) H'
theorem zbp:FnScope ["p","by","most","kept","powers","power"] ["p","by","most","kept"] (zh za7):=⟨rfl,rfl,rfl,by decide +kernel,rfl,by decide +kernel,by decide +kernel⟩
theorem zd1 {fd:FuncData} (T:Txt K mg t) (F:Fun K "moved_powers" "moved_powers" za7 t.moved_powers fd):FnOk P w K mg base CX0 2 t.moved_powers fd ["p","by","most","kept"] (zd0 K):=by
 obtain⟨fd_times_root,F_times_root,b_times_root⟩:=T.f_times_root
 have G_times_root:=zeX (P:=P) (w:=w) (base:=base) T F_times_root
 refine F.ok zbp (fun vs H Q E h=>?_) (fun cdv A outer s H vs Q E hr h=>?_)
 ·obtain⟨p,x,most,kept,rfl,_⟩:=h
  rfl
 ·obtain⟨p,x,most,kept,rfl,p5,p97,x0,x1,hm,k1,k2,q⟩:=h
  refine⟨_,(@ze _ _ _ _ _ (@zm _ _ (4) _ _ _ _ zbp.nd rfl (Or.inl rfl) (@zY _ _ _ _ (@ya _ _ _ (@zi _ _ _ _ _ _ _ _ (@zcl _) (@zY _ _ _ _ (@ya _ _ _ (@zf _ _ _ _) (by rfl))) (@zi _ _ _ _ _ _ _ _ (@zfA _) (@zY _ _ _ _ (@ya _ _ _ (@zf _ _ _ _) (by rfl))) (@zi _ _ _ _ _ _ _ _ (@zR _) (@pvx _ 3 _ _ rfl) (@zf _ _ _ _)))) (by rfl))) (by rfl) (by trivial)) (by exact (@ze _ _ _ _ _ (@zal _ _ _ _ _ _ _ _ PassesOwn.never rfl (@zH _ _ _ _ _ _ rfl T.range_ (@ya _ _ _ (@pvx _ 2 _ _ rfl) (by rfl)) (by rfl)) (@zg _ _ (5) _ zbp.nd rfl (Or.inl rfl) (by trivial)) (@zk _ _ _ (@za3 _ _ _ _ (@zcd _ _ _ _ _ _ _ _ _ _ _ _ PySem.F.plainAttrs_list PySem.F.slot_list_append PySem.F.type_list_append (@zbb _) (@pvx _ 4 _ _ rfl) (@ya _ _ _ (@zbO _ _ _ _ _ _ _ _ _ _ zcA (@zp _ _ _ _ _ _ _ _ _ _ _ _ _ _ _ _ G_times_root (hr.mono (by decide)) rfl T.m_times_root F_times_root.kp b_times_root .nil (@zN _) (@za _ _ _ _ _ (@pvx _ 0 _ _ rfl) (@za _ _ _ _ _ (@zy _ _ _ _ _ _ _ (@zu _) (@pvx _ 4 _ _ rfl) (@zju _ _ _ _ _ _ zg9 (@zf _ _ _ _)) (fun _ _=>rfl)) (@ya _ _ _ (@zju _ _ _ _ _ _ zg9 (@pvx _ 1 _ _ rfl)) (by rfl)) (by rfl)) (by rfl)) (by decide) (by rfl) (by rfl)) (@zc3 _) (@zb1 _ _ _ (@pvx _ 3 _ _ rfl))) (by rfl)) (by rfl) (by rfl) (by rfl) (by rfl) (by rfl)) (by rfl))) (by intro _; rfl)) (by exact (@zk _ _ _ (@zz _ _ _ _ (@pvx _ 4 _ _ rfl))))))),?_⟩
  have hsl:=sizeLine_eq
  refine⟨by show 1≤sizeLine; omega,fun A1 hA1=>?_⟩
  have u1:=zb (o:=.lst [V.int 1]) hA1
  have v1:upd H A1 (.lst [V.int 1]) A1=some (.lst [V.int 1]):=zc
  generalize upd H A1 (.lst [V.int 1])=H1 at u1 v1 ⊢
  refine⟨by show 1≤sizeLine; omega,fun A2 hA2=>?_⟩
  have u2:=u1.trans (zb (o:=.lst [V.int 0]) hA2)
  have v12:=(zb (o:=.lst [V.int 0]) hA2) _ _ v1
  have v2:upd H1 A2 (.lst [V.int 0]) A2=some (.lst [V.int 0]):=zc
  generalize upd H1 A2 (.lst [V.int 0])=H2 at u2 v12 v2 ⊢
  have ek:((kept:Int) - 1).toNat=kept - 1:=by omega
  refine⟨_,rfl,_,_,rfl,rfl,A2,_,_,rfl,rfl,v2,by omega,by omega,by rw [ek]; show 1*(kept - 1)≤sizeLine; omega,fun A3 hA3=>?_⟩
  rw [ek,List.flatten_replicate_singleton]
  have w3:=zb (o:=.lst (List.replicate (kept - 1) (V.int 0))) hA3
  have v13:=w3 _ _ v12
  have v3:upd H2 A3 (.lst (List.replicate (kept - 1) (V.int 0))) A3=some (.lst (List.replicate (kept - 1) (V.int 0))):=zc
  have u3:=u2.trans w3
  generalize upd H2 A3 (.lst (List.replicate (kept - 1) (V.int 0)))=H3 at u3 v13 v3 ⊢
  refine⟨A1,A3,_,_,rfl,rfl,v13,v3,by rw [List.length_replicate]; show 1+(kept - 1)≤sizeLine; omega,fun A4 hA4=>?_⟩
  have ez:[V.int 1]++List.replicate (kept - 1) (V.int 0)=(pwr p x kept 0).map V.int:=by rw [zkI (by omega) k1,List.map_cons,List.map_replicate]; rfl
  rw [ez]
  have u4:=u3.trans (zb (o:=.lst ((pwr p x kept 0).map V.int)) hA4)
  have v4:upd H3 A4 (.lst ((pwr p x kept 0).map V.int)) A4=some (.lst ((pwr p x kept 0).map V.int)):=zc
  generalize upd H3 A4 (.lst ((pwr p x kept 0).map V.int))=H4 at u4 v4 ⊢
  refine⟨by show 1≤sizeLine; omega,fun PW hPW=>?_⟩
  have sw:=zb (o:=.lst [V.ref A4]) hPW
  have emt:((most:Int)).toNat=most:=by omega
  refine⟨_,rfl,_,rfl,by omega,by omega,zad (lo:=0) (n:=((most:Int)).toNat) (fun i σ H'=>∃ (e5:Option V),σ = [some (.int p),some (.int x),some (.int (most:Int)),some (.int (kept:Int)),some (.ref PW),e5]∧zw H H'∧∃ ls:List Addr,H' PW=some (.lst (ls.map V.ref))∧LsA H' ls (pws p x kept (i+1))) ⟨none,rfl,u4.trans sw,[A4],zc,.cons (sw _ _ v4) .nil⟩ ?_ ?_⟩
  ·rintro i σ H5 hi ⟨e5,rfl,s5,ls,h5,hls⟩
   have hll:ls.length=i+1:=by rw [Paired.length hls]; unfold pws; rw [List.length_map,List.length_range]
   rw [zeH] at hls
   obtain⟨ls',b,rfl⟩:∃ ls' b,ls=ls'++[b]:=⟨_,_,(List.dropLast_concat_getLast (l:=ls) (fun e=>by rw [e] at hll; simp at hll)).symm⟩
   obtain⟨hA,hB⟩:=zdN hls
   have hat:atI ((ls'++[b]).map V.ref) (-1)=some (.ref b):=by rw [List.map_append]; exact zih
   refine⟨_,rfl,.inl ⟨rfl,_,SqL.of h5⟩,_,rfl,_,rfl,_,rfl,PW,_,_,_,rfl,rfl,SqL.of h5,hat,_,rfl,_,rfl,p,-x,b,_,rfl,hB,by rw [za9]; omega,by omega,by omega,by omega,fun l H6 hl s6 h6=>?_⟩
   refine⟨_,rfl,_,rfl,l,_,rfl,SqL.of h6,fun z hz=>?_⟩
   have ec:zcS ((zc9 p (-x) (pwr p x kept i)).map V.int) none (some (kept:Int))=(pwr p x kept (i+1)).map V.int:=by
    unfold zcS
    rw [HT.sIx_nat,HT.sIx_none,List.drop_zero,Nat.sub_zero,List.length_map,zcC,za9,Nat.min_eq_left (by omega),← List.map_take,zkH]
   rw [ec]
   have sz:=zb (o:=.lst ((pwr p x kept (i+1)).map V.int)) hz
   have h6P:=s6 _ _ h5
   have h7P:=sz _ _ h6P
   have zP:z≠PW:=(zq h6P hz).symm
   refine⟨PW,_,_,rfl,rfl,h7P,by rw [List.length_map,hll]; omega,?_⟩
   refine⟨_,rfl,zW ((s5.trans s6).trans sz) (u4.free hPW),(ls'++[b])++[z],by rw [zc]; simp,?_⟩
   rw [zeH]
   refine Paired.snoc (zkC (D:=PW) (fun hm=>?_) (fun c o hc e=>by rw [zl hc]; exact e) (LsA.same (s6.trans sz) (by rw [zeH]; exact hls))) (by rw [zl zP]; exact zc)
   obtain⟨j,hj⟩:=List.mem_iff_getElem?.mp hm
   exact LsA.off hls h5 j PW hj rfl
  ·rintro σ H5 ⟨e5,rfl,s5,ls,h5,hls⟩
   rw [emt] at hls
   exact⟨_,rfl,q PW ls _ (u4.free hPW) s5 h5 hls⟩
def tI (t:Tm):Int×Int:=((t.1:Int),(t.2:Int))
theorem zii {ns:List Nat} {M:Int} (hM:M∈ns.map fun n:Nat=>(n:Int)) (hM':∀ a∈ns.map (fun n:Nat=>(n:Int)),a≤M):∃ m:Nat,M=m∧m∈ns∧∀ n∈ns,n≤m:=by
 obtain⟨m,hm,rfl⟩:=List.mem_map.mp hM
 refine⟨m,rfl,hm,fun n hn=>?_⟩
 have:=hM' _ (List.mem_map.mpr ⟨n,hn,rfl⟩)
 omega
theorem zij {K:PySem.W.Frag} {H:Hp} {tl:Addr} {bs:List Addr} {ts:List Tm} (htl:H tl=some (.lst (bs.map V.ref))) (hpt:PtB H bs (ts.map tI)) (hlen:ts.length≤200) {g:TG} {tt:TT} {te:TE} {σ0:L2.St} {Q:VK} (f:Tm→Int)
  (hs:∀ (T:Addr) (t:Tm) (R:VK) (B:L2.St→Hp→Prop),t∈ts→SqT K H T [.int (t.1:Int),.int (t.2:Int)]→R (.int (f t)) H→g (.ref T) σ0 H fun σ2 H2=>tt σ2 H2 fun b H3=>if b=true then te σ2 H3 R else B σ2 H3)
  (hd:∀ D,H D=none→Q (.ref D) (upd H D (.lst ((ts.map f).map V.int)))):cGo g tt te σ0 (Itl K tl) Q H:=by
 have hbl:bs.length=ts.length:=by rw [Paired.length hpt,List.length_map]
 refine zaC (fs:=(ts.map f).map V.int) (SqL.of htl) (by rw [List.length_map,List.length_map,List.length_map,hbl]) (by rw [List.length_map]; omega) (fun i x y R B hx hy hR=>?_) hd
 obtain⟨b,rfl,hbi⟩:=zU hx
 obtain⟨q,hq,hT⟩:=Paired.get hpt hbi
 rw [List.getElem?_map] at hq
 obtain⟨t,ht,rfl⟩:=Option.map_eq_some_iff.mp hq
 rw [List.getElem?_map,List.getElem?_map,ht] at hy
 have hy:V.int (f t)=y:=by simpa using hy
 subst hy
 exact hs b t R B (List.mem_of_getElem? ht) (SqT.of hT) hR
def nAt (t:Tm) (x y p:Int) (w m:Nat):List Int:=(List.range m).flatMap fun u=>(List.range (w - u)).map fun v=>cv t ⟨x,y,u,v⟩ % p
theorem zgR (t:Tm) (x y p:Int) (w m:Nat):nAt t x y p w (m+1)=nAt t x y p w m++(List.range (w - m)).map fun v=>cv t ⟨x,y,m,v⟩ % p:=by
 unfold nAt
 rw [List.range_succ,List.flatMap_append]
 simp
theorem zlT (t:Tm) (x y p:Int) (w:Nat):nAt t x y p w w=(pco (x,y,w)).map fun c=>cv t c % p:=by
 unfold nAt pco
 rw [List.map_flatMap]
 congr 1
 funext u
 rw [List.map_map]
 rfl
theorem zik (t:Tm) (x y p:Int) (w:Nat):∀ m,(nAt t x y p w m).length≤w*m
 | 0=>by simp [nAt]
 | m+1=>by
  have ih:=zik t x y p w m
  rw [zgR,List.length_append,List.length_map,List.length_range,Nat.mul_succ]
  omega
theorem zkJ {H:Hp} {l:Addr} {ls:List Addr} {p x:Int} {w n i u:Nat} (h:LsA H ls (pws p x w n)) (hi:i < n) (hu:u < w):∃ b,atI (ls.map V.ref) (i:Int)=some (.ref b)∧H b=some (.lst ((pwr p x w i).map V.int))∧atI ((pwr p x w i).map V.int) (u:Int)=some (.int (cf x i u % p)):=by
 have hl:ls.length=n:=by rw [Paired.length h]; unfold pws; rw [List.length_map,List.length_range]
 have hb:ls[i]? = some (ls[i]'(by omega)):=List.getElem?_eq_getElem (by omega)
 obtain⟨v,hv,hvb⟩:=Paired.get h hb
 unfold pws at hv
 rw [List.getElem?_map,List.getElem?_range hi] at hv
 cases hv
 refine⟨_,zM (by rw [List.getElem?_map,hb]; rfl),hvb,zM ?_⟩
 rw [List.getElem?_map,zaZ (by rw [za9]; exact hu),zeI hu]
 rfl
def zeY (K:PySem.W.Frag):Sp:=fun vs H Q _=>∃ (p:Int) (tl pt:Addr) (x y:Int) (w:Nat) (bs:List Addr) (ts:List Tm),vs = [.int p,.ref tl,.ref pt]∧5≤p∧p≤97∧0≤x∧x < p∧0≤y∧y < p∧1≤w∧w≤9∧H tl=some (.lst (bs.map V.ref))∧PtB H bs (ts.map tI)∧ts≠[]∧ts.length≤200∧(∀ t∈ts,t.1≤400∧t.2≤400)∧H pt=some (.tup [.int x,.int y,.int (w:Int)]) ∧
 ∀ (l:Addr) (ls:List Addr) (H':Hp),H l=none→zw H H'→H' l=some (.lst (ls.map V.ref))→LsA H' ls (ts.map fun t=>(pco (x,y,w)).map fun c=>cv t c % p)→Q (.ref l) H'
theorem zaE:FnScope ["p","terms","point","x","y","weight","by_x","by_y"] ["p","terms","point"] (zh zaA):=⟨rfl,rfl,rfl,by decide +kernel,rfl,by decide +kernel,by decide +kernel⟩
theorem zeZ {fd:FuncData} (T:Txt K mg t) (F:Fun K "numbers_at" "numbers_at" zaA t.numbers_at fd):FnOk P w K mg base CX0 3 t.numbers_at fd ["p","terms","point"] (zeY K):=by
 obtain⟨fd_moved_powers,F_moved_powers,b_moved_powers⟩:=T.f_moved_powers
 have G_moved_powers:=zd1 (P:=P) (w:=w) (base:=base) T F_moved_powers
 refine F.ok zaE (fun vs H Q E h=>?_) (fun cdv A outer s H vs Q E hr h=>?_)
 ·obtain⟨p,tl,pt,x,y,wt,bs,ts,rfl,_⟩:=h
  rfl
 ·obtain⟨p,tl,pt,x,y,wt,bs,ts,rfl,p5,p97,x0,x1,y0,y1,w1,w9,htl,hpt,hne,hlen,hts,hp,q⟩:=h
  refine⟨_,(@ze _ _ _ _ _ (@zaX _ _ _ _ _ _ (@pvx _ 2 _ _ rfl) (@zaP _ _ _ _ _ _ rfl (@zj _ _ _ _ _ (@zg _ _ (3) _ zaE.nd rfl (Or.inl rfl) (by trivial)) (@zj _ _ _ _ _ (@zg _ _ (4) _ zaE.nd rfl (Or.inl rfl) (by trivial)) (@zj _ _ _ _ _ (@zg _ _ (5) _ zaE.nd rfl (Or.inr rfl) (by trivial)) (@zB _) (by rfl)) (by rfl)) (by rfl)) (by rfl) (by rfl)) (by rfl) (by rfl) (by rfl)) (by exact (@ze _ _ _ _ _ (@zm _ _ (6) _ _ _ _ zaE.nd rfl (Or.inr rfl) (@zp _ _ _ _ _ _ _ _ _ _ _ _ _ _ _ _ G_moved_powers (hr.mono (by decide)) rfl T.m_moved_powers F_moved_powers.kp b_moved_powers .nil (@zN _) (@za _ _ _ _ _ (@pvx _ 0 _ _ rfl) (by exact (@za _ _ _ _ _ (@pvx _ 3 _ _ rfl) (@za _ _ _ _ _ (@zn _ _ _ _ _ _ _ _ _ (@zbS _ rfl) (by rfl) T.max_ boot_max (@ya _ _ _ (@zA _ _ _ _ _ _ _ _ _ _ _ _ _ (CompSc.of (N':=["i","j"]) (ix:=[none,none]) (zh zaA) ["p","terms","point","x","y","weight","by_x","by_y"] rfl rfl (by decide +kernel)) rfl (@zaz _ _ _ _ (@zt _ _ _ rfl (@zt _ _ _ rfl (@zah _)))) (@z9 _ _ _ _ (@pvx _ 1 _ _ rfl)) (fun _ _ _ _=>(@zac _ (K) _ _ _ (2) _ rfl rfl (@zj _ _ _ _ _ (@zg _ _ (0) _ (show (["i","j"]:List Str).Nodup by decide +kernel) rfl (Or.inl rfl) (by trivial)) (@zj _ _ _ _ _ (@zg _ _ (1) _ (show (["i","j"]:List Str).Nodup by decide +kernel) rfl (Or.inl rfl) (by trivial)) (@zB _) (by rfl)) (by rfl)) (by rfl) (by rfl))) (fun _ _ _ _=>(@zr _)) (fun _ _ _ _=>(@pvx _ 0 _ _ rfl)) (by intro _; rfl)) (by rfl)) (by decide) (by decide) (by rfl) (by rfl)) (@ya _ _ _ (@pvx _ 5 _ _ rfl) (by rfl)) (by rfl)) (by rfl))) (by rfl)) (by decide) (by rfl) (by rfl)) (by rfl) (by trivial)) (by exact (@ze _ _ _ _ _ (@zm _ _ (7) _ _ _ _ zaE.nd rfl (Or.inr rfl) (@zp _ _ _ _ _ _ _ _ _ _ _ _ _ _ _ _ G_moved_powers (hr.mono (by decide)) rfl T.m_moved_powers F_moved_powers.kp b_moved_powers .nil (@zN _) (@za _ _ _ _ _ (@pvx _ 0 _ _ rfl) (by exact (@za _ _ _ _ _ (@pvx _ 4 _ _ rfl) (@za _ _ _ _ _ (@zn _ _ _ _ _ _ _ _ _ (@zbS _ rfl) (by rfl) T.max_ boot_max (@ya _ _ _ (@zA _ _ _ _ _ _ _ _ _ _ _ _ _ (CompSc.of (N':=["i","j"]) (ix:=[none,none]) (zh zaA) ["p","terms","point","x","y","weight","by_x","by_y"] rfl rfl (by decide +kernel)) rfl (@zaz _ _ _ _ (@zt _ _ _ rfl (@zt _ _ _ rfl (@zah _)))) (@z9 _ _ _ _ (@pvx _ 1 _ _ rfl)) (fun _ _ _ _=>(@zac _ (K) _ _ _ (2) _ rfl rfl (@zj _ _ _ _ _ (@zg _ _ (0) _ (show (["i","j"]:List Str).Nodup by decide +kernel) rfl (Or.inl rfl) (by trivial)) (@zj _ _ _ _ _ (@zg _ _ (1) _ (show (["i","j"]:List Str).Nodup by decide +kernel) rfl (Or.inl rfl) (by trivial)) (@zB _) (by rfl)) (by rfl)) (by rfl) (by rfl))) (fun _ _ _ _=>(@zr _)) (fun _ _ _ _=>(@pvx _ 1 _ _ rfl)) (by intro _; rfl)) (by rfl)) (by decide) (by decide) (by rfl) (by rfl)) (@ya _ _ _ (@pvx _ 5 _ _ rfl) (by rfl)) (by rfl)) (by rfl))) (by rfl)) (by decide) (by rfl) (by rfl)) (by rfl) (by trivial)) (by exact (@zk _ _ _ (@zz _ _ _ _ (@zA _ _ _ _ _ _ _ _ _ _ _ _ _ (CompSc.of (N':=["i","j","weight","by_x","by_y","p"]) (ix:=[none,none,some 5,some 6,some 7,some 0]) (zh zaA) ["p","terms","point","x","y","weight","by_x","by_y"] rfl rfl (by decide +kernel)) rfl (@zaz _ _ _ _ (@zt _ _ _ rfl (@zt _ _ _ rfl (@zah _)))) (@z9 _ _ _ _ (@pvx _ 1 _ _ rfl)) (fun _ _ _ _=>(@zac _ (K) _ _ _ (2) _ rfl rfl (@zj _ _ _ _ _ (@zg _ _ (0) _ (show (["i","j","weight","by_x","by_y","p"]:List Str).Nodup by decide +kernel) rfl (Or.inr rfl) (by trivial)) (@zj _ _ _ _ _ (@zg _ _ (1) _ (show (["i","j","weight","by_x","by_y","p"]:List Str).Nodup by decide +kernel) rfl (Or.inr rfl) (by trivial)) (@zB _) (by rfl)) (by rfl)) (by rfl) (by rfl))) (fun _ _ _ _=>(@zr _)) (fun _ _ _ _=>(@zia _ _ _ _ _ _ _ _ _ _ _ _ _ _ _ _ _ _ _ _ _ (CompSc.of (N':=["u","v","by_x","i","by_y","j","p","weight"]) (ix:=[none,none,some 3,some 0,some 4,some 1,some 5,some 2]) ({ kind:=.function,names:=[(".0",.local),("i",.cell),("j",.cell),("range",.globalImplicit),("by_x",.cell),("by_y",.cell),("p",.cell),("weight",.cell)],isGenerator:=false,isCoroutine:=false }) ["i","j","weight","by_x","by_y","p"] (by with_unfolding_all rfl) rfl (by decide +kernel)) rfl (zfE (js:=[0]) (i:=0) (by decide)) (zfE (js:=[1]) (i:=1) (by decide)) (by decide) (by decide) (@zH _ _ _ _ _ _ rfl T.range_ (@ya _ _ _ (@pvx _ 2 _ _ rfl) (by rfl)) (by rfl)) (fun _ _ _ _=>(@zg _ _ (0) _ (show (["u","v","by_x","i","by_y","j","p","weight"]:List Str).Nodup by decide +kernel) rfl (Or.inl rfl) (by trivial))) (fun _ _ _ _=>(@zr _)) (fun _ _ _ _=>(@zH _ _ _ _ _ _ rfl T.range_ (@ya _ _ _ (@zi _ _ _ _ _ _ _ _ (@zR _) (@pvx _ 7 _ _ rfl) (@pvx _ 0 _ _ rfl)) (by rfl)) (by rfl))) (fun _ _ _ _=>(@zg _ _ (1) _ (show (["u","v","by_x","i","by_y","j","p","weight"]:List Str).Nodup by decide +kernel) rfl (Or.inl rfl) (by trivial))) (fun _ _ _ _=>(@zr _)) (fun _ _ _ _=>(@zi _ _ _ _ _ _ _ _ (@zE _) (@zi _ _ _ _ _ _ _ _ (@zD _) (@zy _ _ _ _ _ _ _ (@zar _ (K) rfl) (@zy _ _ _ _ _ _ _ (@zar _ (K) rfl) (@pvx _ 2 _ _ rfl) (@pvx _ 3 _ _ rfl) (fun _ _=>rfl)) (@pvx _ 0 _ _ rfl) (fun _ _=>rfl)) (@zy _ _ _ _ _ _ _ (@zar _ (K) rfl) (@zy _ _ _ _ _ _ _ (@zar _ (K) rfl) (@pvx _ 4 _ _ rfl) (@pvx _ 5 _ _ rfl) (fun _ _=>rfl)) (@pvx _ 1 _ _ rfl) (fun _ _=>rfl))) (@pvx _ 6 _ _ rfl))) (by intro _; rfl) (by intros; rfl))) (by intro _; rfl)))))))))),?_⟩
  have hsl:=sizeLine_eq
  have hbl:bs.length=ts.length:=by rw [Paired.length hpt,List.length_map]
  refine⟨_,rfl,pt,_,rfl,SqT.of hp,rfl,_,_,rfl,_,_,rfl,_,_,rfl,rfl,?_⟩
  refine⟨_,rfl,_,rfl,_,rfl,tl,rfl,⟨_,SqL.of htl⟩,zij htl hpt hlen (fun t=>(t.1:Int)) (fun T t R B ht hT hR=>gY2 hT ⟨_,rfl,hR⟩) fun D hD=>?_⟩
  refine⟨D,ts.map fun t=>(t.1:Int),rfl,SqL.of zc,by simpa using hne,fun M hM hM'=>?_⟩
  obtain⟨mx,rfl,mx1,mx2⟩:=zii (ns:=ts.map (·.1)) (by rw [List.map_map]; exact hM) (by rw [List.map_map]; exact hM')
  have mx4:mx≤400:=by obtain⟨t,ht,rfl⟩:=List.mem_map.mp mx1; exact (hts t ht).1
  have s0:=zb (o:=.lst ((ts.map fun t:Tm=>(t.1:Int)).map V.int)) hD
  generalize upd H D (.lst ((ts.map fun t:Tm=>(t.1:Int)).map V.int))=H0 at s0 ⊢
  refine⟨_,rfl,p,x,mx,wt,rfl,p5,p97,x0,x1,by omega,w1,by omega,fun l1 ls1 H1 hl1 s1 h1 g1=>?_⟩
  have s01:=s0.trans s1
  refine⟨_,rfl,_,rfl,_,rfl,tl,rfl,⟨_,SqL.of (s01 _ _ htl)⟩,zij (s01 _ _ htl) (hpt.same s01) hlen (fun t=>(t.2:Int)) (fun T t R B ht hT hR=>gY2 hT ⟨_,rfl,hR⟩) fun D2 hD2=>?_⟩
  refine⟨D2,ts.map fun t=>(t.2:Int),rfl,SqL.of zc,by simpa using hne,fun M hM hM'=>?_⟩
  obtain⟨my,rfl,my1,my2⟩:=zii (ns:=ts.map (·.2)) (by rw [List.map_map]; exact hM) (by rw [List.map_map]; exact hM')
  have my4:my≤400:=by obtain⟨t,ht,rfl⟩:=List.mem_map.mp my1; exact (hts t ht).2
  have s2:=zb (o:=.lst ((ts.map fun t:Tm=>(t.2:Int)).map V.int)) hD2
  generalize upd H1 D2 (.lst ((ts.map fun t:Tm=>(t.2:Int)).map V.int))=H2 at s2 ⊢
  refine⟨_,rfl,p,y,my,wt,rfl,p5,p97,y0,y1,by omega,w1,by omega,fun l2 ls2 H3 hl2 s3 h3 g3=>?_⟩
  have s13:=s2.trans s3
  have sA:=s01.trans s13
  have h1:=s13 _ _ h1
  have g1:=g1.same s13
  refine⟨_,rfl,tl,rfl,⟨_,SqL.of (sA _ _ htl)⟩,zI (n:=ts.length) (fun m ys H'=>zw H3 H'∧∃ us:List Addr,ys=us.map V.ref∧LsA H' us ((ts.take m).map fun t=>(pco (x,y,wt)).map fun c=>cv t c % p)) ⟨fun _ _ e=>e,[],rfl,.nil⟩ ?_ ?_ ?_ ?_⟩
  ·rintro m ys H4 hm ⟨s4,_⟩
   exact⟨_,.ref (bs[m]'(by omega)),SqL.of ((sA.trans s4) _ _ htl),by rw [List.getElem?_map,List.getElem?_eq_getElem (by omega)]; rfl⟩
  ·rintro ys H4 ⟨s4,_⟩
   exact⟨_,SqL.of ((sA.trans s4) _ _ htl),by rw [List.length_map]; omega⟩
  ·rintro m z ys H4 H5 hm ⟨s4,us,rfl,hus⟩ ⟨rfl,hx⟩
   have sA4:=sA.trans s4
   obtain⟨b,rfl,hbm⟩:=zU (hx _ (SqL.of (sA4 _ _ htl)))
   obtain⟨q',hq',hT⟩:=Paired.get (hpt.same sA4) hbm
   rw [List.getElem?_map] at hq'
   obtain⟨t,ht,rfl⟩:=Option.map_eq_some_iff.mp hq'
   have htm:=List.mem_of_getElem? ht
   have hz:us.length=m:=by rw [Paired.length hus,List.length_map,List.length_take]; omega
   have t1:t.1 < mx+1:=Nat.lt_succ_of_le (mx2 _ (List.mem_map.mpr ⟨t,htm,rfl⟩))
   have t2:t.2 < my+1:=Nat.lt_succ_of_le (my2 _ (List.mem_map.mpr ⟨t,htm,rfl⟩))
   have h4x:=s4 _ _ h1
   have h4y:=s4 _ _ h3
   have g4x:=g1.same s4
   have g4y:=g3.same s4
   refine gY2 (SqT.of hT) ?_
   have ew:((wt:Int)).toNat=wt:=by omega
   refine⟨_,rfl,_,rfl,by omega,by omega,?_⟩
   rw [ew]
   refine zib (n:=wt) (fun u ys H'=>H'=H5∧ys=(nAt t x y p wt u).map V.int) ⟨rfl,rfl⟩ (fun i ys H' hi _=>hi) (fun ys H' _=>Nat.le_refl _) ?_ ?_
   ·rintro u xx ys H6 H7 hu ⟨rfl,rfl⟩ ⟨rfl,rfl⟩
    rw [show ((0:Int)+(u:Int))=(u:Int) from Int.zero_add _]
    refine gY ?_
    have ewu:((wt:Int) - (u:Int)).toNat=wt - u:=by omega
    refine⟨_,rfl,_,rfl,_,_,rfl,rfl,_,rfl,by omega,by omega,?_⟩
    rw [ewu]
    refine zib (n:=wt - u) (fun v ys H'=>H'=H7∧ys=(nAt t x y p wt u++(List.range v).map fun v=>cv t ⟨x,y,u,v⟩ % p).map V.int) ⟨rfl,by simp⟩ (fun i ys H' hi _=>hi) (fun ys H' _=>Nat.le_refl _) ?_ ?_
    ·rintro v yy ys H8 H9 hv ⟨rfl,rfl⟩ ⟨rfl,rfl⟩
     rw [show ((0:Int)+(v:Int))=(v:Int) from Int.zero_add _]
     obtain⟨bx,ax1,ax2,ax3⟩:=zkJ (l:=l1) g4x t1 hu
     obtain⟨b2,ay1,ay2,ay3⟩:=zkJ (l:=l2) g4y t2 (show v < wt by omega)
     have r0:=Int.emod_nonneg (cf x t.1 u) (show p≠0 by omega)
     have r1:=Int.emod_lt_of_pos (cf x t.1 u) (show 0 < p by omega)
     have nl:=zik t x y p wt u
     have nm:wt*u≤9*9:=Nat.mul_le_mul (by omega) (by omega)
     refine gY ?_
     refine⟨_,rfl,_,rfl,l1,_,_,_,rfl,rfl,SqL.of h4x,ax1,_,rfl,bx,_,_,_,rfl,rfl,SqL.of ax2,ax3,_,rfl,_,rfl,l2,_,_,_,rfl,rfl,SqL.of h4y,ay1,_,rfl,b2,_,_,_,rfl,rfl,SqL.of ay2,ay3,_,_,rfl,rfl,.inl ⟨by omega,by omega⟩,_,rfl,_,_,rfl,rfl,by omega,?_⟩
     refine⟨by rw [List.length_map,List.length_append,List.length_map,List.length_range]; omega,rfl,?_⟩
     rw [List.range_succ,List.map_append,List.map_append,List.map_append,List.map_append,List.append_assoc]
     have:cf x t.1 u % p*(cf y t.2 v % p) % p=cv t ⟨x,y,u,v⟩ % p:=by unfold cv; rw [← Int.mul_emod]
     show _++(_++[V.int (cf x t.1 u % p*(cf y t.2 v % p) % p)])=_
     rw [this]
     rfl
    ·rintro ys H8 ⟨rfl,rfl⟩
     refine⟨rfl,?_⟩
     rw [zgR]
   ·rintro ys H6 ⟨rfl,rfl⟩ D3 hD3
    refine⟨by rw [List.length_map]; omega,s4.trans (zb hD3),us++[D3],by simp,?_⟩
    rw [take_snoc ht,List.map_append]
    refine Paired.snoc (hus.same (zb hD3)) ?_
    rw [zc,zlT]
  ·rintro ys H4 D3 ⟨s4,us,rfl,hus⟩ hD3
   rw [List.take_of_length_le (Nat.le_refl _)] at hus
   have sf:=sA.trans s4
   exact q D3 us _ (sf.free hD3) (sf.trans (zb hD3)) zc (hus.same (zb hD3))
def W3 (H:Hp):List Addr→List (Int×Int×Nat)→Prop:=Paired fun b q=>H b=some (.tup [.int q.1,.int q.2.1,.int (q.2.2:Int)])
theorem W3.same {H H':Hp} (s:zw H H') {bs:List Addr} {pts:List (Int×Int×Nat)} (h:W3 H bs pts):W3 H' bs pts:=Paired.mono (fun _ _ z=>s _ _ z) h
def zfo (p:Int) (pts:List (Int×Int×Nat)):Prop:=∀ q∈pts,0≤q.1∧q.1 < p∧0≤q.2.1∧q.2.1 < p∧1≤q.2.2∧q.2.2≤9
theorem zkK {p:Int} {pts:List (Int×Int×Nat)} {q:Int×Int×Nat} {t:Tm}:zaG p (pts++[q]) t=zaG p pts t++(pco q).map fun c=>cv t c % p:=by
 unfold zaG cos
 rw [List.flatMap_append,List.map_append]
 simp
theorem zkL {pts:List (Int×Int×Nat)} (i:Nat):(cos (pts.take i)).length≤(cos pts).length:=by
 conv=>rhs; rw [← List.take_append_drop i pts]
 unfold cos
 rw [List.flatMap_append,List.length_append]
 omega
def ze0 (K:PySem.W.Frag):Sp:=fun vs H Q _=>∃ (p:Int) (tl pl:Addr) (bs cs:List Addr) (ts:List Tm) (pts:List (Int×Int×Nat)),vs = [.int p,.ref tl,.ref pl]∧5≤p∧p≤97∧H tl=some (.lst (bs.map V.ref))∧PtB H bs (ts.map tI)∧ts≠[]∧ts.length≤200∧(∀ t∈ts,t.1≤400∧t.2≤400)∧H pl=some (.lst (cs.map V.ref))∧W3 H cs pts∧zfo p pts∧(cos pts).length≤800∧pts.length≤1000 ∧
 ∀ (l:Addr) (ls:List Addr) (H':Hp),H l=none→zw H H'→H' l=some (.lst (ls.map V.ref))→LsA H' ls (ts.map (zaG p pts))→Q (.ref l) H'
theorem zbg:FnScope ["p","terms","points","vectors","point"] ["p","terms","points"] (zh zaM):=⟨rfl,rfl,rfl,by decide +kernel,rfl,by decide +kernel,by decide +kernel⟩
theorem ze1 {fd:FuncData} (T:Txt K mg t) (F:Fun K "vectors_of" "vectors_of" zaM t.vectors_of fd):FnOk P w K mg base CX0 4 t.vectors_of fd ["p","terms","points"] (ze0 K):=by
 obtain⟨fd_numbers_at,F_numbers_at,b_numbers_at⟩:=T.f_numbers_at
 have G_numbers_at:=zeZ (P:=P) (w:=w) (base:=base) T F_numbers_at
 refine F.ok zbg (fun vs H Q E h=>?_) (fun cdv A outer s H vs Q E hr h=>?_)
 ·obtain⟨p,tl,pl,bs,cs,ts,pts,rfl,_⟩:=h
  rfl
 ·obtain⟨p,tl,pl,bs,cs,ts,pts,rfl,p5,p97,htl,hpt,hne,hlen,hts,hpl,hcs,hg,hL,hn,q⟩:=h
  refine⟨_,(@ze _ _ _ _ _ (@zaY _ _ _ _ _ _ _ _ _ _ _ _ _ (3) _ _ _ zbg.nd rfl (Or.inl rfl) (CompSc.of (N':=["term"]) (ix:=[none]) (zh zaM) ["p","terms","points","vectors","point"] rfl rfl (by decide +kernel)) rfl (@zT _ _ rfl) (@z9 _ _ _ _ (@pvx _ 1 _ _ rfl)) (fun _ _ _ _=>(@zg _ _ (0) _ (show (["term"]:List Str).Nodup by decide +kernel) rfl (Or.inl rfl) (by trivial))) (fun _ _ _ _=>(@zr _)) (fun _ _ _ _=>(@zY _ _ _ _ (@zd _))) (by rfl) (by intro _; rfl) (by trivial)) (by exact (@ze _ _ _ _ _ (@zal _ _ _ _ _ _ _ _ PassesOwn.never rfl (@z9 _ _ _ _ (@pvx _ 2 _ _ rfl)) (@zg _ _ (4) _ zbg.nd rfl (Or.inl rfl) (by trivial)) (@zk _ _ _ (@zaY _ _ _ _ _ _ _ _ _ _ _ _ _ (3) _ _ _ zbg.nd rfl (Or.inl rfl) (CompSc.of (N':=["vector","numbers"]) (ix:=[none,none]) (zh zaM) ["p","terms","points","vectors","point"] rfl rfl (by decide +kernel)) rfl (@zaz _ _ _ _ (@zt _ _ _ rfl (@zt _ _ _ rfl (@zah _)))) (@zc6 _ _ _ _ _ _ _ _ _ rfl T.zip_ (@za _ _ _ _ _ (@pvx _ 3 _ _ rfl) (@ya _ _ _ (@zp _ _ _ _ _ _ _ _ _ _ _ _ _ _ _ _ G_numbers_at (hr.mono (by decide)) rfl T.m_numbers_at F_numbers_at.kp b_numbers_at .nil (@zN _) (@za _ _ _ _ _ (@pvx _ 0 _ _ rfl) (@za _ _ _ _ _ (@pvx _ 1 _ _ rfl) (@ya _ _ _ (@pvx _ 4 _ _ rfl) (by rfl)) (by rfl)) (by rfl)) (by decide) (by rfl) (by rfl)) (by rfl)) (by rfl)) (by rfl) (by rfl)) (fun _ _ _ _=>(@zac _ (K) _ _ _ (2) _ rfl rfl (@zj _ _ _ _ _ (@zg _ _ (0) _ (show (["vector","numbers"]:List Str).Nodup by decide +kernel) rfl (Or.inl rfl) (by trivial)) (@zj _ _ _ _ _ (@zg _ _ (1) _ (show (["vector","numbers"]:List Str).Nodup by decide +kernel) rfl (Or.inl rfl) (by trivial)) (@zB _) (by rfl)) (by rfl)) (by rfl) (by rfl))) (fun _ _ _ _=>(@zr _)) (fun _ _ _ _=>(@zi _ _ _ _ _ _ _ _ (@zcl _) (@pvx _ 0 _ _ rfl) (@pvx _ 1 _ _ rfl))) (by rfl) (by intro _; rfl) (by trivial))) (by intro _; rfl)) (by exact (@zk _ _ _ (@zz _ _ _ _ (@pvx _ 3 _ _ rfl))))))),?_⟩
  have hsl:=sizeLine_eq
  have hbl:bs.length=ts.length:=by rw [Paired.length hpt,List.length_map]
  have hcl:=Paired.length hcs
  refine⟨_,rfl,tl,rfl,⟨_,SqL.of htl⟩,zI (n:=ts.length) (fun m ys H'=>zw H H'∧∃ us:List Addr,ys=us.map V.ref∧LsA H' us ((ts.take m).map (zaG p []))) ⟨fun _ _ e=>e,[],rfl,.nil⟩ ?_ ?_ ?_ ?_⟩
  ·rintro m ys H4 hm ⟨s4,_⟩
   exact⟨_,.ref (bs[m]'(by omega)),SqL.of (s4 _ _ htl),by rw [List.getElem?_map,List.getElem?_eq_getElem (by omega)]; rfl⟩
  ·rintro ys H4 ⟨s4,_⟩
   exact⟨_,SqL.of (s4 _ _ htl),by rw [List.length_map]; omega⟩
  ·rintro m z ys H4 H5 hm ⟨s4,us,rfl,hus⟩ ⟨rfl,hx⟩
   have hz:us.length=m:=by rw [Paired.length hus,List.length_map,List.length_take]; omega
   refine gY ?_
   refine⟨Nat.zero_le _,fun D hD=>⟨by rw [List.length_map]; omega,s4.trans (zb hD),us++[D],by simp,?_⟩⟩
   have ht:ts[m]? = some (ts[m]'hm):=List.getElem?_eq_getElem hm
   rw [take_snoc ht,List.map_append]
   exact Paired.snoc (hus.same (zb hD)) zc
  ·rintro ys H4 V0 ⟨s4,us,rfl,hus⟩ hV
   rw [List.take_of_length_le (Nat.le_refl _)] at hus
   have sV:=s4.trans (zb (o:=.lst (us.map V.ref)) hV)
   refine⟨_,rfl,pl,rfl,⟨_,SqL.of (sV _ _ hpl)⟩,zbN (K:=K) (a:=pl) (xs:=cs.map V.ref) (fun i σ H'=>∃ (vl:Addr) (ls:List Addr) (e4:Option V),σ = [some (.int p),some (.ref tl),some (.ref pl),some (.ref vl),e4]∧zw H H'∧H vl=none∧H' vl=some (.lst (ls.map V.ref))∧LsA H' ls (ts.map (zaG p (pts.take i)))) ⟨V0,us,none,rfl,sV,s4.free hV,zc,hus.same (zb hV)⟩ ?_ ?_ ?_⟩
   ·rintro i σ H' _ ⟨vl,ls,e4,rfl,s,_⟩
    exact SqL.of (s _ _ hpl)
   ·rintro i x σ H5 hx ⟨vl,ls,e4,rfl,s5,hvl,h5,hls⟩
    obtain⟨b,rfl,hb⟩:=zU hx
    obtain⟨⟨px,py,pw⟩,hq,hqb⟩:=Paired.get hcs hb
    obtain⟨g1,g2,g3,g4,g5,g6⟩:=hg _ (List.mem_of_getElem? hq)
    refine⟨_,rfl,_,rfl,_,rfl,_,rfl,p,tl,b,px,py,pw,bs,ts,rfl,p5,p97,g1,g2,g3,g4,g5,g6,s5 _ _ htl,hpt.same s5,hne,hlen,hts,s5 _ _ hqb,fun nl nls H6 hnl s6 h6 g6'=>?_⟩
    have h6v:=s6 _ _ h5
    have hls6:=hls.same s6
    have l1:ls.length=ts.length:=by rw [Paired.length hls,List.length_map]
    have l2:nls.length=ts.length:=by rw [Paired.length g6',List.length_map]
    refine⟨vl,nl,_,_,rfl,SqL.of h6v,SqL.of h6,zI (n:=ts.length) (fun m ys H'=>zw H6 H'∧∃ us:List Addr,ys=us.map V.ref∧LsA H' us ((ts.take m).map (zaG p (pts.take (i+1))))) ⟨fun _ _ e=>e,[],rfl,.nil⟩ ?_ ?_ ?_ ?_⟩
    ·rintro m ys H7 hm ⟨s7,_⟩
     exact⟨_,_,.ref (ls[m]'(by omega)),.ref (nls[m]'(by omega)),SqL.of (s7 _ _ h6v),SqL.of (s7 _ _ h6),by rw [List.getElem?_map,List.getElem?_eq_getElem (by omega)]; rfl,by rw [List.getElem?_map,List.getElem?_eq_getElem (by omega)]; rfl⟩
    ·rintro ys H7 ⟨s7,_⟩
     exact⟨_,_,SqL.of (s7 _ _ h6v),SqL.of (s7 _ _ h6),by rw [List.length_map,List.length_map]; omega⟩
    ·rintro m z ys H7 H8 hm ⟨s7,us,rfl,hus⟩ ⟨T,u,v,hT,rfl,rfl,hu,hv⟩
     obtain⟨b1,rfl,hb1⟩:=zU (hu _ (SqL.of (s7 _ _ h6v)))
     obtain⟨b2,rfl,hb2⟩:=zU (hv _ (SqL.of (s7 _ _ h6)))
     obtain⟨w1,hw1,hw1b⟩:=Paired.get hls6 hb1
     obtain⟨w2,hw2,hw2b⟩:=Paired.get g6' hb2
     have ht:ts[m]? = some (ts[m]'hm):=List.getElem?_eq_getElem hm
     rw [List.getElem?_map,ht] at hw1 hw2
     cases hw1
     cases hw2
     have hz:us.length=m:=by rw [Paired.length hus,List.length_map,List.length_take]; omega
     refine gY2 (SqT.of zc) ?_
     have sT:=s7.trans (zb (o:=.tup [.ref b1,.ref b2]) hT)
     have husT:=hus.same (zb (o:=.tup [.ref b1,.ref b2]) hT)
     generalize upd H7 T (.tup [.ref b1,.ref b2])=H8 at sT husT ⊢
     have lv:=zkL (pts:=pts) (i+1)
     have ev:zaG p (pts.take (i+1)) (ts[m]'hm)=zaG p (pts.take i) (ts[m]'hm)++(pco (px,py,pw)).map fun c=>cv (ts[m]'hm) c % p:=by rw [take_snoc hq,zkK]
     have lz:(zaG p (pts.take i) (ts[m]'hm)).length+((pco (px,py,pw)).map fun c=>cv (ts[m]'hm) c % p).length=(cos (pts.take (i+1))).length:=by rw [← List.length_append,← ev,zie]
     refine⟨_,rfl,_,rfl,b1,b2,_,_,rfl,rfl,sT _ _ hw1b,sT _ _ hw2b,(by simp only [List.length_map] at lz ⊢; omega),fun D hD=>⟨by rw [List.length_map]; omega,sT.trans (zb hD),us++[D],by simp,?_⟩⟩
     rw [take_snoc ht,List.map_append]
     refine Paired.snoc (husT.same (zb hD)) ?_
     rw [zc,ev,List.map_append]
    ·rintro ys H7 D ⟨s7,us,rfl,hus⟩ hD
     rw [List.take_of_length_le (Nat.le_refl _)] at hus
     have s57:=s6.trans s7
     exact⟨D,us,_,rfl,(s5.trans s57).trans (zb hD),(s5.trans s57).free hD,zc,hus.same (zb hD)⟩
   ·rintro σ H5 ⟨vl,ls,e4,rfl,s5,hvl,h5,hls⟩
    rw [List.length_map,hcl,List.take_of_length_le (Nat.le_refl _)] at hls
    exact⟨_,rfl,q vl ls _ hvl s5 h5 hls⟩
theorem zhI:FnScope ["p","vector","times","other"] ["p","vector","times","other"] (zh zbV):=⟨rfl,rfl,rfl,by decide +kernel,rfl,by decide +kernel,by decide +kernel⟩
theorem zhJ {fd:FuncData} (T:Txt K mg t) (F:Fun K "without" "without" zbV t.without fd):FnOk P w K mg base CX0 1 t.without fd ["p","vector","times","other"] (zhw K):=by
 refine F.ok zhI (fun vs H Q E h=>?_) (fun cdv A outer s H vs Q E hr h=>?_)
 ·obtain⟨p,tm,a,b,as,bs,rfl,_⟩:=h
  rfl
 ·obtain⟨p,tm,a,b,as,bs,rfl,ha,hb,hl,hn,p0,t0,t1,q⟩:=h
  refine⟨_,(@zk _ _ _ (@zz _ _ _ _ (@zA _ _ _ _ _ _ _ _ _ _ _ _ _ (CompSc.of (N':=["number","less","times","p"]) (ix:=[none,none,some 2,some 0]) (zh zbV) ["p","vector","times","other"] rfl rfl (by decide +kernel)) rfl (@zaz _ _ _ _ (@zt _ _ _ rfl (@zt _ _ _ rfl (@zah _)))) (@zc6 _ _ _ _ _ _ _ _ _ rfl T.zip_ (@za _ _ _ _ _ (@pvx _ 1 _ _ rfl) (@ya _ _ _ (@pvx _ 3 _ _ rfl) (by rfl)) (by rfl)) (by rfl) (by rfl)) (fun _ _ _ _=>(@zac _ (K) _ _ _ (2) _ rfl rfl (@zj _ _ _ _ _ (@zg _ _ (0) _ (show (["number","less","times","p"]:List Str).Nodup by decide +kernel) rfl (Or.inl rfl) (by trivial)) (@zj _ _ _ _ _ (@zg _ _ (1) _ (show (["number","less","times","p"]:List Str).Nodup by decide +kernel) rfl (Or.inl rfl) (by trivial)) (@zB _) (by rfl)) (by rfl)) (by rfl) (by rfl))) (fun _ _ _ _=>(@zr _)) (fun _ _ _ _=>(@zi _ _ _ _ _ _ _ _ (@zE _) (@zi _ _ _ _ _ _ _ _ (@zR _) (@pvx _ 0 _ _ rfl) (@zi _ _ _ _ _ _ _ _ (@zD _) (@pvx _ 2 _ _ rfl) (@pvx _ 1 _ _ rfl))) (@pvx _ 3 _ _ rfl))) (by intro _; rfl)))),?_⟩
  have hsl:=sizeLine_eq
  refine⟨_,rfl,_,rfl,a,b,_,_,rfl,SqL.of ha,SqL.of hb,zdw (n:=as.length) (f:=fun x y=>(x - tm*y) % p) ha hb (Nat.le_refl _) (by omega) (.inl (Nat.le_refl _)) (by omega) ?_ ?_⟩
  ·intro j u w H6 T R B hu hv s6 hT hR
   refine gY2 (SqT.of zc) ?_
   exact⟨_,rfl,_,rfl,_,rfl,_,_,rfl,rfl,.inl ⟨by omega,by omega⟩,_,_,rfl,rfl,_,rfl,_,_,rfl,rfl,p0,hR⟩
  ·intro D H6 s6 hD
   exact q D _ (s6.free hD) (s6.trans (zb hD)) zc
def zc0 (K:PySem.W.Frag):Sp:=fun vs H Q _=>∃ (p:Int) (a:Addr) (ls:List Addr) (vv:List (List Int)) (L:Nat),vs = [.int p,.ref a]∧H a=some (.lst (ls.map V.ref))∧LsA H ls vv∧vv≠[]∧vv.length≤200∧L≤800∧(∀ v∈vv,v.length=L∧∀ c∈v,0≤c∧c < p)∧p∈zJ ∧
 (∀ H',zw H H'→Indep p L vv→Q .non H')∧(∀ (l:Addr) (c:List Int) (m:Nat) (H':Hp),H l=none→zw H H'→H' l=some (.lst (c.map V.int))→IsP p (m+1) c→m < vv.length→gl c m=1→Dep p L vv c→zlI p L m vv→Q (.ref l) H')
theorem zF:FnScope ["p","vectors","length","cleared","count","vector","whole","lead","other","leads","factor"] ["p","vectors"] (zh zak):=⟨rfl,rfl,rfl,by decide +kernel,rfl,by decide +kernel,by decide +kernel⟩
theorem zdp {fd:FuncData} (T:Txt K mg t) (F:Fun K "first_relation" "first_relation" zak t.first_relation fd):FnOk P w K mg base CX0 2 t.first_relation fd ["p","vectors"] (zc0 K):=by
 obtain⟨fd_without,F_without,b_without⟩:=T.f_without
 have G_without:=zhJ (P:=P) (w:=w) (base:=base) T F_without
 obtain⟨fd_inverse,F_inverse,b_inverse⟩:=T.f_inverse
 have G_inverse:=zhH (P:=P) (w:=w) (base:=base) T F_inverse
 refine F.ok zF (fun vs H Q E h=>?_) (fun cdv A outer s H vs Q E hr h=>?_)
 ·obtain⟨p,a,ls,vv,L,rfl,_⟩:=h
  rfl
 ·obtain⟨p,a,ls,vv,L,rfl,ha,hls,hne,hN,hL,hvv,hp,qn,qs⟩:=h
  refine⟨_,(@ze _ _ _ _ _ (@zm _ _ (2) _ _ _ _ zF.nd rfl (Or.inl rfl) (@zn _ _ _ _ _ _ _ _ _ (@zx _) (by rfl) T.len_ boot_len (@ya _ _ _ (@zy _ _ _ _ _ _ _ (@zu _) (@pvx _ 1 _ _ rfl) (@zf _ _ _ _) (fun _ _=>rfl)) (by rfl)) (by decide) (by decide) (by rfl) (by rfl)) (by rfl) (by trivial)) (by exact (@ze _ _ _ _ _ (@zm _ _ (3) _ _ _ _ zF.nd rfl (Or.inl rfl) (@zY _ _ _ _ (@zd _)) (by rfl) (by trivial)) (by exact (@ze _ _ _ _ _ (@zal _ _ _ _ _ _ _ _ PassesOwn.never rfl (@zgm _ _ _ _ _ _ _ _ rfl T.enumerate_ (@ya _ _ _ (@pvx _ 1 _ _ rfl) (by rfl)) (by rfl)) (@zaP _ _ _ _ _ _ rfl (@zj _ _ _ _ _ (@zg _ _ (4) _ zF.nd rfl (Or.inl rfl) (by trivial)) (@zj _ _ _ _ _ (@zg _ _ (5) _ zF.nd rfl (Or.inl rfl) (by trivial)) (@zB _) (by rfl)) (by rfl)) (by rfl) (by rfl)) (@ze _ _ _ _ _ (@zm _ _ (6) _ _ _ _ zF.nd rfl (Or.inr rfl) (@zi _ _ _ _ _ _ _ _ (@zcl _) (@pvx _ 5 _ _ rfl) (@zi _ _ _ _ _ _ _ _ (@zfA _) (@zY _ _ _ _ (@ya _ _ _ (@zf _ _ _ _) (by rfl))) (@zn _ _ _ _ _ _ _ _ _ (@zx _) (by rfl) T.len_ boot_len (@ya _ _ _ (@pvx _ 1 _ _ rfl) (by rfl)) (by decide) (by decide) (by rfl) (by rfl)))) (by rfl) (by trivial)) (by exact (@ze _ _ _ _ _ (@zaX _ _ _ _ _ _ (@zf _ _ _ _) (@zef _ _ _ _ _ _ _ (@pvx _ 6 _ _ rfl) (@zi _ _ _ _ _ _ _ _ (@zG _) (@pvx _ 2 _ _ rfl) (@pvx _ 4 _ _ rfl)) set_list (by intro _; rfl)) (by rfl) (by rfl) (by rfl)) (by exact (@ze _ _ _ _ _ (@zal _ _ _ _ _ _ _ _ PassesOwn.never rfl (@z9 _ _ _ _ (@pvx _ 3 _ _ rfl)) (@zaP _ _ _ _ _ _ rfl (@zj _ _ _ _ _ (@zg _ _ (7) _ zF.nd rfl (Or.inl rfl) (by trivial)) (@zj _ _ _ _ _ (@zg _ _ (8) _ zF.nd rfl (Or.inl rfl) (by trivial)) (@zB _) (by rfl)) (by rfl)) (by rfl) (by rfl)) (@zk _ _ _ (@zm _ _ (6) _ _ _ _ zF.nd rfl (Or.inr rfl) (@zp _ _ _ _ _ _ _ _ _ _ _ _ _ _ _ _ G_without (hr.mono (by decide)) rfl T.m_without F_without.kp b_without .nil (@zN _) (@za _ _ _ _ _ (@pvx _ 0 _ _ rfl) (by exact (@za _ _ _ _ _ (@pvx _ 6 _ _ rfl) (@za _ _ _ _ _ (@zy _ _ _ _ _ _ _ (@zu _) (@pvx _ 6 _ _ rfl) (@pvx _ 7 _ _ rfl) (fun _ _=>rfl)) (@ya _ _ _ (@pvx _ 8 _ _ rfl) (by rfl)) (by rfl)) (by rfl))) (by rfl)) (by decide) (by rfl) (by rfl)) (by rfl) (by trivial))) (by intro _; rfl)) (by exact (@ze _ _ _ _ _ (@zaY _ _ _ _ _ _ _ _ _ _ _ _ _ (9) _ _ _ zF.nd rfl (Or.inl rfl) (CompSc.of (N':=["at","whole"]) (ix:=[none,some 6]) (zh zak) ["p","vectors","length","cleared","count","vector","whole","lead","other","leads","factor"] rfl rfl (by decide +kernel)) rfl (@zT _ _ rfl) (@zH _ _ _ _ _ _ rfl T.range_ (@ya _ _ _ (@pvx _ 2 _ _ rfl) (by rfl)) (by rfl)) (fun _ _ _ _=>(@zg _ _ (0) _ (show (["at","whole"]:List Str).Nodup by decide +kernel) rfl (Or.inl rfl) (by trivial))) (fun _ _ _ _=>(@zbP _ _ _ (@zC _ _ _ _ _ _ _ _ (@zc1 _) (@zy _ _ _ _ _ _ _ (@zar _ (K) rfl) (@pvx _ 1 _ _ rfl) (@pvx _ 0 _ _ rfl) (fun _ _=>rfl)) (@zf _ _ _ _) (zL _)))) (fun _ _ _ _=>(@pvx _ 0 _ _ rfl)) (by rfl) (by intro _; rfl) (by trivial)) (by exact (@ze _ _ _ _ _ (@zaO _ _ _ _ _ _ _ _ (@zed _ _ _ _ (@zjy _ _ _ (@pvx _ 9 _ _ rfl) (fun _=>rfl))) (@zk _ _ _ (@zz _ _ _ _ (@zbO _ _ _ _ _ _ _ _ _ _ zcA (@pvx _ 6 _ _ rfl) (@zb1 _ _ _ (@pvx _ 2 _ _ rfl)) (@zb1 _ _ _ (@zi _ _ _ _ _ _ _ _ (@zG _) (@zi _ _ _ _ _ _ _ _ (@zG _) (@pvx _ 2 _ _ rfl) (@pvx _ 4 _ _ rfl)) (@zf _ _ _ _)))))) (@z8 _)) (by exact (@ze _ _ _ _ _ (@zm _ _ (10) _ _ _ _ zF.nd rfl (Or.inr rfl) (@zp _ _ _ _ _ _ _ _ _ _ _ _ _ _ _ _ G_inverse (hr.mono (by decide)) rfl T.m_inverse F_inverse.kp b_inverse .nil (@zN _) (@za _ _ _ _ _ (@pvx _ 0 _ _ rfl) (@ya _ _ _ (@zy _ _ _ _ _ _ _ (@zu _) (@pvx _ 6 _ _ rfl) (@zy _ _ _ _ _ _ _ (@zu _) (@pvx _ 9 _ _ rfl) (@zf _ _ _ _) (fun _ _=>rfl)) (fun _ _=>rfl)) (by rfl)) (by rfl)) (by decide) (by rfl) (by rfl)) (by rfl) (by trivial)) (by exact (@zk _ _ _ (@za3 _ _ _ _ (@zcd _ _ _ _ _ _ _ _ _ _ _ _ PySem.F.plainAttrs_list PySem.F.slot_list_append PySem.F.type_list_append (@zbb _) (@pvx _ 3 _ _ rfl) (@ya _ _ _ (@za4 _ _ _ _ _ (@za _ _ _ _ _ (@zy _ _ _ _ _ _ _ (@zu _) (@pvx _ 9 _ _ rfl) (@zf _ _ _ _) (fun _ _=>rfl)) (@ya _ _ _ (@zA _ _ _ _ _ _ _ _ _ _ _ _ _ (CompSc.of (N':=["number","factor","p"]) (ix:=[none,some 10,some 0]) (zh zak) ["p","vectors","length","cleared","count","vector","whole","lead","other","leads","factor"] rfl rfl (by decide +kernel)) rfl (@zT _ _ rfl) (@z9 _ _ _ _ (@pvx _ 6 _ _ rfl)) (fun _ _ _ _=>(@zg _ _ (0) _ (show (["number","factor","p"]:List Str).Nodup by decide +kernel) rfl (Or.inl rfl) (by trivial))) (fun _ _ _ _=>(@zr _)) (fun _ _ _ _=>(@zi _ _ _ _ _ _ _ _ (@zE _) (@zi _ _ _ _ _ _ _ _ (@zD _) (@pvx _ 0 _ _ rfl) (@pvx _ 1 _ _ rfl)) (@pvx _ 2 _ _ rfl))) (by intro _; rfl)) (by rfl)) (by rfl))) (by rfl)) (by rfl) (by rfl) (by rfl) (by rfl) (by rfl)) (by rfl))))))))))))))) (by intro _; rfl)) (by exact (@zk _ _ _ (@zz _ _ _ _ (@zdt _ _ _))))))))),?_⟩
  have hsl:=sizeLine_eq
  have rp:=zV hp
  have p0:0 < p:=by omega
  have hll:=hls.length
  have hN0:0 < vv.length:=List.length_pos_iff.mpr hne
  obtain⟨l0,hl0⟩:∃ l0,ls[0]? = some l0:=⟨ls[0]'(by omega),by simp⟩
  obtain⟨v0,hv0,hv0a⟩:=Paired.get hls hl0
  have hv0L:=(hvv v0 (List.mem_of_getElem? hv0)).1
  refine⟨_,rfl,a,_,_,.ref l0,rfl,rfl,SqL.of ha,zM (j:=0) (by rw [List.getElem?_map,hl0]; rfl),l0,_,rfl,.inl (SqL.of hv0a),?_⟩
  rw [List.length_map,hv0L]
  refine⟨by show 0≤sizeLine; omega,fun ca hca=>?_⟩
  have u1:=zb (o:=.lst []) hca
  refine⟨_,rfl,a,_,rfl,SqL.of (u1 _ _ ha),zjG (n:=vv.length) (fun i σ H'=>∃ (cs:List Addr) (cl:List (Nat×List Int)) (e4 e5 e6 e7 e8 e9 e10:Option V),σ = [some (.int p),some (.ref a),some (.int (L:Int)),some (.ref ca),e4,e5,e6,e7,e8,e9,e10]∧zw H H'∧H' ca=some (.lst (cs.map V.ref))∧ClA ca H' cs cl∧Ech p L vv.length i vv cl)
   ⟨[],[],none,none,none,none,none,none,none,rfl,u1,zc,.nil,Ech.start p L vv.length vv⟩ ?_ ?_ ?_ ?_⟩
  ·rintro i σ H1 hi ⟨cs,cl,e4,e5,e6,e7,e8,e9,e10,rfl,s1,_⟩
   exact⟨_,.ref (ls[i]'(by omega)),SqL.of (s1 _ _ ha),by rw [List.getElem?_map,List.getElem?_eq_getElem (by omega)]; rfl⟩
  ·rintro σ H1 ⟨cs,cl,e4,e5,e6,e7,e8,e9,e10,rfl,s1,_⟩
   exact⟨_,SqL.of (s1 _ _ ha),by rw [List.length_map]; omega⟩
  ·rintro i x σ H1 H2 hi ⟨cs,cl,e4,e5,e6,e7,e8,e9,e10,rfl,s1,h1c,hcl,E⟩ ⟨T,v,hT,rfl,rfl,hv⟩
   obtain⟨lv,rfl,hlv⟩:=zU (hv _ (SqL.of (s1 _ _ ha)))
   obtain⟨vec,hvec,hva⟩:=Paired.get hls hlv
   obtain⟨hvl,hvr⟩:=hvv vec (List.mem_of_getElem? hvec)
   have t2:=zb (o:=.tup [.int (i:Int),.ref lv]) hT
   refine⟨T,_,rfl,SqT.of zc,rfl,_,_,rfl,_,_,rfl,rfl,?_⟩
   have s2:=s1.trans t2
   have h2c:=t2 _ _ h1c
   have hcl2:=hcl.same t2
   generalize upd H1 T (.tup [.int (i:Int),.ref lv])=H2 at t2 s2 h2c hcl2 ⊢
   refine⟨_,rfl,by show 1≤sizeLine; omega,fun z hz=>⟨_,rfl,a,_,rfl,.inl (SqL.of ((s2.trans (zb hz)) _ _ ha)),z,_,[.int 0],rfl,rfl,zc,by rw [List.length_map]; omega,by rw [List.length_map]; omega,by rw [List.length_map]; show 1*_≤sizeLine; omega,fun y hy=>?_⟩⟩
   rw [List.length_map,zjT,hll,Int.toNat_natCast]
   have t3:=(zb (o:=.lst [.int 0]) hz).trans (zb (o:=.lst ((List.replicate vv.length (0:Int)).map V.int)) hy)
   have h3y:upd (upd H2 z (.lst [.int 0])) y (.lst ((List.replicate vv.length (0:Int)).map V.int)) y=some (.lst ((List.replicate vv.length (0:Int)).map V.int)):=zc
   generalize upd (upd H2 z (.lst [.int 0])) y (.lst ((List.replicate vv.length (0:Int)).map V.int))=H3 at t3 h3y ⊢
   refine⟨lv,y,_,_,rfl,rfl,(s2.trans t3) _ _ hva,h3y,by rw [List.length_map,List.length_map,List.length_replicate]; omega,fun wl hwl=>?_⟩
   rw [← List.map_append]
   have t4:=zb (o:=.lst ((vec++List.replicate vv.length (0:Int)).map V.int)) hwl
   refine⟨_,rfl,_,rfl,_,rfl,_,_,rfl,rfl,wl,_,_,L+i,rfl,rfl,zc,?_,?_⟩
   ·rw [← Int.natCast_add]
    exact zd6 (by rw [List.length_map,List.length_append,List.length_replicate]; omega)
   have ew:((vec++List.replicate vv.length (0:Int)).map V.int).set (L+i) (.int 1)=((vec++List.replicate vv.length (0:Int)).set (L+i) 1).map V.int:=by rw [List.map_set]
   rw [ew,zhQ]
   have t4:=t3.trans (zb (o:=.lst (((vec++List.replicate vv.length (0:Int)).set (L+i) 1).map V.int)) hwl)
   have h4w:upd H3 wl (.lst (((vec++List.replicate vv.length (0:Int)).set (L+i) 1).map V.int)) wl=some (.lst (((vec++List.replicate vv.length (0:Int)).set (L+i) 1).map V.int)):=zc
   have W0:=zgG hp (N:=vv.length) hi hvec hvl hvr
   have hwc:wl≠ca:=fun e=>by
    have:=t3 _ _ h2c
    rw [← e,hwl] at this
    cases this
   generalize upd H3 wl (.lst (((vec++List.replicate vv.length (0:Int)).set (L+i) 1).map V.int))=H4 at t4 h4w ⊢
   generalize (vec++List.replicate vv.length (0:Int)).set (L+i) 1=w0 at W0 h4w ⊢
   have s4:=s2.trans t4
   have h4c:=t4 _ _ h2c
   have hcl4:=hcl2.same t4
   have hcll:=hcl4.length
   refine⟨_,rfl,ca,rfl,⟨_,SqL.of h4c⟩,zbN (K:=K) (a:=ca) (xs:=cs.map V.ref) (fun j σ H'=>∃ (wa:Addr) (w:List Int) (e7 e8:Option V),σ = [some (.int p),some (.ref a),some (.int (L:Int)),some (.ref ca),some (.int (i:Int)),some (.ref lv),some (.ref wa),e7,e8,e9,e10]∧zw H4 H'∧H' wa=some (.lst (w.map V.int))∧wa≠ca∧Wh p L vv.length i vv (cl.take j) w)
    ⟨wl,w0,_,_,rfl,fun _ _ e=>e,h4w,hwc,W0⟩ (fun j σ H' _ ⟨_,_,_,_,_,s5,_⟩=>SqL.of (s5 _ _ h4c)) ?_ ?_⟩
   ·rintro j y σ H5 hy ⟨wa,w,e7,e8,rfl,s5,h5w,hwa,W⟩
    obtain⟨b,rfl,hb⟩:=zU hy
    obtain⟨aa,haa,oa,hb1,hb2,hb3⟩:=Paired.get hcl4 hb
    obtain⟨o1,o2,o3,_⟩:=E.one j aa haa
    refine⟨b,_,rfl,SqT.of (s5 _ _ hb1),rfl,_,_,rfl,_,_,rfl,rfl,?_⟩
    have hg:=zcW p0 W.rg aa.1
    refine⟨_,rfl,_,rfl,_,rfl,_,rfl,wa,_,_,.int (gl w aa.1),rfl,rfl,SqL.of h5w,zM (by rw [List.getElem?_map,zaZ (by rw [W.ln]; omega)]; rfl),_,rfl,p,gl w aa.1,wa,oa,w,aa.2,rfl,h5w,s5 _ _ hb2,by rw [W.ln,o2],by rw [W.ln]; omega,p0,hg.1,by omega,fun l H6 hl s6 h6l=>?_⟩
    refine⟨l,_,_,_,rfl,s5.trans s6,h6l,fun e=>?_,zic hp E hi haa W⟩
    have:=s5 _ _ h4c
    rw [← e,hl] at this
    cases this
   ·rintro σ H5 ⟨wa,w,e7,e8,rfl,s5,h5w,hwa,W⟩
    rw [List.length_map,hcll,List.take_length] at W
    have h5c:=s5 _ _ h4c
    have hcl5:=hcl4.same s5
    have s15:=s4.trans s5
    refine⟨_,rfl,_,rfl,by omega,by omega,?_⟩
    rw [Int.toNat_natCast]
    refine zI (n:=L) (fun j ys H'=>H'=H5∧ys=(((List.range j).filter fun m=>decide (gl w m≠0)).map fun m:Nat=>(m:Int)).map V.int) ⟨rfl,rfl⟩ (fun j ys H' hj _=>hj) (fun ys H' _=>Nat.le_refl _) ?_ ?_
    ·rintro j xx ys H6 H7 hj ⟨rfl,rfl⟩ ⟨rfl,rfl⟩
     have hgj:(w.map V.int)[j]? = some (.int (gl w j)):=by rw [List.getElem?_map,zaZ (by rw [W.ln]; omega)]; rfl
     refine⟨_,rfl,_,rfl,wa,_,_,.int (gl w j),rfl,rfl,SqL.of h5w,by rw [Int.zero_add]; exact zM hgj,rfl,_,rfl,?_⟩
     have hfl:=List.length_filter_le (fun m=>decide (gl w m≠0)) (List.range j)
     rw [List.length_range] at hfl
     rw [List.range_succ,List.filter_append,List.map_append,List.map_append]
     by_cases h0:gl w j=0
     ·refine zaq (fun h=>absurd h (by rw [h0]; simp)) (fun _=>⟨rfl,?_⟩)
      rw [List.filter_cons_of_neg (by simpa using h0),List.filter_nil,List.map_nil,List.map_nil,List.append_nil]
     ·refine zaq (fun _=>⟨_,rfl,zae (by rw [List.length_map,List.length_map]; omega),rfl,?_⟩) (fun h=>absurd (by simpa using h0) h)
      rw [List.filter_cons_of_pos (by simpa using h0),List.filter_nil,Int.zero_add]
      rfl
    ·rintro ys H6 D ⟨rfl,rfl⟩ hD
     have t7:=zb (o:=.lst ((((List.range L).filter fun m=>decide (gl w m≠0)).map fun m:Nat=>(m:Int)).map V.int)) hD
     have h7D:upd H6 D (.lst ((((List.range L).filter fun m=>decide (gl w m≠0)).map fun m:Nat=>(m:Int)).map V.int)) D=_:=zc
     generalize upd H6 D (.lst ((((List.range L).filter fun m=>decide (gl w m≠0)).map fun m:Nat=>(m:Int)).map V.int))=H7 at t7 h7D ⊢
     have s7:=s15.trans t7
     have h7w:=t7 _ _ h5w
     have h7c:=t7 _ _ h5c
     have hcl7:=hcl5.same t7
     refine⟨_,rfl,_,.inl ⟨_,SqL.of h7D,rfl⟩,?_⟩
     cases hlds:(List.range L).filter fun m=>decide (gl w m≠0) with
     | nil =>
      refine zaq (fun _=>?_) (fun h=>absurd rfl h)
      have hz:∀ x,x < L→gl w x=0:=fun x hx=>by
       have:=List.filter_eq_nil_iff.mp hlds x (List.mem_range.mpr hx)
       simpa using this
      refine⟨_,rfl,_,rfl,_,rfl,_,rfl,_,rfl,_,_,rfl,rfl,_,_,rfl,rfl,_,rfl,wa,_,rfl,SqL.of h7w,fun l hl=>?_⟩
      have ec:zcS (w.map V.int) (some (L:Int)) (some ((L:Int)+(i:Int)+1))=((w.drop L).take (i+1)).map V.int:=by
       rw [show (L:Int)+(i:Int)+1=((L+i+1:Nat):Int) by omega,zlu (by rw [List.length_map,W.ln]; omega),← List.map_drop,← List.map_take,show L+i+1 - L=i+1 by omega]
      rw [ec]
      obtain⟨d1,d2,d3⟩:=zkc W hi hz
      exact qs l _ i _ (s7.free hl) (s7.trans (zb hl)) zc d1 hi d2 d3 (zlJ (Nat.le_of_lt hi) E)
     | cons ld lds =>
      refine zaq (fun h=>absurd h (by simp)) (fun _=>?_)
      have hm:ld∈(List.range L).filter fun m=>decide (gl w m≠0):=by rw [hlds]; exact List.mem_cons_self
      (obtain⟨hm1,hm2⟩:=List.mem_filter.mp hm)
      have hld:ld < L:=List.mem_range.mp hm1
      have hg0:gl w ld≠0:=by simpa using hm2
      obtain⟨g0,g1⟩:=zcW p0 W.rg ld
      rw [hlds] at h7D
      have hat0:atI ((((ld :: lds).map fun m:Nat=>(m:Int))).map V.int) 0=some (.int (ld:Int)):=zM (j:=0) rfl
      refine⟨_,rfl,_,rfl,_,rfl,D,_,_,.int (ld:Int),rfl,rfl,SqL.of h7D,hat0,wa,_,_,.int (gl w ld),rfl,rfl,SqL.of h7w,zM (by rw [List.getElem?_map,zaZ (by rw [W.ln]; omega)]; rfl),p,gl w ld,rfl,hp,g0,g1,?_⟩
      refine⟨_,rfl,.inl ⟨rfl,_,SqL.of h7c⟩,_,rfl,D,_,_,.int (ld:Int),rfl,rfl,SqL.of h7D,hat0,_,rfl,wa,rfl,⟨_,SqL.of h7w⟩,zaC (fs:=(w.map fun x=>x*inv p (gl w ld) % p).map V.int) (SqL.of h7w) (by rw [List.length_map,List.length_map,List.length_map]) (by rw [List.length_map,W.ln]; omega) ?_ ?_⟩
      ·intro j x y R B hx hy hR
       obtain⟨n,rfl,hn⟩:=zao hx
       obtain⟨n',rfl,hn'⟩:=zao hy
       rw [List.getElem?_map,hn] at hn'
       cases hn'
       have hnr:=W.rg n (List.mem_of_getElem? hn)
       exact gY ⟨_,rfl,_,rfl,_,_,rfl,rfl,.inl ⟨by omega,by omega⟩,_,rfl,_,_,rfl,rfl,p0,hR⟩
      ·intro D2 hD2
       have t8:=zb (o:=.lst ((w.map fun x=>x*inv p (gl w ld) % p).map V.int)) hD2
       have h8D:upd H7 D2 (.lst ((w.map fun x=>x*inv p (gl w ld) % p).map V.int)) D2=some (.lst ((w.map fun x=>x*inv p (gl w ld) % p).map V.int)):=zc
       have hDc:D2≠ca:=fun e=>by rw [e,h7c] at hD2; cases hD2
       generalize upd H7 D2 (.lst ((w.map fun x=>x*inv p (gl w ld) % p).map V.int))=H8 at t8 h8D ⊢
       refine⟨by show 2≤sizeLine; omega,fun tb htb=>?_⟩
       have t9:=zb (o:=.tup [.int (ld:Int),.ref D2]) htb
       have h9t:upd H8 tb (.tup [.int (ld:Int),.ref D2]) tb=some (.tup [.int (ld:Int),.ref D2]):=zc
       have h9c:=t9 _ _ (t8 _ _ h7c)
       have s9:=(s7.trans t8).trans t9
       have hcl9:=(hcl7.same t8).same t9
       have h9D:=t9 _ _ h8D
       generalize upd H8 tb (.tup [.int (ld:Int),.ref D2])=H9 at t9 h9t h9c s9 hcl9 h9D ⊢
       have hln:=E.ln
       refine⟨ca,_,_,rfl,rfl,h9c,by rw [List.length_map,hcll,hln]; omega,cs++[tb],_,_,_,_,_,_,_,_,rfl,zW s9 hca,by rw [zc,List.map_append]; rfl,Paired.snoc (hcl9.put h9c) ⟨D2,?_,?_,hDc⟩,zgH hp E hi W hld hg0⟩
       ·rw [zl (fun e=>by rw [e,h9c] at h9t; cases h9t)]
        exact h9t
       ·rw [zl hDc]
        exact h9D
  ·rintro σ H1 ⟨cs,cl,e4,e5,e6,e7,e8,e9,e10,rfl,s1,h1c,hcl,E⟩
   exact qn H1 s1 (zkb E)
def tK (t:Tm):List Key:=[Sum.inl (t.1:Int),Sum.inl (t.2:Int)]
theorem zkM {t u:Tm} (h:tK t=tK u):t=u:=by
 unfold tK at h
 injection h with h1 h2
 injection h2 with h2 _
 have e1:(t.1:Int)=u.1:=Sum.inl.inj h1
 have e2:(t.2:Int)=u.2:=Sum.inl.inj h2
 exact Prod.ext (by omega) (by omega)
theorem zkN {ts:List Tm} (h:ts.Nodup):(ts.map tK).Nodup:=by
 rw [List.nodup_iff_pairwise_ne,List.pairwise_map]
 exact List.Pairwise.imp (fun hne e=>hne (zkM e)) h
theorem znb {H:Hp} {bs:List Addr} {ts:List Tm} (h:PtB H bs (ts.map tI)):KyA H (bs.map V.ref) (ts.map tK):=by
 induction ts generalizing bs with
 | nil=>cases h; exact .nil
 | cons t ts ih =>
  cases h with
  | cons h1 h2=>exact .cons ⟨_,rfl,h1⟩ (ih h2)
def zfZ (K:PySem.W.Frag):Sp:=fun vs H Q _=>∃ (p:Int) (tl pl:Addr) (bs cs:List Addr) (ts:List Tm) (pts:List (Int×Int×Nat)),vs = [.int p,.ref tl,.ref pl]∧p∈zJ∧H tl=some (.lst (bs.map V.ref))∧PtB H bs (ts.map tI)∧ts.Nodup∧ts.length=(cos pts).length+1∧ts.length≤200∧(∀ t∈ts,t.1≤400∧t.2≤400)∧H pl=some (.lst (cs.map V.ref))∧W3 H cs pts∧zfo p pts∧pts.length≤1000 ∧
 ∀ (D:Addr) (c:List Int) (m:Nat) (H':Hp),H D=none→zw H H'→H' D=some (.dT ((ts.map tK).zip (c.map V.int)))→IsP p (m+1) c→m < ts.length→gl c m=1→Dep p (cos pts).length (ts.map (zaG p pts)) c→zlI p (cos pts).length m (ts.map (zaG p pts))→Q (.ref D) H'
theorem zdq:FnScope ["p","terms","points","relation"] ["p","terms","points"] (zh zbl):=⟨rfl,rfl,rfl,by decide +kernel,rfl,by decide +kernel,by decide +kernel⟩
theorem zf0 {fd:FuncData} (T:Txt K mg t) (F:Fun K "first_sum" "first_sum" zbl t.first_sum fd):FnOk P w K mg base CX0 5 t.first_sum fd ["p","terms","points"] (zfZ K):=by
 obtain⟨fd_first_relation,F_first_relation,b_first_relation⟩:=T.f_first_relation
 have G_first_relation:=zdp (P:=P) (w:=w) (base:=base) T F_first_relation
 obtain⟨fd_vectors_of,F_vectors_of,b_vectors_of⟩:=T.f_vectors_of
 have G_vectors_of:=ze1 (P:=P) (w:=w) (base:=base) T F_vectors_of
 refine F.ok zdq (fun vs H Q E h=>?_) (fun cdv A outer s H vs Q E hr h=>?_)
 ·obtain⟨p,tl,pl,bs,cs,ts,pts,rfl,_⟩:=h
  rfl
 ·obtain⟨p,tl,pl,bs,cs,ts,pts,rfl,hp,htl,hpt,hnd,hlen,hl2,hts,hpl,hcs,hg,hn,q⟩:=h
  have hu:(A.deeper (envOfC (Str.ofString "first_sum") (zh zbl) s.heap.objs.size t.first_sum cdv)).units+20 < cLine:=by have:=hr.units; omega
  refine⟨_,(@ze _ _ _ _ _ (@zm _ _ (3) _ _ _ _ zdq.nd rfl (Or.inl rfl) (@zp _ _ _ _ _ _ _ _ _ _ _ _ _ _ _ _ G_first_relation (hr.mono (by decide)) rfl T.m_first_relation F_first_relation.kp b_first_relation .nil (@zN _) (@za _ _ _ _ _ (@pvx _ 0 _ _ rfl) (@ya _ _ _ (@zp _ _ _ _ _ _ _ _ _ _ _ _ _ _ _ _ G_vectors_of (hr.mono (by decide)) rfl T.m_vectors_of F_vectors_of.kp b_vectors_of .nil (@zN _) (@za _ _ _ _ _ (@pvx _ 0 _ _ rfl) (@za _ _ _ _ _ (@pvx _ 1 _ _ rfl) (@ya _ _ _ (@pvx _ 2 _ _ rfl) (by rfl)) (by rfl)) (by rfl)) (by decide) (by rfl) (by rfl)) (by rfl)) (by rfl)) (by decide) (by rfl) (by rfl)) (by rfl) (by trivial)) (by exact (@zk _ _ _ (@zz _ _ _ _ (zhy (Nat.lt_of_le_of_lt (Nat.add_le_add_left (show 2≤20 by decide) _) hu) rfl rfl T.dict_ rfl T.zip_ (@za _ _ _ _ _ (@pvx _ 1 _ _ rfl) (@ya _ _ _ (@pvx _ 3 _ _ rfl) (by rfl)) (by rfl))))))),?_⟩
  have hsl:=sizeLine_eq
  have rp:=zV hp
  have hne:ts≠[]:=fun e=>by rw [e] at hlen; simp at hlen
  have hv:∀ v∈ts.map (zaG p pts),v.length=(cos pts).length∧∀ c∈v,0≤c∧c < p:=fun v hv=>by
   obtain⟨t,_,rfl⟩:=List.mem_map.mp hv
   exact⟨zie p pts t,zlK (by omega)⟩
  refine⟨_,rfl,_,rfl,_,rfl,_,rfl,p,tl,pl,bs,cs,ts,pts,rfl,by omega,by omega,htl,hpt,hne,hl2,hts,hpl,hcs,hg,by omega,hn,fun vl vls H1 hvl s1 h1 g1=>?_⟩
  refine⟨p,vl,vls,ts.map (zaG p pts),(cos pts).length,rfl,h1,g1,by simpa using hne,by rw [List.length_map]; exact hl2,by omega,hv,hp,fun H2 s2 hI=>?_,fun l c m H2 hl s2 h2 hc hm h1' hD hI=>?_⟩
  ·have:=zks hp hv hI
   rw [List.length_map] at this
   omega
  ·rw [List.length_map] at hm
   have s12:=s1.trans s2
   exact⟨_,rfl,_,rfl,tl,l,_,_,_,rfl,SqL.of (s12 _ _ htl),SqL.of h2,znb (hpt.same s12),zkN hnd,fun D H3 hD3 s3 h3=>q D c m H3 (s12.free hD3) (s12.trans s3) h3 hc hm h1' hD hI⟩
def zeJ (K:PySem.W.Frag):Sp:=fun vs H Q _=>∃ (k many:Nat),vs = [.int (k:Int),.int (many:Int)]∧2≤k∧k≤100∧many≤300 ∧
 ∀ (l:Addr) (us:List Addr) (S:Nat) (H':Hp),H l=none→zw H H'→H' l=some (.lst (us.map V.ref))→PtB H' us (((zO k S).take many).map tI)→S≤many→many≤(zO k S).length→Q (.ref l) H'
theorem zf1 (k s:Nat):(tms k s).length=s / (k - 1)+1:=by unfold tms; rw [List.length_map,List.length_range]
theorem zlU {H:Hp} {us:List Addr} {q:List (Int×Int)} (h:PtB H us q) (m:Nat):PtB H (us.take m) (q.take m):=by
 induction h generalizing m with
 | nil=>simp; exact .nil
 | cons h1 _ ih =>
  cases m with
  | zero=>exact .nil
  | succ m=>exact .cons h1 (ih m)
theorem zf2 {H:Hp} {F:Addr} {xs:List V} {o:HO} {us:List Addr} {q:List (Int×Int)} (h:PtB H us q) (hF:H F=some (.lst xs)):PtB (upd H F o) us q:=Paired.mono (fun b v z=>by rw [zl (fun e=>by rw [e,hF] at z; cases z)]; exact z) h
theorem zkO {H:Hp} {us vs:List Addr} {q r:List (Int×Int)} (h1:PtB H us q) (h2:PtB H vs r):PtB H (us++vs) (q++r):=by
 induction h1 with
 | nil=>exact h2
 | cons a _ ih=>exact .cons a ih
theorem zaK:FnScope ["k","many","terms","size"] ["k","many"] (zh zaS):=⟨rfl,rfl,rfl,by decide +kernel,rfl,by decide +kernel,by decide +kernel⟩
theorem zeK {fd:FuncData} (T:Txt K mg t) (F:Fun K "first_terms" "first_terms" zaS t.first_terms fd):FnOk P w K mg base CX0 1 t.first_terms fd ["k","many"] (zeJ K):=by
 refine F.ok zaK (fun vs H Q E h=>?_) (fun cdv A outer s H vs Q E hr h=>?_)
 ·obtain⟨k,many,rfl,_⟩:=h
  rfl
 ·obtain⟨k,many,rfl,k2,k100,hm,q⟩:=h
  refine⟨_,(@ze _ _ _ _ _ (@zm _ _ (2) _ _ _ _ zaK.nd rfl (Or.inl rfl) (@zY _ _ _ _ (@zd _)) (by rfl) (by trivial)) (by exact (@ze _ _ _ _ _ (@zm _ _ (3) _ _ _ _ zaK.nd rfl (Or.inr rfl) (@zf _ _ _ _) (by rfl) (by trivial)) (by exact (@ze _ _ _ _ _ (@zeg _ _ _ _ _ _ PassesOwn.never (@zC _ _ _ _ _ _ _ _ (@zei _) (@zn _ _ _ _ _ _ _ _ _ (@zx _) (by rfl) T.len_ boot_len (@ya _ _ _ (@pvx _ 2 _ _ rfl) (by rfl)) (by decide) (by decide) (by rfl) (by rfl)) (@pvx _ 1 _ _ rfl) (zL _)) (@ze _ _ _ _ _ (@zg7 _ _ (2) _ _ _ _ _ _ zaK.nd rfl (Or.inl rfl) (@zA _ _ _ _ _ _ _ _ _ _ _ _ _ (CompSc.of (N':=["j","size","k"]) (ix:=[none,some 3,some 0]) (zh zaS) ["k","many","terms","size"] rfl rfl (by decide +kernel)) rfl (@zT _ _ rfl) (@zH _ _ _ _ _ _ rfl T.range_ (@ya _ _ _ (@zi _ _ _ _ _ _ _ _ (@zG _) (@zi _ _ _ _ _ _ _ _ (@zaV _) (@pvx _ 3 _ _ rfl) (@zi _ _ _ _ _ _ _ _ (@zR _) (@pvx _ 0 _ _ rfl) (@zf _ _ _ _))) (@zf _ _ _ _)) (by rfl)) (by rfl)) (fun _ _ _ _=>(@zg _ _ (0) _ (show (["j","size","k"]:List Str).Nodup by decide +kernel) rfl (Or.inl rfl) (by trivial))) (fun _ _ _ _=>(@zr _)) (fun _ _ _ _=>(@za4 _ _ _ _ _ (@za _ _ _ _ _ (@zi _ _ _ _ _ _ _ _ (@zR _) (@pvx _ 1 _ _ rfl) (@zi _ _ _ _ _ _ _ _ (@zD _) (@zi _ _ _ _ _ _ _ _ (@zR _) (@pvx _ 2 _ _ rfl) (@zf _ _ _ _)) (@pvx _ 0 _ _ rfl))) (@ya _ _ _ (@pvx _ 0 _ _ rfl) (by rfl)) (by rfl)))) (by intro _; rfl)) zkk (by trivial)) (by exact (@zk _ _ _ (@zg7 _ _ (3) _ _ _ _ _ _ zaK.nd rfl (Or.inr rfl) (@zf _ _ _ _) zk6 (by trivial)))))) (by exact (@zk _ _ _ (@zz _ _ _ _ (@zbO _ _ _ _ _ _ _ _ _ _ zcA (@pvx _ 2 _ _ rfl) (@zc3 _) (@zb1 _ _ _ (@pvx _ 1 _ _ rfl))))))))))),?_⟩
  have hsl:=sizeLine_eq
  refine⟨Nat.zero_le _,fun TL hTL=>?_⟩
  refine⟨fun μ σ H'=>∃ (S:Nat) (us:List Addr),μ=many+1 - S∧S≤many∧σ = [some (.int (k:Int)),some (.int (many:Int)),some (.ref TL),some (.int (S:Int))]∧zw H H'∧H' TL=some (.lst (us.map V.ref))∧PtB H' us ((zO k S).map tI),⟨many+1,0,[],rfl,Nat.zero_le _,rfl,zb hTL,zc,.nil⟩,?_⟩
  rintro μ σ H1 ⟨S,us,rfl,hS,rfl,s1,h1,hus⟩
  have hul:us.length=(zO k S).length:=by rw [Paired.length hus,List.length_map]
  have hSl:=zfk k S
  refine⟨_,rfl,TL,_,rfl,.inl (SqL.of h1),_,rfl,_,_,rfl,rfl,_,rfl,?_⟩
  rw [List.length_map,hul]
  refine zaq (fun hlt=>?_) (fun hge=>?_)
  ·have hlt:=of_decide_eq_true hlt
   have hlt:(zO k S).length < many:=by omega
   refine⟨fun σ' H'=>∃ m',m' < many+1 - S∧∃ (S:Nat) (us:List Addr),m'=many+1 - S∧S≤many∧σ' = [some (.int (k:Int)),some (.int (many:Int)),some (.ref TL),some (.int (S:Int))]∧zw H H'∧H' TL=some (.lst (us.map V.ref))∧PtB H' us ((zO k S).map tI),fun _ _ z=>z,?_⟩
   have k1:0 < k - 1:=by omega
   have ek:((k:Int) - 1)=((k - 1:Nat):Int):=by omega
   have eN:((S:Int) / ((k:Int) - 1)+1)=((S / (k - 1)+1:Nat):Int):=by
    rw [ek]
    exact congrArg (· + 1) (Int.natCast_ediv S (k - 1)).symm
   have hq:S / (k - 1)≤S:=Nat.div_le_self _ _
   refine⟨_,rfl,_,rfl,_,rfl,_,_,rfl,rfl,_,_,rfl,rfl,⟨by omega,by omega⟩,_,_,rfl,rfl,?_⟩
   refine⟨(S:Int) / ((k:Int) - 1)+1,rfl,by rw [eN]; exact Int.le_trans (by decide) (Int.natCast_nonneg _),by rw [eN]; exact Int.lt_of_le_of_lt (Int.ofNat_le.mpr (show S / (k - 1)+1≤301 from Nat.succ_le_succ (Nat.le_trans hq (by omega)))) (by decide),?_⟩
   rw [eN,Int.toNat_natCast]
   refine zI (n:=S / (k - 1)+1) (fun m ys H'=>zw H1 H'∧∃ vs:List Addr,ys=vs.map V.ref∧PtB H' vs (((tms k S).take m).map tI)) ⟨fun _ _ e=>e,[],rfl,.nil⟩ (fun i ys H' hi _=>hi) (fun ys H' _=>Nat.le_refl _) ?_ ?_
   ·rintro j x ys H2 H3 hj ⟨s2,vs,rfl,hvs⟩ ⟨rfl,rfl⟩
    rw [show ((0:Int)+(j:Int))=(j:Int) from Int.zero_add _]
    have hjs:(k - 1)*j≤S:=by
     have:=(Nat.le_div_iff_mul_le k1).mp (show j≤S / (k - 1) by omega)
     rw [Nat.mul_comm]; exact this
    have hvl:vs.length=j:=by rw [Paired.length hvs,List.length_map,List.length_take,zf1]; omega
    have eV:(S:Int) - ((k:Int) - 1)*(j:Int)=((S - (k - 1)*j:Nat):Int):=by
     rw [ek,Int.natCast_sub hjs,Int.natCast_mul]
    refine gY ?_
    refine⟨_,rfl,_,rfl,_,_,rfl,rfl,_,rfl,_,_,rfl,rfl,.inl ⟨by omega,by omega⟩,_,_,rfl,rfl,_,rfl,by show 2≤sizeLine; omega,fun T hT=>?_⟩
    have htm:(tms k S)[j]? = some (S - (k - 1)*j,j):=by unfold tms; rw [List.getElem?_map,List.getElem?_range hj]; rfl
    refine⟨by rw [List.length_map]; omega,s2.trans (zb hT),vs++[T],by simp,?_⟩
    rw [take_snoc htm,List.map_append]
    refine Paired.snoc (hvs.same (zb hT)) ?_
    rw [zc]
    show some (HO.tup [V.int ((S:Int) - ((k:Int) - 1)*(j:Int)),V.int (j:Int)])=_
    rw [eV]
    rfl
   ·rintro ys H2 D ⟨s2,vs,rfl,hvs⟩ hD
    rw [List.take_of_length_le (by rw [zf1]; exact Nat.le_refl _)] at hvs
    have sD:=s2.trans (zb (o:=.lst (vs.map V.ref)) hD)
    have hvl:vs.length=S / (k - 1)+1:=by rw [Paired.length hvs,List.length_map,zf1]
    refine⟨TL,D,_,_,rfl,rfl,sD _ _ h1,zc,by rw [List.length_map,List.length_map]; omega,?_⟩
    refine⟨_,rfl,_,_,rfl,rfl,?_⟩
    refine⟨many+1 - (S+1),by omega,S+1,us++vs,rfl,by omega,rfl,zW (s1.trans sD) hTL,by rw [zc,List.map_append],?_⟩
    rw [zbv,List.map_append]
    have a1:=zf2 (o:=.lst (us.map V.ref++vs.map V.ref)) (hus.same sD) (sD _ _ h1)
    have a2:=zf2 (o:=.lst (us.map V.ref++vs.map V.ref)) (hvs.same (zb (o:=.lst (vs.map V.ref)) hD)) (sD _ _ h1)
    exact zkO a1 a2
  ·have hge:¬ (((zO k S).length:Int) < (many:Int)):=fun h=>hge (decide_eq_true h)
   refine⟨_,rfl,_,rfl,_,rfl,TL,_,rfl,SqL.of h1,fun z hz=>?_⟩
   have ec:zcS (us.map V.ref) none (some (many:Int))=(us.take many).map V.ref:=by
    unfold zcS
    rw [HT.sIx_nat,HT.sIx_none,List.drop_zero,Nat.sub_zero,List.length_map,Nat.min_eq_left (by omega),List.map_take]
   rw [ec]
   refine q z (us.take many) S _ (s1.free hz) (s1.trans (zb hz)) zc ?_ hS (by omega)
   have:=(zlU hus many).same (zb (o:=.lst ((us.take many).map V.ref)) hz)
   rw [← List.map_take] at this
   exact this
theorem gY3 {K:PySem.W.Frag} {i j l:Nat} {T:Addr} {x y z:V} {σ:L2.St} {H:Hp} {A B:L2.St→Hp→Prop} (hT:SqT K H T [x,y,z]) (h:A (((σ.set i (some x)).set j (some y)).set l (some z)) H) :
  zir K 3 (zdD (za1 i) (zdD (za1 j) (zdD (za1 l) zjr))) (.ref T) σ H (fun σ2 H2=>zle σ2 H2 fun b H3=>if b=true then A σ2 H3 else B σ2 H3):=by
 refine⟨T,_,rfl,hT,rfl,x,_,rfl,y,_,rfl,z,_,rfl,rfl,?_⟩
 show (if true=true then A (((σ.set i (some x)).set j (some y)).set l (some z)) H else B (((σ.set i (some x)).set j (some y)).set l (some z)) H)
 rw [if_pos rfl]
 exact h
theorem zgS (w:Nat):(w:Int)*((w:Int)+1) / 2=(tri w:Int):=by
 unfold tri
 rw [show ((w:Int)*((w:Int)+1))=((w*(w+1):Nat):Int) by rw [Int.natCast_mul]; rfl]
 exact (Int.natCast_ediv _ 2).symm
theorem zdr {α:Type} (f:α→Nat):∀ l:List α,(l.map fun q=>(f q:Int)).sum=((l.map f).sum:Int)
 | []=>rfl
 | a :: l=>by
  rw [List.map_cons,List.sum_cons,List.map_cons,List.sum_cons,zdr f l]
  omega
theorem zil:∀ {ts:List Tm} {c:List Int} {t:Tm},(zcV ((ts.map tK).zip (c.map V.int)) (tK t)).getD (.int 0) = .int (gof ts c t)
 | [],_,_=>rfl
 | _ :: _,[],_=>rfl
 | a :: ts,b :: c,t=>by
  have ih:=zil (ts:=ts) (c:=c) (t:=t)
  unfold zcV gof at ih ⊢
  rw [List.map_cons,List.map_cons,List.zip_cons_cons,List.zip_cons_cons,List.lookup_cons]
  by_cases e:t=a
  ·subst e
   rw [List.find?_cons_of_pos (by simp),beq_self_eq_true]
   rfl
  ·rw [List.find?_cons_of_neg (by simp; exact fun h=>e (zkM h).symm),show (t == a)=false by simpa using e]
   exact ih
theorem zf3 {k:Nat} (hk:2≤k) (t:Tm):(t.1:Int)+((k:Int) - 1)*(t.2:Int)=(tz k t:Int):=by
 unfold tz
 rw [show ((k:Int) - 1)=((k - 1:Nat):Int) by omega,Int.natCast_add,Int.natCast_mul]
theorem zi5 {k s j:Nat} {g:Tm→Int} (h:j < s / (k - 1)+1):(zat k s g).take (j+1)=(zat k s g).take j++[(List.range (s - (k - 1)*j+1)).map fun i=>g (i,j)]:=take_snoc (zeF h)
def zeL (K:PySem.W.Frag):Sp:=fun vs H Q _=>∃ (p:Int) (k:Nat) (pl:Addr) (cs:List Addr) (pts:List (Int×Int×Nat)),vs = [.int p,.int (k:Int),.ref pl]∧p∈zJ∧2≤k∧k≤100∧H pl=some (.lst (cs.map V.ref))∧W3 H cs pts∧zfo p pts∧(cos pts).length≤199∧pts.length≤1000 ∧
 ∀ (z r:Addr) (ls:List Addr) (size:Nat) (g:Tm→Int) (H':Hp),H z=none→zw H H'→H' z=some (.tup [.int (size:Int),.ref r])→H' r=some (.tup (ls.map V.ref))→zbR H' ls (zat k size g)→Lst p k pts size g→size≤200→Q (.ref z) H'
theorem zaL:FnScope ["p","k","points","asked","found","size","lines"] ["p","k","points"] (zh zai):=⟨rfl,rfl,rfl,by decide +kernel,rfl,by decide +kernel,by decide +kernel⟩
theorem zeM {fd:FuncData} (T:Txt K mg t) (F:Fun K "least_curve" "least_curve" zai t.least_curve fd):FnOk P w K mg base CX0 6 t.least_curve fd ["p","k","points"] (zeL K):=by
 obtain⟨fd_first_sum,F_first_sum,b_first_sum⟩:=T.f_first_sum
 have G_first_sum:=zf0 (P:=P) (w:=w) (base:=base) T F_first_sum
 obtain⟨fd_first_terms,F_first_terms,b_first_terms⟩:=T.f_first_terms
 have G_first_terms:=zeK (P:=P) (w:=w) (base:=base) T F_first_terms
 refine F.ok zaL (fun vs H Q E h=>?_) (fun cdv A outer s H vs Q E hr h=>?_)
 ·obtain⟨p,k,pl,cs,pts,rfl,_⟩:=h
  rfl
 ·obtain⟨p,k,pl,cs,pts,rfl,hp,k2,k100,hpl,hcs,hg,hL,hn,q⟩:=h
  have hu:(A.deeper (envOfC (Str.ofString "least_curve") (zh zai) s.heap.objs.size t.least_curve cdv)).units+20 < cLine:=by have:=hr.units; omega
  refine⟨_,(@ze _ _ _ _ _ (@zm _ _ (3) _ _ _ _ zaL.nd rfl (Or.inl rfl) (@zn _ _ _ _ _ _ _ _ _ (@zbQ _ rfl) (by rfl) T.sum_ boot_sum (@ya _ _ _ (@zA _ _ _ _ _ _ _ _ _ _ _ _ _ (CompSc.of (N':=["x","y","weight"]) (ix:=[none,none,none]) (zh zai) ["p","k","points","asked","found","size","lines"] rfl rfl (by decide +kernel)) rfl (@zaz _ _ _ _ (@zt _ _ _ rfl (@zt _ _ _ rfl (@zt _ _ _ rfl (@zah _))))) (@z9 _ _ _ _ (@pvx _ 2 _ _ rfl)) (fun _ _ _ _=>(@zac _ (K) _ _ _ (3) _ rfl rfl (@zj _ _ _ _ _ (@zg _ _ (0) _ (show (["x","y","weight"]:List Str).Nodup by decide +kernel) rfl (Or.inl rfl) (by trivial)) (@zj _ _ _ _ _ (@zg _ _ (1) _ (show (["x","y","weight"]:List Str).Nodup by decide +kernel) rfl (Or.inl rfl) (by trivial)) (@zj _ _ _ _ _ (@zg _ _ (2) _ (show (["x","y","weight"]:List Str).Nodup by decide +kernel) rfl (Or.inl rfl) (by trivial)) (@zB _) (by rfl)) (by rfl)) (by rfl)) (by rfl) (by rfl))) (fun _ _ _ _=>(@zr _)) (fun _ _ _ _=>(@zi _ _ _ _ _ _ _ _ (@zaV _) (@zi _ _ _ _ _ _ _ _ (@zD _) (@pvx _ 2 _ _ rfl) (@zi _ _ _ _ _ _ _ _ (@zG _) (@pvx _ 2 _ _ rfl) (@zf _ _ _ _))) (@zf _ _ _ _))) (by intro _; rfl)) (by rfl)) (by decide) (by decide) (by rfl) (by rfl)) (by rfl) (by trivial)) (by exact (@ze _ _ _ _ _ (@zm _ _ (4) _ _ _ _ zaL.nd rfl (Or.inr rfl) (@zp _ _ _ _ _ _ _ _ _ _ _ _ _ _ _ _ G_first_sum (hr.mono (by decide)) rfl T.m_first_sum F_first_sum.kp b_first_sum .nil (@zN _) (@za _ _ _ _ _ (@pvx _ 0 _ _ rfl) (@za _ _ _ _ _ (@zp _ _ _ _ _ _ _ _ _ _ _ _ _ _ _ _ G_first_terms (hr.mono (by decide)) rfl T.m_first_terms F_first_terms.kp b_first_terms .nil (@zN _) (@za _ _ _ _ _ (@pvx _ 1 _ _ rfl) (@ya _ _ _ (@zi _ _ _ _ _ _ _ _ (@zG _) (@pvx _ 3 _ _ rfl) (@zf _ _ _ _)) (by rfl)) (by rfl)) (by decide) (by rfl) (by rfl)) (@ya _ _ _ (@pvx _ 2 _ _ rfl) (by rfl)) (by rfl)) (by rfl)) (by decide) (by rfl) (by rfl)) (by rfl) (by trivial)) (by exact (@ze _ _ _ _ _ (@zm _ _ (5) _ _ _ _ zaL.nd rfl (Or.inr rfl) (@zn _ _ _ _ _ _ _ _ _ (@zbS _ rfl) (by rfl) T.max_ boot_max (@ya _ _ _ (@zA _ _ _ _ _ _ _ _ _ _ _ _ _ (CompSc.of (N':=["i","j","k"]) (ix:=[none,none,some 1]) (zh zai) ["p","k","points","asked","found","size","lines"] rfl rfl (by decide +kernel)) rfl (@zaz _ _ _ _ (@zt _ _ _ rfl (@zt _ _ _ rfl (@zah _)))) (@znN _ _ _ _ (@pvx _ 4 _ _ rfl)) (fun _ _ _ _=>(@zac _ (K) _ _ _ (2) _ rfl rfl (@zj _ _ _ _ _ (@zg _ _ (0) _ (show (["i","j","k"]:List Str).Nodup by decide +kernel) rfl (Or.inl rfl) (by trivial)) (@zj _ _ _ _ _ (@zg _ _ (1) _ (show (["i","j","k"]:List Str).Nodup by decide +kernel) rfl (Or.inl rfl) (by trivial)) (@zB _) (by rfl)) (by rfl)) (by rfl) (by rfl))) (fun _ _ _ _=>(@zr _)) (fun _ _ _ _=>(@zi _ _ _ _ _ _ _ _ (@zG _) (@pvx _ 0 _ _ rfl) (@zi _ _ _ _ _ _ _ _ (@zD _) (@zi _ _ _ _ _ _ _ _ (@zR _) (@pvx _ 2 _ _ rfl) (@zf _ _ _ _)) (@pvx _ 1 _ _ rfl)))) (by intro _; rfl)) (by rfl)) (by decide) (by decide) (by rfl) (by rfl)) (by rfl) (by trivial)) (by exact (@ze _ _ _ _ _ (@zaY _ _ _ _ _ _ _ _ _ _ _ _ _ (6) _ _ _ zaL.nd rfl (Or.inl rfl) (CompSc.of (N':=["j","size","k","found"]) (ix:=[none,some 5,some 1,some 4]) (zh zai) ["p","k","points","asked","found","size","lines"] rfl rfl (by decide +kernel)) rfl (@zT _ _ rfl) (@zH _ _ _ _ _ _ rfl T.range_ (@ya _ _ _ (@zi _ _ _ _ _ _ _ _ (@zG _) (@zi _ _ _ _ _ _ _ _ (@zaV _) (@pvx _ 5 _ _ rfl) (@zi _ _ _ _ _ _ _ _ (@zR _) (@pvx _ 1 _ _ rfl) (@zf _ _ _ _))) (@zf _ _ _ _)) (by rfl)) (by rfl)) (fun _ _ _ _=>(@zg _ _ (0) _ (show (["j","size","k","found"]:List Str).Nodup by decide +kernel) rfl (Or.inr rfl) (by trivial))) (fun _ _ _ _=>(@zr _)) (fun _ _ _ _=>(@zam _ _ _ _ _ _ _ _ _ (zcq (K:=K) rfl) (by rfl) T.tuple_ boot_tuple (@ya _ _ _ (@zA _ _ _ _ _ _ _ _ _ _ _ _ _ (CompSc.of (N':=["i","found","j"]) (ix:=[none,some 3,some 0]) ({ kind:=.function,names:=[(".0",.local),("j",.cell),("tuple",.globalImplicit),("range",.globalImplicit),("found",.cell),("k",.cell),("size",.cell)],isGenerator:=false,isCoroutine:=false }) ["j","size","k","found"] (by with_unfolding_all rfl) rfl (by decide +kernel)) rfl (@zT _ _ rfl) (@zH _ _ _ _ _ _ rfl T.range_ (@ya _ _ _ (@zi _ _ _ _ _ _ _ _ (@zG _) (@zi _ _ _ _ _ _ _ _ (@zR _) (@pvx _ 1 _ _ rfl) (@zi _ _ _ _ _ _ _ _ (@zD _) (@zi _ _ _ _ _ _ _ _ (@zR _) (@pvx _ 2 _ _ rfl) (@zf _ _ _ _)) (@pvx _ 0 _ _ rfl))) (@zf _ _ _ _)) (by rfl)) (by rfl)) (fun _ _ _ _=>(@zg _ _ (0) _ (show (["i","found","j"]:List Str).Nodup by decide +kernel) rfl (Or.inl rfl) (by trivial))) (fun _ _ _ _=>(@zr _)) (fun _ _ _ _=>(@zj5 _ _ _ _ _ _ _ _ _ (Nat.lt_of_le_of_lt (Nat.add_le_add_left (show 1≤20 by decide) _) hu) (@pvx _ 1 _ _ rfl) (@za4 _ _ _ _ _ (@za _ _ _ _ _ (@pvx _ 0 _ _ rfl) (@ya _ _ _ (@pvx _ 2 _ _ rfl) (by rfl)) (by rfl))) (@zf _ _ _ _) ⟨rfl,rfl,rfl,rfl⟩)) (by intro _; rfl)) (by rfl)) (by decide) (by decide) (by rfl) (by rfl))) (by rfl) (by intro _; rfl) (by trivial)) (by exact (@zk _ _ _ (@zz _ _ _ _ (@za4 _ _ _ _ _ (@za _ _ _ _ _ (@pvx _ 5 _ _ rfl) (@ya _ _ _ (@zam _ _ _ _ _ _ _ _ _ (@zaQ _) (by rfl) T.tuple_ boot_tuple (@ya _ _ _ (@pvx _ 6 _ _ rfl) (by rfl)) (by decide) (by decide) (by rfl) (by rfl)) (by rfl)) (by rfl))))))))))))),?_⟩
  have hsl:=sizeLine_eq
  have rp:=zV hp
  have hcl:=Paired.length hcs
  refine⟨_,rfl,pl,rfl,⟨_,SqL.of hpl⟩,zaC (fs:=(pts.map fun q=>(tri q.2.2:Int)).map V.int) (SqL.of hpl) (by rw [List.length_map,List.length_map,List.length_map,hcl]) (by rw [List.length_map]; omega) (fun i x y R B hx hy hR=>?_) (fun D0 hD0=>?_)⟩
  ·obtain⟨b,rfl,hb⟩:=zU hx
   obtain⟨⟨px,py,pw⟩,hq,hqb⟩:=Paired.get hcs hb
   have hw9:=(hg _ (List.mem_of_getElem? hq)).2.2.2.2.2
   rw [List.getElem?_map,List.getElem?_map,hq] at hy
   have hy:V.int (tri pw:Int)=y:=by simpa using hy
   subst hy
   refine gY3 (SqT.of hqb) ?_
   have hw9:pw≤9:=hw9
   refine⟨_,rfl,_,rfl,_,_,rfl,rfl,_,_,rfl,rfl,.inl ⟨by omega,by omega⟩,_,_,rfl,rfl,⟨by decide,by decide⟩,?_⟩
   show R (.int ((pw:Int)*((pw:Int)+1) / 2)) _
   rw [zgS]
   exact hR
  refine⟨D0,pts.map fun q=>(tri q.2.2:Int),rfl,SqL.of zc,?_⟩
  rw [zdr,show (pts.map fun q=>tri q.2.2).sum=zbU pts from rfl]
  have s0:=zb (o:=.lst ((pts.map fun q=>(tri q.2.2:Int)).map V.int)) hD0
  generalize upd H D0 (.lst ((pts.map fun q=>(tri q.2.2:Int)).map V.int))=H0 at s0 ⊢
  have hcn:=zcI pts
  refine⟨_,rfl,_,rfl,_,rfl,_,_,rfl,rfl,k,zbU pts+1,rfl,k2,k100,by omega,fun tl us S H1 htl s1 h1 hpt hS1 hS2=>?_⟩
  have s01:=s0.trans s1
  have tin:∀ t∈(zO k S).take (zbU pts+1),tz k t < S:=fun t ht=>(zas k2).mp (List.mem_of_mem_take ht)
  have tle:∀ t:Tm,t.1≤tz k t∧t.2≤tz k t:=fun t=>⟨by unfold tz; omega,by
   unfold tz
   have:1*t.2≤(k - 1)*t.2:=Nat.mul_le_mul_right _ (by omega)
   omega⟩
  have hnd:((zO k S).take (zbU pts+1)).Nodup:=List.Sublist.nodup (List.take_sublist _ _) (zax k2 S)
  have hlen:((zO k S).take (zbU pts+1)).length=zbU pts+1:=by rw [List.length_take]; omega
  refine⟨_,rfl,p,tl,pl,us,cs,(zO k S).take (zbU pts+1),pts,rfl,hp,h1,hpt,hnd,by rw [hlen,hcn],by omega,fun t ht=>?_,s01 _ _ hpl,hcs.same s01,hg,hn,fun D c m H2 hD s2 h2 hc hm h1' hDp hI=>?_⟩
  ·have:=tin t ht
   have:=tle t
   omega
  rw [hlen] at hm
  have s02:=s01.trans s2
  have hDn:H D=none:=s01.free hD
  obtain⟨top,htop⟩:∃ top,((zO k S).take (zbU pts+1))[m]? = some top:=⟨((zO k S).take (zbU pts+1))[m]'(by omega),List.getElem?_eq_getElem _⟩
  have LS:=zm8 (p:=p) (by omega) k2 (pts:=pts) (S:=S) (ts:=(zO k S).take (zbU pts+1)) (by rw [hcn]) hc htop h1' hDp hI
  have hso:((zO k S).take (zbU pts+1)).Pairwise fun a b=>tz k a≤tz k b:=List.Pairwise.sublist (List.take_sublist _ _) (zb8 k2 S)
  have htopS:=tin top (List.mem_of_getElem? htop)
  generalize (zO k S).take (zbU pts+1)=ts at *
  have hcl2:c.length=m+1:=hc.1
  have hzl:((ts.map tK).zip (c.map V.int)).length=m+1:=by rw [List.length_zip,List.length_map,List.length_map]; omega
  refine⟨_,rfl,D,_,rfl,h2,fun o=>?_⟩
  have s3:zw H (upd H2 D (.frz o (.dT ((ts.map tK).zip (c.map V.int))))):=zW s02 hDn
  have h3:upd H2 D (.frz o (.dT ((ts.map tK).zip (c.map V.int)))) D=some (.frz o (.dT ((ts.map tK).zip (c.map V.int)))):=zc
  generalize upd H2 D (.frz o (.dT ((ts.map tK).zip (c.map V.int))))=H3 at s3 h3 ⊢
  refine zI (n:=m+1) (fun i ys H'=>H'=H3∧ys=((ts.take i).map fun t=>(tz k t:Int)).map V.int) ⟨rfl,rfl⟩ ?_ ?_ ?_ ?_
  ·rintro i ys H' hi ⟨rfl,_⟩
   exact⟨h3,by omega⟩
  ·rintro ys H' ⟨rfl,_⟩
   exact⟨h3,by omega⟩
  ·rintro i x ys H' H4 hi ⟨rfl,rfl⟩ ⟨rfl,a,ky,rfl,hky,ha⟩
   have hti:ts[i]? = some (ts[i]'(by omega)):=List.getElem?_eq_getElem (by omega)
   have ek:ky=tK (ts[i]'(by omega)):=by
    rw [List.getElem?_map] at hky
    obtain⟨q',hq',rfl⟩:=Option.map_eq_some_iff.mp hky
    have hq2:((ts.map tK).zip (c.map V.int))[i]? = some (q'.1,q'.2):=hq'
    rw [List.getElem?_zip_eq_some,List.getElem?_map,hti] at hq2
    exact (Option.some.inj hq2.1).symm
   subst ek
   generalize ts[i]'(by omega)=tt at hti ha
   have htt:tz k tt < S:=tin tt (List.mem_of_getElem? hti)
   have:=tle tt
   refine gY2 (SqT.of (xs:=[.int (tt.1:Int),.int (tt.2:Int)]) ha) ?_
   refine⟨_,rfl,_,rfl,_,_,rfl,rfl,_,rfl,_,_,rfl,rfl,.inl ⟨by omega,by omega⟩,_,_,rfl,rfl,?_⟩
   refine⟨by rw [List.length_map,List.length_map,List.length_take]; omega,rfl,?_⟩
   show _++[V.int ((tt.1:Int)+((k:Int) - 1)*(tt.2:Int))]=_
   rw [zf3 k2,take_snoc hti,List.map_append,List.map_append]
   rfl
  rintro ys H' D2 ⟨rfl,rfl⟩ hD2
  refine⟨D2,(ts.take (m+1)).map fun t=>(tz k t:Int),rfl,SqL.of zc,fun e=>?_,fun M hM hM'=>?_⟩
  ·have:(ts.take (m+1)).length=0:=by rw [← List.length_map (f:=fun t=>(tz k t:Int)),e]; rfl
   rw [List.length_take] at this
   omega
  have eM:M=(tz k top:Int):=by
   obtain⟨t',ht',rfl⟩:=List.mem_map.mp hM
   obtain⟨i',hi'⟩:=List.mem_iff_getElem?.mp ht'
   have hlt':i' < m+1:=by have:=(List.getElem?_eq_some_iff.mp hi').1; rw [List.length_take] at this; omega
   rw [List.getElem?_take_of_lt hlt'] at hi'
   have b1:=zdA hso hi' htop (by omega)
   have b2:=hM' (tz k top:Int) (List.mem_map.mpr ⟨top,List.mem_iff_getElem?.mpr ⟨m,by rw [List.getElem?_take_of_lt (by omega)]; exact htop⟩,rfl⟩)
   omega
  subst eM
  have w4:=zb (o:=.lst (((ts.take (m+1)).map fun t=>(tz k t:Int)).map V.int)) hD2
  have s4:=s3.trans w4
  have h4:=w4 _ _ h3
  generalize upd H' D2 (.lst (((ts.take (m+1)).map fun t=>(tz k t:Int)).map V.int))=H4 at s4 h4 ⊢
  have k1:0 < k - 1:=by omega
  have ek1:((k:Int) - 1)=((k - 1:Nat):Int):=by omega
  obtain⟨sz,esz⟩:∃ sz,tz k top=sz:=⟨_,rfl⟩
  rw [esz] at LS htopS ⊢
  have eN:((sz:Int) / ((k:Int) - 1)+1)=((sz / (k - 1)+1:Nat):Int):=by
   rw [ek1]
   exact congrArg (· + 1) (Int.natCast_ediv sz (k - 1)).symm
  have hqs:sz / (k - 1)≤sz:=Nat.div_le_self _ _
  have hget:=fun t=>zil (ts:=ts) (c:=c) (t:=t)
  generalize (ts.map tK).zip (c.map V.int)=kvs at *
  generalize gof ts c=g at *
  refine⟨_,rfl,_,rfl,_,_,rfl,rfl,_,_,rfl,rfl,⟨by omega,by omega⟩,_,_,rfl,rfl,?_⟩
  refine⟨(sz:Int) / ((k:Int) - 1)+1,rfl,by rw [eN]; exact Int.le_trans (by decide) (Int.natCast_nonneg _),by rw [eN]; exact Int.lt_of_le_of_lt (Int.ofNat_le.mpr (show sz / (k - 1)+1≤301 from Nat.succ_le_succ (Nat.le_trans hqs (by omega)))) (by decide),?_⟩
  rw [eN,Int.toNat_natCast]
  refine zI (n:=sz / (k - 1)+1) (fun j ys H'=>zw H4 H'∧∃ us:List Addr,ys=us.map V.ref∧zbR H' us ((zat k sz g).take j)) ⟨fun _ _ e=>e,[],rfl,.nil⟩ (fun i ys H' hi _=>hi) (fun ys H' _=>Nat.le_refl _) ?_ ?_
  ·rintro j x ys H5 H6 hj ⟨s5,us,rfl,hus⟩ ⟨rfl,rfl⟩
   rw [show ((0:Int)+(j:Int))=(j:Int) from Int.zero_add _]
   have hjs:(k - 1)*j≤sz:=by
    have:=(Nat.le_div_iff_mul_le k1).mp (show j≤sz / (k - 1) by omega)
    rw [Nat.mul_comm]; exact this
   have hul:us.length=j:=by rw [Paired.length hus,List.length_take,zbk]; omega
   have eV:(sz:Int) - ((k:Int) - 1)*(j:Int)+1=((sz - (k - 1)*j+1:Nat):Int):=by
    rw [ek1,Int.natCast_add,Int.natCast_sub hjs,Int.natCast_mul]
    rfl
   refine gY ?_
   refine⟨_,rfl,_,rfl,_,_,rfl,rfl,_,rfl,_,_,rfl,rfl,.inl ⟨by omega,by omega⟩,_,_,rfl,rfl,_,_,rfl,rfl,?_⟩
   refine⟨(sz:Int) - ((k:Int) - 1)*(j:Int)+1,rfl,by rw [eV]; omega,by rw [eV]; omega,?_⟩
   rw [eV,Int.toNat_natCast]
   refine zI (n:=sz - (k - 1)*j+1) (fun i ys H'=>zw H6 H'∧ys=((List.range i).map fun i=>g (i,j)).map V.int) ⟨fun _ _ e=>e,rfl⟩ (fun i ys H' hi _=>hi) (fun ys H' _=>Nat.le_refl _) ?_ ?_
   ·rintro i x ys H7 H8 hi ⟨s7,rfl⟩ ⟨rfl,rfl⟩
    rw [show ((0:Int)+(i:Int))=(i:Int) from Int.zero_add _]
    have h7:=(s5.trans s7) _ _ h4
    refine gY ?_
    refine⟨_,rfl,D,rfl,.inr ⟨kvs,.inr ⟨o,h7⟩⟩,_,rfl,_,rfl,by show 2≤sizeLine; omega,fun T hT=>?_⟩
    have wT:=zb (o:=.tup [.int (i:Int),.int (j:Int)]) hT
    refine⟨_,.inr ⟨kvs,tK (i,j),T,.inr ⟨o,wT _ _ h7⟩,rfl,zc,rfl⟩,?_⟩
    rw [hget]
    refine⟨by rw [List.length_map,List.length_map,List.length_range]; omega,s7.trans wT,?_⟩
    rw [List.range_succ,List.map_append,List.map_append]
    rfl
   ·rintro ys H7 D5 ⟨s7,rfl⟩ hD5
    refine⟨D5,_,rfl,.inl ⟨SqL.of zc,fun l hl=>?_⟩⟩
    have w7:=(s7.trans (zb (o:=.lst (((List.range (sz - (k - 1)*j+1)).map fun i=>g (i,j)).map V.int)) hD5)).trans (zb (o:=.tup (((List.range (sz - (k - 1)*j+1)).map fun i=>g (i,j)).map V.int)) hl)
    refine⟨by rw [List.length_map]; omega,s5.trans w7,us++[l],by simp,?_⟩
    rw [zi5 hj]
    exact Paired.snoc (hus.same w7) zc
  ·rintro ys H5 L1 ⟨s5,us,rfl,hus⟩ hL1
   rw [List.take_of_length_le (by rw [zbk]; exact Nat.le_refl _)] at hus
   have w5:=s5.trans (zb (o:=.lst (us.map V.ref)) hL1)
   have hus5:=hus.same (zb (o:=.lst (us.map V.ref)) hL1)
   refine⟨_,rfl,_,rfl,L1,_,rfl,.inl ⟨SqL.of zc,fun r hr=>?_⟩⟩
   have w6:=w5.trans (zb (o:=.tup (us.map V.ref)) hr)
   have hus6:=hus5.same (zb (o:=.tup (us.map V.ref)) hr)
   refine⟨by show 2≤sizeLine; omega,fun z hz=>?_⟩
   have sf:=s4.trans w6
   have wz:=zb (o:=.tup [.int (sz:Int),.ref r]) hz
   exact q z r us sz g _ (sf.free hz) (sf.trans wz) zc (wz _ _ zc) (hus6.same wz) LS (by omega)
def zd2 (t:Adr) (K:PySem.W.Frag):Sp:=fun vs H Q E=>∃ (k:Nat),vs = [.int (k:Int)]∧((k < 2∧E (.ref t.NoCurve) none H)∨(2≤k∧Q .non H))
theorem zd3:FnScope ["k"] ["k"] (zh za8):=⟨rfl,rfl,rfl,by decide +kernel,rfl,by decide +kernel,by decide +kernel⟩
theorem zcg {fd:FuncData} (T:Txt K mg t) (F:Fun K "check_curves" "check_curves" za8 t.check_curves fd):FnOk P w K mg base (CX1 P w) 1 t.check_curves fd ["k"] (zd2 t K):=by
 refine F.okX zd3 (fun vs H Q E h=>?_) (fun cdv A outer s H vs Q E hr h=>?_)
 ·obtain⟨k,rfl,_⟩:=h
  rfl
 ·obtain⟨k,rfl,q⟩:=h
  refine⟨_,(@zk _ _ _ (@zaO _ _ _ _ _ _ _ _ (@zC _ _ _ _ _ _ _ _ (@zei _) (@pvx _ 0 _ _ rfl) (@zf _ _ _ _) (zL _)) (@zk _ _ _ (@zgz _ _ _ _ _ _ _ _ _ (fun _ _ _ _ _ _ _ _ I m q=>zet I m q) rfl rfl T.x_NoCurve T.xi_NoCurve (@zdu _ _ _ _) (by decide) (by rfl) (by rfl))) (@z8 _))),?_⟩
  refine⟨_,rfl,_,_,rfl,rfl,_,rfl,?_⟩
  rcases q with ⟨h1,q⟩ | ⟨h1,q⟩
  ·refine zaq (fun _=>?_) (fun h=>absurd (decide_eq_true (by omega)) h)
   exact⟨rfl,q⟩
  ·exact zaq (fun h=>absurd (of_decide_eq_true h) (by omega)) (fun _=>q)
def wpt (m:Nat) (l:List (Int×Int)):List (Int×Int×Nat):=l.map fun q=>(q.1,q.2,m)
theorem zeN (m:Nat):∀ l,zbU (wpt m l)=l.length*tri m
 | []=>by simp [zbU,wpt]
 | a :: l=>by
  have ih:=zeN m l
  unfold zbU wpt at ih ⊢
  (simp only [List.map_cons,List.sum_cons,List.length_cons])
  rw [ih,Nat.add_mul]
  omega
def zf4 (t:Adr) (K:PySem.W.Frag):Sp:=fun vs H Q E=>∃ (c tt r:Addr) (p:Int) (k m:Nat) (pl:List Int) (rw:List (Option Int)),vs = [.ref c,.ref r,.int (m:Int)]∧zbH H c tt p k pl∧H r=some (.lst (rw.map enc))∧rw.length=pl.length∧pl.length≤16∧p∈zJ∧pl.Nodup∧(∀ x∈pl,0≤x∧x < p)∧(∀ z,some z∈rw→0≤z∧z < p)∧1≤k∧k≤100∧1≤m∧m≤9 ∧
 ((k < 2∧∀ H',zw H H'→E (.ref t.NoCurve) none H')∨(2≤k∧(hps pl rw).length*tri m≤199∧∀ (z r:Addr) (ls:List Addr) (size:Nat) (g:Tm→Int) (H':Hp),H z=none→zw H H'→H' z=some (.tup [.int (size:Int),.ref r])→H' r=some (.tup (ls.map V.ref))→zbR H' ls (zat k size g)→Lst p k (wpt m (hps pl rw)) size g→size≤200→Q (.ref z) H'))
theorem zbu:FnScope ["code","row","m","p","k","places"] ["code","row","m"] (zh zbn):=⟨rfl,rfl,rfl,by decide +kernel,rfl,by decide +kernel,by decide +kernel⟩
theorem zf5 {fd:FuncData} (T:Txt K mg t) (F:Fun K "curve_for" "curve_for" zbn t.curve_for fd):FnOk P w K mg base (CX1 P w) 7 t.curve_for fd ["code","row","m"] (zf4 t K):=by
 obtain⟨fd_check_curves,F_check_curves,b_check_curves⟩:=T.f_check_curves
 have G_check_curves:=zcg (P:=P) (w:=w) (base:=base) T F_check_curves
 obtain⟨fd_least_curve,F_least_curve,b_least_curve⟩:=T.f_least_curve
 have G_least_curve:=zeM (P:=P) (w:=w) (base:=base) T F_least_curve
 obtain⟨fd_heard_points,F_heard_points,b_heard_points⟩:=T.f_heard_points
 have G_heard_points:=zcf (P:=P) (w:=w) (base:=base) T F_heard_points
 refine F.okX zbu (fun vs H Q E h=>?_) (fun cdv A outer s H vs Q E hr h=>?_)
 ·obtain⟨c,tt,r,p,k,m,pl,rw,rfl,_⟩:=h
  rfl
 ·obtain⟨c,tt,r,p,k,m,pl,rw,rfl,hc,hra,hrl,hn,hp,hnd,hpl,hrw,k0,k1,m1,m9,q⟩:=h
  refine⟨_,(@ze _ _ _ _ _ (@zaX _ _ _ _ _ _ (@pvx _ 0 _ _ rfl) (@zaP _ _ _ _ _ _ rfl (@zj _ _ _ _ _ (@zg _ _ (3) _ zbu.nd rfl (Or.inl rfl) (by trivial)) (@zj _ _ _ _ _ (@zg _ _ (4) _ zbu.nd rfl (Or.inl rfl) (by trivial)) (@zj _ _ _ _ _ (@zg _ _ (5) _ zbu.nd rfl (Or.inl rfl) (by trivial)) (@zB _) (by rfl)) (by rfl)) (by rfl)) (by rfl) (by rfl)) (by rfl) (by rfl) (by rfl)) (by exact (@ze _ _ _ _ _ (@za3 _ _ _ _ (@zp _ _ _ _ _ _ _ _ _ _ _ _ _ _ _ _ G_check_curves (hr.mono (by decide)) rfl T.m_check_curves F_check_curves.kp b_check_curves .nil (@zcT _ _ _ _ _ _ _ _ _ _ _ _ _ _ _) (@ya _ _ _ (@pvx _ 4 _ _ rfl) (by rfl)) (by decide) (by rfl) (by rfl)) (by rfl)) (by exact (@zk _ _ _ (@zz _ _ _ _ (@zp _ _ _ _ _ _ _ _ _ _ _ _ _ _ _ _ G_least_curve (hr.mono (by decide)) rfl T.m_least_curve F_least_curve.kp b_least_curve .nil (@zN _) (@za _ _ _ _ _ (@pvx _ 3 _ _ rfl) (@za _ _ _ _ _ (@pvx _ 4 _ _ rfl) (@ya _ _ _ (@zA _ _ _ _ _ _ _ _ _ _ _ _ _ (CompSc.of (N':=["place","entry","m"]) (ix:=[none,none,some 2]) (zh zbn) ["code","row","m","p","k","places"] rfl rfl (by decide +kernel)) rfl (@zaz _ _ _ _ (@zt _ _ _ rfl (@zt _ _ _ rfl (@zah _)))) (@z9 _ _ _ _ (@zp _ _ _ _ _ _ _ _ _ _ _ _ _ _ _ _ G_heard_points (hr.mono (by decide)) rfl T.m_heard_points F_heard_points.kp b_heard_points .nil (@zN _) (@za _ _ _ _ _ (@pvx _ 0 _ _ rfl) (@ya _ _ _ (@pvx _ 1 _ _ rfl) (by rfl)) (by rfl)) (by decide) (by rfl) (by rfl))) (fun _ _ _ _=>(@zac _ (K) _ _ _ (2) _ rfl rfl (@zj _ _ _ _ _ (@zg _ _ (0) _ (show (["place","entry","m"]:List Str).Nodup by decide +kernel) rfl (Or.inl rfl) (by trivial)) (@zj _ _ _ _ _ (@zg _ _ (1) _ (show (["place","entry","m"]:List Str).Nodup by decide +kernel) rfl (Or.inl rfl) (by trivial)) (@zB _) (by rfl)) (by rfl)) (by rfl) (by rfl))) (fun _ _ _ _=>(@zr _)) (fun _ _ _ _=>(@za4 _ _ _ _ _ (@za _ _ _ _ _ (@pvx _ 0 _ _ rfl) (@za _ _ _ _ _ (@pvx _ 1 _ _ rfl) (@ya _ _ _ (@pvx _ 2 _ _ rfl) (by rfl)) (by rfl)) (by rfl)))) (by intro _; rfl)) (by rfl)) (by rfl)) (by rfl)) (by decide) (by rfl) (by rfl)))))))),?_⟩
  have hsl:=sizeLine_eq
  have rp:=zV hp
  have hR:RowAt K H r pl.length rw:=⟨SqL.of hra,hrl⟩
  have hP:=zfM hnd hpl hrw
  have hhl:=zbA pl rw
  refine⟨_,rfl,c,_,rfl,SqT.of hc.1,rfl,_,_,rfl,_,_,rfl,_,_,rfl,rfl,?_⟩
  rcases q with ⟨h1,q⟩ | ⟨h1,hA,q⟩
  ·exact⟨_,rfl,k,rfl,.inl ⟨h1,q H fun _ _ e=>e⟩⟩
  refine⟨_,rfl,k,rfl,.inr ⟨h1,?_⟩⟩
  refine⟨_,rfl,_,rfl,_,rfl,_,rfl,c,tt,r,p,k,pl,rw,rfl,hc,hR,by omega,fun l bs H1 hl1 s1 h1l hB=>?_⟩
  have hbl:bs.length=(hps pl rw).length:=hB.length
  refine⟨l,rfl,⟨_,SqL.of h1l⟩,zI (n:=bs.length) (fun i ys H'=>zw H1 H'∧∃ us:List Addr,ys=us.map V.ref∧W3 H' us (wpt m ((hps pl rw).take i))) ⟨fun _ _ e=>e,[],rfl,.nil⟩ ?_ ?_ ?_ ?_⟩
  ·rintro i ys H4 hi ⟨s4,_⟩
   exact⟨_,.ref (bs[i]'(by omega)),SqL.of (s4 _ _ h1l),by rw [List.getElem?_map,List.getElem?_eq_getElem (by omega)]; rfl⟩
  ·rintro ys H4 ⟨s4,_⟩
   exact⟨_,SqL.of (s4 _ _ h1l),by rw [List.length_map]; exact Nat.le_refl _⟩
  ·rintro i z ys H4 H5 hi ⟨s4,us,rfl,hus⟩ ⟨rfl,hx⟩
   obtain⟨b,rfl,hbm⟩:=zU (hx _ (SqL.of (s4 _ _ h1l)))
   obtain⟨q',hq',hT⟩:=Paired.get (hB.same s4) hbm
   have hz:us.length=i:=by rw [Paired.length hus]; unfold wpt; rw [List.length_map,List.length_take]; omega
   refine gY2 (SqT.of hT) ?_
   refine⟨_,rfl,_,rfl,_,rfl,by show 3≤sizeLine; omega,fun T hT'=>⟨by rw [List.length_map]; omega,s4.trans (zb hT'),us++[T],by simp,?_⟩⟩
   rw [take_snoc hq']
   unfold wpt
   rw [List.map_append]
   exact Paired.snoc (hus.same (zb hT')) zc
  ·rintro ys H4 D ⟨s4,us,rfl,hus⟩ hD
   rw [List.take_of_length_le (by omega)] at hus
   have w4:=s4.trans (zb (o:=.lst (us.map V.ref)) hD)
   refine⟨p,k,D,us,wpt m (hps pl rw),rfl,hp,h1,k1,zc,hus.same (zb hD),fun q' hq'=>?_,by rw [zcI,zeN]; exact hA,by unfold wpt; rw [List.length_map]; omega,fun z r' ls size g H5 hz s5 h5 h6 h7 hL hs=>?_⟩
   ·obtain⟨a,ha,rfl⟩:=List.mem_map.mp hq'
    obtain⟨g1,g2,g3,g4⟩:=hP.rg a ha
    exact⟨g1,g2,g3,g4,m1,m9⟩
   ·have s14:=s1.trans w4
    exact q z r' ls size g H5 (s14.free hz) (s14.trans s5) h5 h6 h7 hL hs
end
end My
end
section
set_option maxHeartbeats 4000000
namespace My
open PySem L2 PyProof.Rows
section
variable {P:Program} {w:World} {K:PySem.W.Frag} {mg:Str→Option Value} {base:Heap} {t:Adr}
def zgT (K:PySem.W.Frag):Sp:=fun vs H Q _=>∃ (a:Addr) (bs:List Addr) (rows:List (List Int)),vs = [.ref a]∧(SqL K H a (bs.map V.ref)∨SqT K H a (bs.map V.ref))∧RwA H bs rows∧rows.length≤1000 ∧
 ∀ H',zw H H'→Q (.int (wd rows)) H'
theorem zgU:FnScope ["curve"] ["curve"] (zh zbw):=⟨rfl,rfl,rfl,by decide +kernel,rfl,by decide +kernel,by decide +kernel⟩
theorem zdO {fd:FuncData} (T:Txt K mg t) (F:Fun K "width_of" "width_of" zbw t.width_of fd):FnOk P w K mg base CX0 1 t.width_of fd ["curve"] (zgT K):=by
 refine F.ok zgU (fun vs H Q E h=>?_) (fun cdv A outer s H vs Q E hr h=>?_)
 ·obtain⟨a,bs,rows,rfl,_⟩:=h
  rfl
 ·obtain⟨a,bs,rows,rfl,ha,hb,hn,q⟩:=h
  refine⟨_,(@zk _ _ _ (@zz _ _ _ _ (@zhx _ true _ _ _ _ _ _ _ _ _ _ _ rfl boot_max rfl T.max_ (@zf _ _ _ _) (@zA _ _ _ _ _ _ _ _ _ _ _ _ _ (CompSc.of (N':=["line"]) (ix:=[none]) (zh zbw) ["curve"] rfl rfl (by decide +kernel)) rfl (@zT _ _ rfl) (@zjM _ _ _ _ (@pvx _ 0 _ _ rfl)) (fun _ _ _ _=>(@zg _ _ (0) _ (show (["line"]:List Str).Nodup by decide +kernel) rfl (Or.inl rfl) (by trivial))) (fun _ _ _ _=>(@zr _)) (fun _ _ _ _=>(@zn _ _ _ _ _ _ _ _ _ (@zbf _ (K) rfl) (by rfl) T.len_ boot_len (@ya _ _ _ (@pvx _ 0 _ _ rfl) (by rfl)) (by decide) (by decide) (by rfl) (by rfl))) (by intro _; rfl)) (by decide) (by decide)))),?_⟩
  have hlen:=Paired.length hb
  have el:∀ (i:Nat) (x y:V),(bs.map V.ref)[i]? = some x→((zau rows).map V.int)[i]? = some y→∃ (b:Addr) (r:List Int),x = .ref b∧y = .int r.length∧(H b=some (.lst (r.map V.int))∨H b=some (.tup (r.map V.int))):=by
   intro i x y hx hy
   obtain⟨b,rfl,hbi⟩:=zU hx
   unfold zau at hy
   rw [List.getElem?_map,List.getElem?_map] at hy
   cases e:rows[i]? with
   | none=>rw [e] at hy; simp at hy
   | some r =>
    rw [e] at hy
    obtain⟨v,hv,hr⟩:=Paired.get hb hbi
    rw [e] at hv
    cases hv
    exact⟨b,r,rfl,by simpa using hy.symm,hr⟩
  have fin:∀ D,H D=none→∃ (p:Addr) (ns:List Int),V.ref D = .ref p∧SqL K (upd H D (.lst ((zau rows).map V.int))) p (ns.map V.int)∧∀ M:Int,(ns = []→M=0)→(ns≠[]→M∈ns∧∀ a∈ns,if true=true then a≤M else M≤a)→Q (.int M) (upd H D (.lst ((zau rows).map V.int))):=fun D hD =>
   ⟨D,_,rfl,SqL.of zc,fun M h0 h1=>by rw [zmm h0 h1]; exact q _ (zb hD)⟩
  rcases ha with ha | ha
  ·refine⟨_,rfl,a,rfl,.inl ⟨⟨_,ha⟩,zaC (fs:=(zau rows).map V.int) ha (by simp [hlen,zcY]) (by simp; omega) (fun i x y R B hx hy hR=>?_) fin⟩⟩
   obtain⟨b,r,rfl,rfl,hr⟩:=el i x y hx hy
   exact⟨_,rfl,b,_,rfl,hr.imp SqL.of SqT.of,by rw [List.length_map]; exact hR⟩
  ·refine⟨_,rfl,a,rfl,.inr ⟨⟨_,ha⟩,zdx (fs:=(zau rows).map V.int) ha (by simp [hlen,zcY]) (by simp; omega) (fun i x y R B hx hy hR=>?_) fin⟩⟩
   obtain⟨b,r,rfl,rfl,hr⟩:=el i x y hx hy
   exact⟨_,rfl,b,_,rfl,hr.imp SqL.of SqT.of,by rw [List.length_map]; exact hR⟩
def zi6 (K:PySem.W.Frag):Sp:=fun vs H Q _=>∃ (p b:Int) (a:Addr) (bs:List Addr) (n w:Nat) (c:Nat→Nat→Int),vs = [.int p,.ref a,.int b]∧H a=some (.lst (bs.map V.ref))∧LsA H bs (zaf n w c)∧n≤1000∧w≤1000∧5≤p∧p≤97∧0≤b∧b < p∧(∀ j i,j < n→i < w→0≤c j i∧c j i < p) ∧
 ∀ (l:Addr) (ls:List Addr) (H':Hp),H l=none→zw H H'→H' l=some (.lst (ls.map V.ref))→LsA H' ls (zaf n w fun j i=>sh b n (fun t=>c t i) j % p)→Q (.ref l) H'
theorem zav (n w:Nat) (g:Nat→Nat→Int):(zaf n w g).length=n:=by unfold zaf; rw [List.length_map,List.length_range]
theorem zcO:FnScope ["p","lines","by","first","at"] ["p","lines","by"] (zh zct):=⟨rfl,rfl,rfl,by decide +kernel,rfl,by decide +kernel,by decide +kernel⟩
theorem zi7 {fd:FuncData} (T:Txt K mg t) (F:Fun K "raised" "raised" zct t.raised fd):FnOk P w K mg base CX0 1 t.raised fd ["p","lines","by"] (zi6 K):=by
 refine F.ok zcO (fun vs H Q E h=>?_) (fun cdv A outer s H vs Q E hr h=>?_)
 ·obtain⟨p,b,a,bs,n,w',c,rfl,_⟩:=h
  rfl
 ·obtain⟨p,b,a,bs,n,wi,c,rfl,ha,hb,hn,hw,p5,p97,b0,b1,hc,q⟩:=h
  refine⟨_,(@ze _ _ _ _ _ (@zm _ _ (1) _ _ _ _ zcO.nd rfl (Or.inl rfl) (@zam _ _ _ _ _ _ _ _ _ (@zb3 _) (by rfl) T.list_ boot_list (@ya _ _ _ (@pvx _ 1 _ _ rfl) (by rfl)) (by decide) (by decide) (by rfl) (by rfl)) (by rfl) (by trivial)) (by exact (@ze _ _ _ _ _ (@zal _ _ _ _ _ _ _ _ PassesOwn.never rfl (@zH _ _ _ _ _ _ rfl T.range_ (@ya _ _ _ (@zn _ _ _ _ _ _ _ _ _ (@zx _) (by rfl) T.len_ boot_len (@ya _ _ _ (@pvx _ 1 _ _ rfl) (by rfl)) (by decide) (by decide) (by rfl) (by rfl)) (by rfl)) (by rfl)) (@zg _ _ (3) _ zcO.nd rfl (Or.inl rfl) (by trivial)) (@zk _ _ _ (@zal _ _ _ _ _ _ _ _ PassesOwn.never rfl (@zlQ _ _ _ _ _ _ rfl T.reversed_ (@ya _ _ _ (@zam _ _ _ _ _ _ _ _ _ (@zgO _) (by rfl) T.range_ boot_range (@za _ _ _ _ _ (@pvx _ 3 _ _ rfl) (@ya _ _ _ (@zi _ _ _ _ _ _ _ _ (@zR _) (@zn _ _ _ _ _ _ _ _ _ (@zx _) (by rfl) T.len_ boot_len (@ya _ _ _ (@pvx _ 1 _ _ rfl) (by rfl)) (by decide) (by decide) (by rfl) (by rfl)) (@zf _ _ _ _)) (by rfl)) (by rfl)) (by decide) (by decide) (by rfl) (by rfl)) (by rfl)) (by rfl)) (@zg _ _ (4) _ zcO.nd rfl (Or.inl rfl) (by trivial)) (@zk _ _ _ (@zaX _ _ _ _ _ _ (@zA _ _ _ _ _ _ _ _ _ _ _ _ _ (CompSc.of (N':=["low","high","by","p"]) (ix:=[none,none,some 2,some 0]) (zh zct) ["p","lines","by","first","at"] rfl rfl (by decide +kernel)) rfl (@zaz _ _ _ _ (@zt _ _ _ rfl (@zt _ _ _ rfl (@zah _)))) (@zc6 _ _ _ _ _ _ _ _ _ rfl T.zip_ (@za _ _ _ _ _ (@zy _ _ _ _ _ _ _ (@zu _) (@pvx _ 1 _ _ rfl) (@pvx _ 4 _ _ rfl) (fun _ _=>rfl)) (@ya _ _ _ (@zy _ _ _ _ _ _ _ (@zu _) (@pvx _ 1 _ _ rfl) (@zi _ _ _ _ _ _ _ _ (@zG _) (@pvx _ 4 _ _ rfl) (@zf _ _ _ _)) (fun _ _=>rfl)) (by rfl)) (by rfl)) (by rfl) (by rfl)) (fun _ _ _ _=>(@zac _ (K) _ _ _ (2) _ rfl rfl (@zj _ _ _ _ _ (@zg _ _ (0) _ (show (["low","high","by","p"]:List Str).Nodup by decide +kernel) rfl (Or.inl rfl) (by trivial)) (@zj _ _ _ _ _ (@zg _ _ (1) _ (show (["low","high","by","p"]:List Str).Nodup by decide +kernel) rfl (Or.inl rfl) (by trivial)) (@zB _) (by rfl)) (by rfl)) (by rfl) (by rfl))) (fun _ _ _ _=>(@zr _)) (fun _ _ _ _=>(@zi _ _ _ _ _ _ _ _ (@zE _) (@zi _ _ _ _ _ _ _ _ (@zG _) (@pvx _ 0 _ _ rfl) (@zi _ _ _ _ _ _ _ _ (@zD _) (@pvx _ 2 _ _ rfl) (@pvx _ 1 _ _ rfl))) (@pvx _ 3 _ _ rfl))) (by intro _; rfl)) (@zef _ _ _ _ _ _ _ (@pvx _ 1 _ _ rfl) (@pvx _ 4 _ _ rfl) set_list (by intro _; rfl)) (by rfl) (by rfl) (by rfl))) (by intro _; rfl))) (by intro _; rfl)) (by exact (@zk _ _ _ (@zz _ _ _ _ (@pvx _ 1 _ _ rfl))))))),?_⟩
  have hsl:=sizeLine_eq
  have hz:∀ {H':Hp} {ls:List Addr} {g:Nat→Nat→Int},LsA H' ls (zaf n wi g)→((ls.map V.ref).length:Int)=(n:Int):=fun h=>by rw [List.length_map,Paired.length h,zav]
  refine⟨_,rfl,a,_,rfl,.inl (SqL.of ha),fun l hl=>?_⟩
  refine⟨_,rfl,l,_,rfl,.inl (SqL.of zc),_,rfl,?_⟩
  rw [hz hb]
  refine⟨by omega,by omega,zad (lo:=0) (n:=(n:Int).toNat) (fun f σ H'=>∃ (ls:List Addr) (e3 e4:Option V),σ = [some (.int p),some (.ref l),some (.int b),e3,e4]∧zw H H'∧H' l=some (.lst (ls.map V.ref))∧LsA H' ls (zaf n wi (rst p b n c f 0))) ⟨bs,none,none,rfl,zb hl,zc,?_⟩ ?_ ?_⟩
  ·rw [zbi (g':=c) fun j i hj hi=>by rw [ziX hj]; exact Int.emod_eq_of_lt (hc j i hj hi).1 (hc j i hj hi).2]
   exact hb.same (zb hl)
  ·rintro f σ H1 hf ⟨ls,e3,e4,rfl,s1,h1l,hls⟩
   have hf:f < n:=by omega
   refine⟨_,rfl,_,rfl,l,_,rfl,.inl (SqL.of h1l),_,_,rfl,rfl,?_⟩
   rw [hz hls]
   refine⟨0+(f:Int),(n:Int) - 1,rfl,fun r hr=>⟨r,0+(f:Int),(n:Int) - 1,rfl,zc,⟨by omega,by omega,by omega,by omega⟩,?_⟩⟩
   have e0:(0+(f:Int))+((((n:Int) - 1 - (0+(f:Int))).toNat:Nat):Int) - 1=(n:Int) - 2:=by omega
   have e1:((n:Int) - 1 - (0+(f:Int))).toNat=n - 1 - f:=by omega
   rw [e0,e1]
   have rl:r≠l:=(zq h1l hr).symm
   refine zht (hi:=(n:Int) - 2) (n:=n - 1 - f) (fun idx σ H'=>∃ (ls:List Addr) (e4:Option V),σ = [some (.int p),some (.ref l),some (.int b),some (.int (0+(f:Int))),e4]∧zw H H'∧H' l=some (.lst (ls.map V.ref))∧LsA H' ls (zaf n wi (rst p b n c f idx))) ⟨ls,e4,rfl,s1.trans (zb hr),by rw [zl rl.symm]; exact h1l,hls.same (zb hr)⟩ ?_ ?_
   ·rintro idx σ H2 hi ⟨ls,e4,rfl,s2,h2l,hls⟩
    have hlen:ls.length=n:=by rw [Paired.length hls,zav]
    obtain⟨b1',hb1⟩:∃ b',ls[n - 2 - idx]? = some b':=⟨ls[n - 2 - idx]'(by omega),by simp⟩
    obtain⟨b2',hb2⟩:∃ b',ls[n - 2 - idx+1]? = some b':=⟨ls[n - 2 - idx+1]'(by omega),by simp⟩
    obtain⟨v1,g1,h1⟩:=Paired.get hls hb1
    obtain⟨v2,g2,h2⟩:=Paired.get hls hb2
    rw [zbT (by omega)] at g1 g2
    cases g1
    cases g2
    have at1:atI (ls.map V.ref) ((n:Int) - 2 - (idx:Int))=some (.ref b1'):=by
     have e:(n:Int) - 2 - (idx:Int)=((n - 2 - idx:Nat):Int):=by omega
     rw [e]; exact zM (by rw [List.getElem?_map,hb1]; rfl)
    have at2:atI (ls.map V.ref) ((n:Int) - 2 - (idx:Int)+1)=some (.ref b2'):=by
     have e:(n:Int) - 2 - (idx:Int)+1=((n - 2 - idx+1:Nat):Int):=by omega
     rw [e]; exact zM (by rw [List.getElem?_map,hb2]; rfl)
    refine⟨_,rfl,_,rfl,l,_,_,_,rfl,rfl,SqL.of h2l,at1,_,rfl,_,rfl,_,_,rfl,rfl,l,_,_,_,rfl,rfl,SqL.of h2l,at2,b1',b2',_,_,rfl,SqL.of h1,SqL.of h2,zdw (n:=wi) (f:=fun x y=>(x+b*y) % p) h1 h2 (by simp) (by simp) (.inl (by simp)) (by omega) ?_ ?_⟩
    ·intro j u w H6 T R B hu hv s6 hT hR
     refine gY2 (SqT.of zc) ?_
     exact⟨_,rfl,_,rfl,_,rfl,_,_,rfl,rfl,.inl ⟨by omega,by omega⟩,_,_,rfl,rfl,_,rfl,_,_,rfl,rfl,(by omega),hR⟩
    ·intro D H6 s6 hD
     rw [ziW]
     have h6l:=s6 _ _ h2l
     have dl:D≠l:=(zq h6l hD).symm
     have hj:ixN (ls.map V.ref).length ((n:Int) - 2 - (idx:Int))=some (n - 2 - idx):=by
      unfold ixN
      rw [List.length_map,hlen,if_pos (by omega),if_pos (by omega)]
      congr 1
      omega
     refine⟨_,rfl,_,rfl,l,_,_,_,rfl,rfl,by rw [zl dl.symm]; exact h6l,hj,ls.set (n - 2 - idx) D,_,rfl,?_,?_,?_⟩
     ·exact zW ((s2.trans s6).trans (zb hD)) hl
     ·rw [zc,List.map_set]
     ·rw [zbi (g':=fun j i=>if j=n - 2 - idx then (rst p b n c f idx (n - 2 - idx) i+b*rst p b n c f idx (n - 2 - idx+1) i) % p else rst p b n c f idx j i) fun j i hj _=>zkq hi hj,← ziV]
      exact LsA.setAt (hls.same (s6.trans (zb hD))) (by rw [zl dl.symm]; exact h6l) zc dl
   ·rintro σ H2 ⟨ls,e4,rfl,s2,h2l,hls⟩
    rw [zbi (g':=rst p b n c (f+1) 0) fun j i hj _=>zkp hf hj] at hls
    exact⟨ls,_,_,rfl,s2,h2l,hls⟩
  ·rintro σ H1 ⟨ls,e3,e4,rfl,s1,h1l,hls⟩
   have e1:(n:Int).toNat=n:=by omega
   rw [e1,zbi (g':=fun j i=>sh b n (fun t=>c t i) j % p) fun j i hj hi=>zko hj] at hls
   exact⟨_,rfl,q l ls _ hl s1 h1l hls⟩
theorem zi8 {X:Cx} {K:PySem.W.Frag} {es:List Expr} {k:Nat} {tpos p pos:Pos} {a:Expr} {ta:TA} (hK:X.K=K) (hg:Gl X "enumerate") (hm:X.mg "enumerate" = none) (ha:PA X [a] ta) (hs:starEach [a] X.env = [(false,eval a X.env)]:=by rfl) :
  PI X (.Tuple es k tpos) (.Call (.Name "enumerate" p) [a] [] pos) (iEn (SqT K) ta):=by subst hK; exact zc7 hg hm ha hs
theorem zds {rows:List (List Int)} (h:∀ r∈rows,r.length≤100):∀ m,(zaB rows m).length≤100*m
 | 0=>by simp [zaB]
 | m+1=>by
  have ih:=zds h m
  have hl:(rows.getD m []).length≤100:=by
   cases e:rows[m]? with
   | none=>simp [List.getD,e]
   | some r=>simp only [List.getD,e,Option.getD_some]; exact h r (List.mem_of_getElem? e)
  have h2:=zdi m (rows.getD m []) (rows.getD m []).length
  rw [zcJ,List.length_append]
  omega
def zgV (K:PySem.W.Frag):Sp:=fun vs H Q _=>∃ (a:Addr) (bs:List Addr) (rows:List (List Int)),vs = [.ref a]∧H a=some (.tup (bs.map V.ref))∧zbR H bs rows∧rows.length≤100∧(∀ r∈rows,r.length≤100) ∧
 ∀ (l:Addr) (ts:List Addr) (H':Hp),H l=none→zw H H'→H' l=some (.lst (ts.map V.ref))→PtB H' ts (zaB rows rows.length)→Q (.ref l) H'
theorem zgW:FnScope ["curve"] ["curve"] (zh zbx):=⟨rfl,rfl,rfl,by decide +kernel,rfl,by decide +kernel,by decide +kernel⟩
theorem zdP {fd:FuncData} (T:Txt K mg t) (F:Fun K "terms_of" "terms_of" zbx t.terms_of fd):FnOk P w K mg base CX0 1 t.terms_of fd ["curve"] (zgV K):=by
 refine F.ok zgW (fun vs H Q E h=>?_) (fun cdv A outer s H vs Q E hr h=>?_)
 ·obtain⟨a,bs,rows,rfl,_⟩:=h
  rfl
 ·obtain⟨a,bs,rows,rfl,ha,hb,hn,hw,q⟩:=h
  refine⟨_,(@zk _ _ _ (@zz _ _ _ _ (@zia _ _ _ _ _ _ _ _ _ _ _ _ _ _ _ _ _ _ _ _ _ (CompSc.of (N':=["j","line","i","number"]) (ix:=[none,none,none,none]) (zh zbx) ["curve"] rfl rfl (by decide +kernel)) rfl (zhe (js:=[0,1]) (zcm (js:=[0,1]) (i:=0) (by decide) (zcm (js:=[0,1]) (i:=1) (by decide) (zfF (js:=[0,1]))))) (zhe (js:=[2,3]) (zcm (js:=[2,3]) (i:=2) (by decide) (zcm (js:=[2,3]) (i:=3) (by decide) (zfF (js:=[2,3]))))) (by decide) (by decide) (@zc7 _ _ _ _ _ _ _ _ rfl T.enumerate_ (@ya _ _ _ (@pvx _ 0 _ _ rfl) (by rfl)) (by rfl)) (fun _ _ _ _=>(@zac _ (K) _ _ _ (2) _ rfl rfl (@zj _ _ _ _ _ (@zg _ _ (0) _ (show (["j","line","i","number"]:List Str).Nodup by decide +kernel) rfl (Or.inl rfl) (by trivial)) (@zj _ _ _ _ _ (@zg _ _ (1) _ (show (["j","line","i","number"]:List Str).Nodup by decide +kernel) rfl (Or.inl rfl) (by trivial)) (@zB _) (by rfl)) (by rfl)) (by rfl) (by rfl))) (fun _ _ _ _=>(@zr _)) (fun _ _ _ _=>(zi8 (K:=K) rfl rfl T.enumerate_ (@ya _ _ _ (@pvx _ 1 _ _ rfl) (by rfl)))) (fun _ _ _ _=>(@zac _ (K) _ _ _ (2) _ rfl rfl (@zj _ _ _ _ _ (@zg _ _ (2) _ (show (["j","line","i","number"]:List Str).Nodup by decide +kernel) rfl (Or.inl rfl) (by trivial)) (@zj _ _ _ _ _ (@zg _ _ (3) _ (show (["j","line","i","number"]:List Str).Nodup by decide +kernel) rfl (Or.inl rfl) (by trivial)) (@zB _) (by rfl)) (by rfl)) (by rfl) (by rfl))) (fun _ _ _ _=>(@zbP _ _ _ (@zC _ _ _ _ _ _ _ _ (@zc1 _) (@pvx _ 3 _ _ rfl) (@zf _ _ _ _) (zL _)))) (fun _ _ _ _=>(@za4 _ _ _ _ _ (@za _ _ _ _ _ (@pvx _ 2 _ _ rfl) (@ya _ _ _ (@pvx _ 0 _ _ rfl) (by rfl)) (by rfl)))) (by intro _; rfl) (by intros; rfl)))),?_⟩
  have hsl:=sizeLine_eq
  have hlen:=Paired.length hb
  refine⟨_,rfl,a,_,rfl,SqT.of ha,zib (n:=rows.length) (fun m ys H'=>∃ us:List Addr,ys=us.map V.ref∧zw H H'∧PtB H' us (zaB rows m)) ⟨[],rfl,fun _ _ e=>e,.nil⟩ ?_ ?_ ?_ ?_⟩
  ·rintro m ys H1 hm ⟨us,rfl,s1,hus⟩
   exact⟨_,.ref (bs[m]'(by omega)),SqT.of (s1 _ _ ha),by rw [List.getElem?_map,List.getElem?_eq_getElem (by omega)]; rfl⟩
  ·rintro ys H1 ⟨us,rfl,s1,hus⟩
   exact⟨_,SqT.of (s1 _ _ ha),by rw [List.length_map]; omega⟩
  ·rintro m y ys H1 H2 hm ⟨us,rfl,s1,hus⟩ ⟨T,v,hT,rfl,rfl,hv⟩
   obtain⟨b,rfl,hbm⟩:=zU (hv _ (SqT.of (s1 _ _ ha)))
   obtain⟨r,hr,hrb⟩:=Paired.get hb hbm
   have hrl:=hw r (List.mem_of_getElem? hr)
   have er:rows.getD m []=r:=by simp [List.getD,hr]
   refine gY2 (SqT.of zc) ?_
   have sT:=s1.trans (zb (o:=.tup [.int m,.ref b]) hT)
   have usT:=hus.same (zb (o:=.tup [.int m,.ref b]) hT)
   generalize upd H1 T (.tup [.int m,.ref b])=H2 at sT usT ⊢
   have h2b:=sT _ _ hrb
   refine⟨_,rfl,b,_,rfl,SqT.of h2b,zib (n:=r.length) (fun j ys H'=>∃ us:List Addr,ys=us.map V.ref∧zw H2 H'∧PtB H' us (zaB rows m++trm m r j)) ⟨us,rfl,fun _ _ e=>e,by simpa [trm] using usT⟩ ?_ ?_ ?_ ?_⟩
   ·rintro j ys H3 hj ⟨us,rfl,s3,_⟩
    exact⟨_,.int (r[j]'hj),SqT.of (s3 _ _ h2b),by rw [List.getElem?_map,List.getElem?_eq_getElem hj]; rfl⟩
   ·rintro ys H3 ⟨us,rfl,s3,_⟩
    exact⟨_,SqT.of (s3 _ _ h2b),by rw [List.length_map]; omega⟩
   ·rintro j z ys H3 H4 hj ⟨us,rfl,s3,hus3⟩ ⟨T',v',hT',rfl,rfl,hv'⟩
    obtain⟨x,rfl,hx⟩:=zao (hv' _ (SqT.of (s3 _ _ h2b)))
    have hgx:gl r j=x:=zaR hx
    have sT':=s3.trans (zb (o:=.tup [.int j,.int x]) hT')
    have us':=hus3.same (zb (o:=.tup [.int j,.int x]) hT')
    have hul:us.length=(zaB rows m++trm m r j).length:=Paired.length hus3
    have l1:=zds hw m
    have l2:=zdi m r j
    rw [List.length_append] at hul
    refine⟨T',_,rfl,SqT.of zc,rfl,_,_,rfl,_,_,rfl,rfl,?_⟩
    generalize upd H3 T' (.tup [.int j,.int x])=H4 at sT' us' ⊢
    refine⟨_,rfl,?_⟩
    refine⟨rfl,_,rfl,?_⟩
    refine zaq (fun hx0=>?_) (fun hx0=>?_)
    ·have hx0:x≠0:=by simpa using hx0
     refine⟨_,rfl,_,rfl,by show 2≤sizeLine; omega,fun D hD=>⟨by rw [List.length_map]; omega,us++[D],by rw [List.map_append]; rfl,sT'.trans (zb hD),?_⟩⟩
     rw [zdh,if_pos (by rw [hgx]; exact hx0),← List.append_assoc]
     exact Paired.snoc (us'.same (zb hD)) zc
    ·have hx0:x=0:=by simpa using hx0
     refine⟨us,rfl,sT',?_⟩
     rw [zdh,if_neg (by rw [hgx,hx0]; simp)]
     exact us'
   ·rintro ys H3 ⟨us,rfl,s3,hus3⟩
    refine⟨us,rfl,sT.trans s3,?_⟩
    rw [zcJ,er]
    exact hus3
  ·rintro ys H1 ⟨us,rfl,s1,hus⟩ D hD
   exact q D us _ (s1.free hD) (s1.trans (zb hD)) zc (hus.same (zb hD))
def zhK (K:PySem.W.Frag):Sp:=fun vs H Q _=>∃ (k:Int) (a:Addr) (bs:List Addr) (rows:List (List Int)),vs = [.int k,.ref a]∧0≤k∧k≤1000∧H a=some (.tup (bs.map V.ref))∧zbR H bs rows∧rows.length≤100∧(∀ r∈rows,r.length≤100) ∧
 ∀ (M:Int) (H':Hp),zw H H'→(szs k (zaB rows rows.length) = []→M=0)→(szs k (zaB rows rows.length)≠[]→M∈szs k (zaB rows rows.length)∧∀ x∈szs k (zaB rows rows.length),x≤M)→Q (.int M) H'
theorem zhL:FnScope ["k","curve"] ["k","curve"] (zh zbW):=⟨rfl,rfl,rfl,by decide +kernel,rfl,by decide +kernel,by decide +kernel⟩
theorem zhM {fd:FuncData} (T:Txt K mg t) (F:Fun K "size_of" "size_of" zbW t.size_of fd):FnOk P w K mg base CX0 2 t.size_of fd ["k","curve"] (zhK K):=by
 obtain⟨fd_terms_of,F_terms_of,b_terms_of⟩:=T.f_terms_of
 have G_terms_of:=zdP (P:=P) (w:=w) (base:=base) T F_terms_of
 refine F.ok zhL (fun vs H Q E h=>?_) (fun cdv A outer s H vs Q E hr h=>?_)
 ·obtain⟨k,a,bs,rows,rfl,_⟩:=h
  rfl
 ·obtain⟨k,a,bs,rows,rfl,k0,k1,ha,hb,hn,hw,q⟩:=h
  refine⟨_,(@zk _ _ _ (@zz _ _ _ _ (@zhx _ true _ _ _ _ _ _ _ _ _ _ _ rfl boot_max rfl T.max_ (@zf _ _ _ _) (@zA _ _ _ _ _ _ _ _ _ _ _ _ _ (CompSc.of (N':=["i","j","k"]) (ix:=[none,none,some 0]) (zh zbW) ["k","curve"] rfl rfl (by decide +kernel)) rfl (@zaz _ _ _ _ (@zt _ _ _ rfl (@zt _ _ _ rfl (@zah _)))) (@z9 _ _ _ _ (@zp _ _ _ _ _ _ _ _ _ _ _ _ _ _ _ _ G_terms_of (hr.mono (by decide)) rfl T.m_terms_of F_terms_of.kp b_terms_of .nil (@zN _) (@ya _ _ _ (@pvx _ 1 _ _ rfl) (by rfl)) (by decide) (by rfl) (by rfl))) (fun _ _ _ _=>(@zac _ (K) _ _ _ (2) _ rfl rfl (@zj _ _ _ _ _ (@zg _ _ (0) _ (show (["i","j","k"]:List Str).Nodup by decide +kernel) rfl (Or.inl rfl) (by trivial)) (@zj _ _ _ _ _ (@zg _ _ (1) _ (show (["i","j","k"]:List Str).Nodup by decide +kernel) rfl (Or.inl rfl) (by trivial)) (@zB _) (by rfl)) (by rfl)) (by rfl) (by rfl))) (fun _ _ _ _=>(@zr _)) (fun _ _ _ _=>(@zi _ _ _ _ _ _ _ _ (@zG _) (@pvx _ 0 _ _ rfl) (@zi _ _ _ _ _ _ _ _ (@zD _) (@zi _ _ _ _ _ _ _ _ (@zR _) (@pvx _ 2 _ _ rfl) (@zf _ _ _ _)) (@pvx _ 1 _ _ rfl)))) (by intro _; rfl)) (by decide) (by decide)))),?_⟩
  have hsl:=sizeLine_eq
  refine⟨_,rfl,a,bs,rows,rfl,ha,hb,hn,hw,fun l ts H1 hl s1 h1l hpt=>?_⟩
  have hlen:=Paired.length hpt
  have hl2:=zds hw rows.length
  refine⟨l,rfl,⟨_,SqL.of h1l⟩,zaC (fs:=(szs k (zaB rows rows.length)).map V.int) (SqL.of h1l) (by rw [List.length_map,List.length_map,zeb,hlen]) (by rw [List.length_map]; omega) (fun i x y R B hx hy hR=>?_) (fun D hD=>?_)⟩
  ·obtain⟨b,rfl,hbi⟩:=zU hx
   obtain⟨⟨u,v⟩,hq,hT⟩:=Paired.get hpt hbi
   unfold szs at hy
   rw [List.getElem?_map,List.getElem?_map,hq] at hy
   have hy:V.int (u+(k - 1)*v)=y:=by simpa using hy
   subst hy
   refine gY2 (SqT.of hT) ?_
   exact⟨_,rfl,_,rfl,_,_,rfl,rfl,_,rfl,_,_,rfl,rfl,.inl ⟨by omega,by omega⟩,_,_,rfl,rfl,hR⟩
  ·exact⟨D,_,rfl,SqL.of zc,fun M h0 h1=>q M _ (s1.trans (zb hD)) h0 fun hne=>⟨(h1 hne).1,fun x hx=>by have:=(h1 hne).2 x hx; rwa [if_pos rfl] at this⟩⟩
theorem znc {H:Hp} {bs:List Addr} {rows:List (List Int)} (h:zbR H bs rows):RwA H bs rows:=Paired.mono (fun _ _ z=>.inr z) h
def zi9 (p:Int) (w:Nat) (r:List Int):List Int:=r.map (· % p)++List.replicate (w - r.length) 0
theorem zlV {p:Int} {w:Nat} {r:List Int} (h:r.length≤w):zi9 p w r=(List.range w).map fun i=>gl r i % p:=by
 unfold zi9
 refine List.ext_getElem? fun i=>?_
 by_cases h1:i < r.length
 ·rw [List.getElem?_append_left (by rw [List.length_map]; exact h1),List.getElem?_map,List.getElem?_map,List.getElem?_range (by omega),List.getElem?_eq_getElem h1]
  show some (r[i] % p)=some (gl r i % p)
  rw [zaR (List.getElem?_eq_getElem h1)]
 ·rw [List.getElem?_append_right (by rw [List.length_map]; omega),List.length_map,List.getElem?_map]
  by_cases h2:i < w
  ·rw [List.getElem?_range h2,List.getElem?_replicate,if_pos (by omega)]
   show some (0:Int)=some (gl r i % p)
   have:gl r i=0:=by unfold gl; rw [List.getD,List.getElem?_eq_none_iff.mpr (by omega)]; rfl
   rw [this,Int.zero_emod]
  ·rw [List.getElem?_eq_none_iff.mpr (by rw [List.length_replicate]; omega),List.getElem?_eq_none_iff.mpr (by rw [List.length_range]; omega)]
   rfl
theorem zkP {p:Int} {w:Nat} {rows:List (List Int)} (h:∀ r∈rows,r.length≤w):rows.map (zi9 p w)=zaf rows.length w fun j i=>gl (rows.getD j []) i % p:=by
 refine List.ext_getElem? fun j=>?_
 by_cases hj:j < rows.length
 ·rw [zbT hj,List.getElem?_map,List.getElem?_eq_getElem hj]
  show some (zi9 p w rows[j])=_
  rw [zlV (h _ (List.getElem_mem hj))]
  have:rows.getD j []=rows[j]:=by simp [List.getD,hj]
  rw [this]
 ·rw [List.getElem?_eq_none_iff.mpr (by rw [List.length_map]; omega),List.getElem?_eq_none_iff.mpr (by rw [zav]; omega)]
def zja (K:PySem.W.Frag):Sp:=fun vs H Q _=>∃ (p:Int) (a:Addr) (bs:List Addr) (rows:List (List Int)),vs = [.int p,.ref a]∧5≤p∧p≤97∧H a=some (.tup (bs.map V.ref))∧zbR H bs rows∧rows.length≤100∧(∀ r∈rows,r.length≤100) ∧
 ∀ (l:Addr) (ls:List Addr) (H':Hp),H l=none→zw H H'→H' l=some (.lst (ls.map V.ref))→LsA H' ls (zaf rows.length (wd rows) fun j i=>gl (rows.getD j []) i % p)→Q (.ref l) H'
theorem zfp:FnScope ["p","curve","width"] ["p","curve"] (zh zcr):=⟨rfl,rfl,rfl,by decide +kernel,rfl,by decide +kernel,by decide +kernel⟩
theorem zjb {fd:FuncData} (T:Txt K mg t) (F:Fun K "filled" "filled" zcr t.filled fd):FnOk P w K mg base CX0 2 t.filled fd ["p","curve"] (zja K):=by
 obtain⟨fd_width_of,F_width_of,b_width_of⟩:=T.f_width_of
 have G_width_of:=zdO (P:=P) (w:=w) (base:=base) T F_width_of
 refine F.ok zfp (fun vs H Q E h=>?_) (fun cdv A outer s H vs Q E hr h=>?_)
 ·obtain⟨p,a,bs,rows,rfl,_⟩:=h
  rfl
 ·obtain⟨p,a,bs,rows,rfl,p5,p97,ha,hb,hn,hw,q⟩:=h
  refine⟨_,(@ze _ _ _ _ _ (@zm _ _ (2) _ _ _ _ zfp.nd rfl (Or.inr rfl) (@zp _ _ _ _ _ _ _ _ _ _ _ _ _ _ _ _ G_width_of (hr.mono (by decide)) rfl T.m_width_of F_width_of.kp b_width_of .nil (@zN _) (@ya _ _ _ (@pvx _ 1 _ _ rfl) (by rfl)) (by decide) (by rfl) (by rfl)) (by rfl) (by trivial)) (by exact (@zk _ _ _ (@zz _ _ _ _ (@zA _ _ _ _ _ _ _ _ _ _ _ _ _ (CompSc.of (N':=["line","p","width"]) (ix:=[none,some 0,some 2]) (zh zcr) ["p","curve","width"] rfl rfl (by decide +kernel)) rfl (@zT _ _ rfl) (@zfx _ _ _ _ (@pvx _ 1 _ _ rfl)) (fun _ _ _ _=>(@zg _ _ (0) _ (show (["line","p","width"]:List Str).Nodup by decide +kernel) rfl (Or.inl rfl) (by trivial))) (fun _ _ _ _=>(@zr _)) (fun _ _ _ _=>(@zi _ _ _ _ _ _ _ _ (@zcl _) (@zA _ _ _ _ _ _ _ _ _ _ _ _ _ (CompSc.of (N':=["number","p"]) (ix:=[none,some 1]) ({ kind:=.function,names:=[(".0",.local),("line",.local),("len",.globalImplicit),("p",.cell),("width",.cell)],isGenerator:=false,isCoroutine:=false }) ["line","p","width"] (by with_unfolding_all rfl) rfl (by decide +kernel)) rfl (@zT _ _ rfl) (@zls _ (K) _ _ _ rfl (@pvx _ 0 _ _ rfl)) (fun _ _ _ _=>(@zg _ _ (0) _ (show (["number","p"]:List Str).Nodup by decide +kernel) rfl (Or.inl rfl) (by trivial))) (fun _ _ _ _=>(@zr _)) (fun _ _ _ _=>(@zi _ _ _ _ _ _ _ _ (@zE _) (@pvx _ 0 _ _ rfl) (@pvx _ 1 _ _ rfl))) (by intro _; rfl)) (@zi _ _ _ _ _ _ _ _ (@zfA _) (@zY _ _ _ _ (@ya _ _ _ (@zf _ _ _ _) (by rfl))) (@zi _ _ _ _ _ _ _ _ (@zR _) (@pvx _ 2 _ _ rfl) (@zn _ _ _ _ _ _ _ _ _ (@zbf _ (K) rfl) (by rfl) T.len_ boot_len (@ya _ _ _ (@pvx _ 0 _ _ rfl) (by rfl)) (by decide) (by decide) (by rfl) (by rfl)))))) (by intro _; rfl)))))),?_⟩
  have hsl:=sizeLine_eq
  have hlen:=Paired.length hb
  have wdl:wd rows≤100:=by
   by_cases e:rows = []
   ·subst e; exact Nat.zero_le _
   ·obtain⟨r,hr,er⟩:=zcX e
    rw [← er]; exact hw r hr
  refine⟨_,rfl,a,bs,rows,rfl,.inr (SqT.of ha),znc hb,by omega,fun H1 s1=>?_⟩
  refine⟨_,rfl,a,rfl,⟨_,SqT.of (s1 _ _ ha)⟩,zI (n:=rows.length) (fun m ys H'=>zw H H'∧∃ ls:List Addr,ys=ls.map V.ref∧LsA H' ls ((rows.take m).map (zi9 p (wd rows)))) ⟨s1,[],rfl,.nil⟩ ?_ ?_ ?_ ?_⟩
  ·rintro m ys H2 hm ⟨s2,_⟩
   exact⟨_,.ref (bs[m]'(by omega)),SqT.of (s2 _ _ ha),by rw [List.getElem?_map,List.getElem?_eq_getElem (by omega)]; rfl⟩
  ·rintro ys H2 ⟨s2,_⟩
   exact⟨_,SqT.of (s2 _ _ ha),by rw [List.length_map]; omega⟩
  ·rintro m x ys H2 H3 hm ⟨s2,ls,rfl,hls⟩ ⟨rfl,hx⟩
   obtain⟨b,rfl,hbm⟩:=zU (hx _ (SqT.of (s2 _ _ ha)))
   obtain⟨r,hr,hrb⟩:=Paired.get hb hbm
   have h2b:=s2 _ _ hrb
   have hrl:=hw r (List.mem_of_getElem? hr)
   have hrw:=zfl (List.mem_of_getElem? hr)
   refine gY ?_
   refine⟨_,rfl,b,rfl,⟨_,SqT.of h2b⟩,zdx (fs:=(r.map (· % p)).map V.int) (SqT.of h2b) (by simp) (by rw [List.length_map]; omega) (fun i x y R B hx hy hR=>?_) (fun D hD=>?_)⟩
   ·obtain⟨c,rfl,hc⟩:=zao hx
    rw [List.getElem?_map,List.getElem?_map,hc] at hy
    have hy:V.int (c % p)=y:=by simpa using hy
    subst hy
    refine gY ?_
    exact⟨_,rfl,_,rfl,_,_,rfl,rfl,(by omega),hR⟩
   ·have sD:=zb (o:=.lst ((r.map (· % p)).map V.int)) hD
    refine⟨by show 1≤sizeLine; omega,fun Z hZ=>?_⟩
    have sZ:=zb (o:=.lst [V.int 0]) hZ
    refine⟨_,rfl,_,rfl,b,_,rfl,.inr (SqT.of ((sD.trans sZ) _ _ h2b)),_,_,rfl,rfl,?_⟩
    have el:(r.map V.int).length=r.length:=List.length_map ..
    rw [el]
    have ek:((wd rows:Int) - (r.length:Int)).toNat=wd rows - r.length:=by omega
    refine⟨Z,_,_,rfl,rfl,zc,by omega,by omega,by rw [ek]; show 1*(wd rows - r.length)≤sizeLine; omega,fun Y hY=>?_⟩
    rw [ek,List.flatten_replicate_singleton]
    have sY:=zb (o:=.lst (List.replicate (wd rows - r.length) (V.int 0))) hY
    refine⟨D,Y,_,_,rfl,rfl,(sZ.trans sY) _ _ zc,zc,by rw [List.length_map,List.length_map,List.length_replicate]; omega,fun W hW=>?_⟩
    have sW:=((sD.trans sZ).trans sY).trans (zb (o:=.lst ((r.map (· % p)).map V.int++List.replicate (wd rows - r.length) (V.int 0))) hW)
    have hll:ls.length=m:=by rw [Paired.length hls,List.length_map,List.length_take]; omega
    refine⟨by rw [List.length_map]; omega,s2.trans sW,ls++[W],by rw [List.map_append]; rfl,?_⟩
    rw [take_snoc hr,List.map_append]
    refine Paired.snoc (hls.same sW) ?_
    rw [zc]
    unfold zi9
    rw [List.map_append,List.map_replicate]
  ·rintro ys H2 D ⟨s2,ls,rfl,hls⟩ hD
   rw [List.take_of_length_le (Nat.le_refl _),zkP fun r hr=>zfl hr] at hls
   exact q D ls _ (s2.free hD) (s2.trans (zb hD)) zc (hls.same (zb hD))
def tnd (rows:List (List Int)) (w:Nat):List (List Int):=(List.range w).map fun i=>rows.map fun r=>gl r i
theorem zkQ (rows:List (List Int)) (w:Nat):tnd rows (w+1)=tnd rows w++[rows.map fun r=>gl r w]:=by
 unfold tnd
 rw [List.range_succ,List.map_append]
 rfl
def zjc (K:PySem.W.Frag):Sp:=fun vs H Q _=>∃ (a:Addr) (bs:List Addr) (rows:List (List Int)) (w:Nat),vs = [.ref a,.int (w:Int)]∧H a=some (.lst (bs.map V.ref))∧LsA H bs rows∧(∀ r∈rows,w≤r.length)∧rows.length≤1000∧w≤1000 ∧
 ∀ (l:Addr) (ls:List Addr) (H':Hp),H l=none→zw H H'→H' l=some (.lst (ls.map V.ref))→LsA H' ls (tnd rows w)→Q (.ref l) H'
theorem zjd:FnScope ["lines","width"] ["lines","width"] (zh zcs):=⟨rfl,rfl,rfl,by decide +kernel,rfl,by decide +kernel,by decide +kernel⟩
theorem zje {fd:FuncData} (T:Txt K mg t) (F:Fun K "turned" "turned" zcs t.turned fd):FnOk P w K mg base CX0 1 t.turned fd ["lines","width"] (zjc K):=by
 refine F.ok zjd (fun vs H Q E h=>?_) (fun cdv A outer s H vs Q E hr h=>?_)
 ·obtain⟨a,bs,rows,wi,rfl,_⟩:=h
  rfl
 ·obtain⟨a,bs,rows,wi,rfl,ha,hb,hw,hn,hwn,q⟩:=h
  refine⟨_,(@zk _ _ _ (@zz _ _ _ _ (@zA _ _ _ _ _ _ _ _ _ _ _ _ _ (CompSc.of (N':=["at","lines"]) (ix:=[none,some 0]) (zh zcs) ["lines","width"] rfl rfl (by decide +kernel)) rfl (@zT _ _ rfl) (@zH _ _ _ _ _ _ rfl T.range_ (@ya _ _ _ (@pvx _ 1 _ _ rfl) (by rfl)) (by rfl)) (fun _ _ _ _=>(@zg _ _ (0) _ (show (["at","lines"]:List Str).Nodup by decide +kernel) rfl (Or.inr rfl) (by trivial))) (fun _ _ _ _=>(@zr _)) (fun _ _ _ _=>(@zA _ _ _ _ _ _ _ _ _ _ _ _ _ (CompSc.of (N':=["line","at"]) (ix:=[none,some 0]) ({ kind:=.function,names:=[(".0",.local),("at",.cell),("lines",.cell)],isGenerator:=false,isCoroutine:=false }) ["at","lines"] (by with_unfolding_all rfl) rfl (by decide +kernel)) rfl (@zT _ _ rfl) (@zgI _ (K) _ _ _ rfl (@pvx _ 1 _ _ rfl)) (fun _ _ _ _=>(@zg _ _ (0) _ (show (["line","at"]:List Str).Nodup by decide +kernel) rfl (Or.inl rfl) (by trivial))) (fun _ _ _ _=>(@zr _)) (fun _ _ _ _=>(@zy _ _ _ _ _ _ _ (@zar _ (K) rfl) (@pvx _ 0 _ _ rfl) (@pvx _ 1 _ _ rfl) (fun _ _=>rfl))) (by intro _; rfl))) (by intro _; rfl)))),?_⟩
  have hsl:=sizeLine_eq
  have hlen:=Paired.length hb
  refine⟨_,rfl,(wi:Int),rfl,by omega,by omega,zI (n:=wi) (fun m ys H'=>zw H H'∧∃ ls:List Addr,ys=ls.map V.ref∧LsA H' ls (tnd rows m)) ⟨fun _ _ e=>e,[],rfl,.nil⟩ (fun m ys H' hm _=>by show m < (wi:Int).toNat; omega) (fun ys H' _=>by show (wi:Int).toNat≤wi; omega) ?_ ?_⟩
  ·rintro i x ys H1 H2 hi ⟨s1,ls,rfl,hls⟩ ⟨rfl,rfl⟩
   have hz:ls.length=i:=by rw [Paired.length hls]; unfold tnd; rw [List.length_map,List.length_range]
   have h1a:=s1 _ _ ha
   have h1b:=hb.same s1
   refine⟨_,rfl,a,rfl,⟨_,SqL.of h1a⟩,zaC (fs:=(rows.map fun r:List Int=>gl r i).map V.int) (SqL.of h1a) (by simp [hlen]) (by simp; omega) (fun j x y R B hx hy hR=>?_) (fun D hD=>?_)⟩
   ·obtain⟨b,rfl,hbi⟩:=zU hx
    obtain⟨r,hr,hrb⟩:=Paired.get h1b hbi
    rw [List.getElem?_map,List.getElem?_map,hr] at hy
    have hy:V.int (gl r i)=y:=by simpa using hy
    subst hy
    have hwr:=hw r (List.mem_of_getElem? hr)
    have hat:atI (r.map V.int) (0+(i:Int))=some (.int (gl r i)):=by
     rw [Int.zero_add]
     refine zM ?_
     rw [List.getElem?_map,List.getElem?_eq_getElem (by omega),zaR (List.getElem?_eq_getElem (by omega))]
     rfl
    exact⟨_,rfl,_,rfl,b,_,_,_,rfl,rfl,SqL.of hrb,hat,hR⟩
   ·refine⟨by rw [List.length_map]; omega,s1.trans (zb hD),ls++[D],by simp,?_⟩
    rw [zkQ]
    exact Paired.snoc (hls.same (zb hD)) zc
  ·rintro ys H1 D ⟨s1,ls,rfl,hls⟩ hD
   exact q D ls _ (s1.free hD) (s1.trans (zb hD)) zc (hls.same (zb hD))
theorem zgX {n w:Nat} {g:Nat→Nat→Int}:tnd (zaf n w g) w=zaf w n fun i j=>g j i:=by
 unfold tnd zaf
 refine List.map_congr_left fun i hi=>?_
 rw [List.map_map]
 refine List.map_congr_left fun j hj=>?_
 show gl ((List.range w).map fun i=>g j i) i=g j i
 exact zaR (by rw [List.getElem?_map,List.getElem?_range (List.mem_range.mp hi)]; rfl)
theorem zcc {n w:Nat} {g:Nat→Nat→Int}:∀ r∈zaf n w g,r.length=w:=fun r hr=>by
 unfold zaf at hr
 obtain⟨j,_,rfl⟩:=List.mem_map.mp hr
 rw [List.length_map,List.length_range]
theorem zlW {n w:Nat} {g:Nat→Nat→Int} (h:n=0→w=0):wd (zaf n w g)=w:=by
 by_cases e:zaf n w g = []
 ·have:n=0:=by rw [← zav n w g,e]; rfl
  rw [e,h this]; rfl
 ·obtain⟨r,hr,er⟩:=zcX e
  rw [← er,zcc r hr]
def cu (rows:List (List Int)) (j i:Nat):Int:=gl (rows.getD j []) i
theorem znd {p x y:Int} {n w:Nat} {c:Nat→Nat→Int} {j i:Nat}:sh x w (fun s=>sh y n (fun t=>c t s % p) j % p) i % p=mv x y n w c j i % p:=by
 refine Cg.mod_eq (zeC (Cg.refl p x) fun s _=>(Cg.emod p _).trans (zeC (Cg.refl p y) fun t _=>Cg.emod p _))
def mvd (p x y:Int) (rows:List (List Int)):List (List Int):=zaf rows.length (wd rows) fun j i=>mv x y rows.length (wd rows) (cu rows) j i % p
theorem zkR {rows:List (List Int)} {m:Nat} (h:∀ r∈rows,r.length≤m):wd rows≤m:=by
 by_cases e:rows = []
 ·subst e; exact Nat.zero_le _
 ·obtain⟨r,hr,er⟩:=zcX e
  rw [← er]; exact h r hr
theorem zne {H:Hp} {bs:List Addr} {rows:List (List Int)} (h:LsA H bs rows):RwA H bs rows:=Paired.mono (fun _ _ z=>.inl z) h
def zkS (K:PySem.W.Frag):Sp:=fun vs H Q _=>∃ (p:Int) (a pt:Addr) (x y:Int) (bs:List Addr) (rows:List (List Int)),vs = [.int p,.ref a,.ref pt]∧5≤p∧p≤97∧0≤x∧x < p∧0≤y∧y < p∧H a=some (.tup (bs.map V.ref))∧zbR H bs rows∧H pt=some (.tup [.int x,.int y])∧rows.length≤100∧(∀ r∈rows,r.length≤100) ∧
 ∀ (l:Addr) (ls:List Addr) (H':Hp),H l=none→zw H H'→H' l=some (.tup (ls.map V.ref))→zbR H' ls (mvd p x y rows)→Q (.ref l) H'
theorem zcw:FnScope ["p","curve","point","a","b","lines","columns"] ["p","curve","point"] (zh zdk):=⟨rfl,rfl,rfl,by decide +kernel,rfl,by decide +kernel,by decide +kernel⟩
theorem zkT {fd:FuncData} (T:Txt K mg t) (F:Fun K "moved" "moved" zdk t.moved fd):FnOk P w K mg base CX0 3 t.moved fd ["p","curve","point"] (zkS K):=by
 obtain⟨fd_raised,F_raised,b_raised⟩:=T.f_raised
 have G_raised:=zi7 (P:=P) (w:=w) (base:=base) T F_raised
 obtain⟨fd_filled,F_filled,b_filled⟩:=T.f_filled
 have G_filled:=zjb (P:=P) (w:=w) (base:=base) T F_filled
 obtain⟨fd_turned,F_turned,b_turned⟩:=T.f_turned
 have G_turned:=zje (P:=P) (w:=w) (base:=base) T F_turned
 obtain⟨fd_width_of,F_width_of,b_width_of⟩:=T.f_width_of
 have G_width_of:=zdO (P:=P) (w:=w) (base:=base) T F_width_of
 refine F.ok zcw (fun vs H Q E h=>?_) (fun cdv A outer s H vs Q E hr h=>?_)
 ·obtain⟨p,a,pt,x,y,bs,rows,rfl,_⟩:=h
  rfl
 ·obtain⟨p,a,pt,x,y,bs,rows,rfl,p5,p97,x0,x1,y0,y1,ha,hb,hpt,hn,hw,q⟩:=h
  refine⟨_,(@ze _ _ _ _ _ (@zaX _ _ _ _ _ _ (@pvx _ 2 _ _ rfl) (@zaP _ _ _ _ _ _ rfl (@zj _ _ _ _ _ (@zg _ _ (3) _ zcw.nd rfl (Or.inl rfl) (by trivial)) (@zj _ _ _ _ _ (@zg _ _ (4) _ zcw.nd rfl (Or.inl rfl) (by trivial)) (@zB _) (by rfl)) (by rfl)) (by rfl) (by rfl)) (by rfl) (by rfl) (by rfl)) (by exact (@ze _ _ _ _ _ (@zm _ _ (5) _ _ _ _ zcw.nd rfl (Or.inl rfl) (@zp _ _ _ _ _ _ _ _ _ _ _ _ _ _ _ _ G_raised (hr.mono (by decide)) rfl T.m_raised F_raised.kp b_raised .nil (@zN _) (@za _ _ _ _ _ (@pvx _ 0 _ _ rfl) (@za _ _ _ _ _ (@zp _ _ _ _ _ _ _ _ _ _ _ _ _ _ _ _ G_filled (hr.mono (by decide)) rfl T.m_filled F_filled.kp b_filled .nil (@zN _) (@za _ _ _ _ _ (@pvx _ 0 _ _ rfl) (@ya _ _ _ (@pvx _ 1 _ _ rfl) (by rfl)) (by rfl)) (by decide) (by rfl) (by rfl)) (@ya _ _ _ (@pvx _ 4 _ _ rfl) (by rfl)) (by rfl)) (by rfl)) (by decide) (by rfl) (by rfl)) (by rfl) (by trivial)) (by exact (@ze _ _ _ _ _ (@zm _ _ (6) _ _ _ _ zcw.nd rfl (Or.inl rfl) (@zp _ _ _ _ _ _ _ _ _ _ _ _ _ _ _ _ G_raised (hr.mono (by decide)) rfl T.m_raised F_raised.kp b_raised .nil (@zN _) (@za _ _ _ _ _ (@pvx _ 0 _ _ rfl) (@za _ _ _ _ _ (@zp _ _ _ _ _ _ _ _ _ _ _ _ _ _ _ _ G_turned (hr.mono (by decide)) rfl T.m_turned F_turned.kp b_turned .nil (@zN _) (@za _ _ _ _ _ (@pvx _ 5 _ _ rfl) (@ya _ _ _ (@zp _ _ _ _ _ _ _ _ _ _ _ _ _ _ _ _ G_width_of (hr.mono (by decide)) rfl T.m_width_of F_width_of.kp b_width_of .nil (@zN _) (@ya _ _ _ (@pvx _ 5 _ _ rfl) (by rfl)) (by decide) (by rfl) (by rfl)) (by rfl)) (by rfl)) (by decide) (by rfl) (by rfl)) (@ya _ _ _ (@pvx _ 3 _ _ rfl) (by rfl)) (by rfl)) (by rfl)) (by decide) (by rfl) (by rfl)) (by rfl) (by trivial)) (by exact (@zk _ _ _ (@zz _ _ _ _ (@zam _ _ _ _ _ _ _ _ _ (@zaQ _) (by rfl) T.tuple_ boot_tuple (@ya _ _ _ (@zA _ _ _ _ _ _ _ _ _ _ _ _ _ (CompSc.of (N':=["line"]) (ix:=[none]) (zh zdk) ["p","curve","point","a","b","lines","columns"] rfl rfl (by decide +kernel)) rfl (@zT _ _ rfl) (@z9 _ _ _ _ (@zp _ _ _ _ _ _ _ _ _ _ _ _ _ _ _ _ G_turned (hr.mono (by decide)) rfl T.m_turned F_turned.kp b_turned .nil (@zN _) (@za _ _ _ _ _ (@pvx _ 6 _ _ rfl) (@ya _ _ _ (@zn _ _ _ _ _ _ _ _ _ (@zx _) (by rfl) T.len_ boot_len (@ya _ _ _ (@pvx _ 5 _ _ rfl) (by rfl)) (by decide) (by decide) (by rfl) (by rfl)) (by rfl)) (by rfl)) (by decide) (by rfl) (by rfl))) (fun _ _ _ _=>(@zg _ _ (0) _ (show (["line"]:List Str).Nodup by decide +kernel) rfl (Or.inl rfl) (by trivial))) (fun _ _ _ _=>(@zr _)) (fun _ _ _ _=>(@zam _ _ _ _ _ _ _ _ _ (zcq (K:=K) rfl) (by rfl) T.tuple_ boot_tuple (@ya _ _ _ (@pvx _ 0 _ _ rfl) (by rfl)) (by decide) (by decide) (by rfl) (by rfl))) (by intro _; rfl)) (by rfl)) (by decide) (by decide) (by rfl) (by rfl)))))))))),?_⟩
  have hsl:=sizeLine_eq
  have wdl:=zkR hw
  have er:∀ z:Int,0≤z % p∧z % p < p:=fun z=>⟨Int.emod_nonneg _ (by omega),Int.emod_lt_of_pos _ (by omega)⟩
  refine⟨_,rfl,pt,_,rfl,SqT.of hpt,rfl,_,_,rfl,_,_,rfl,rfl,?_⟩
  refine⟨_,rfl,_,rfl,_,rfl,p,a,bs,rows,rfl,p5,p97,ha,hb,hn,hw,fun l1 ls1 H1 hl1 s1 h1 g1=>?_⟩
  refine⟨_,rfl,p,y,l1,ls1,rows.length,wd rows,_,rfl,h1,g1,by omega,by omega,p5,p97,y0,y1,fun j i _ _=>er _,fun l2 ls2 H2 hl2 s2 h2 g2=>?_⟩
  have wz:rows.length=0→wd rows=0:=fun e=>by rw [List.length_eq_zero_iff.mp e]; rfl
  refine⟨_,rfl,_,rfl,_,rfl,l2,ls2,_,rfl,.inl (SqL.of h2),zne g2,by rw [zav]; omega,fun H3 s3=>?_⟩
  rw [zlW wz]
  refine⟨l2,ls2,_,wd rows,rfl,s3 _ _ h2,g2.same s3,fun r hr=>by rw [zcc r hr]; exact Nat.le_refl _,by rw [zav]; omega,by omega,fun l4 ls4 H4 hl4 s4 h4 g4=>?_⟩
  rw [zgX] at g4
  refine⟨_,rfl,p,x,l4,ls4,wd rows,rows.length,_,rfl,h4,g4,by omega,by omega,p5,p97,x0,x1,fun j i _ _=>er _,fun l5 ls5 H5 hl5 s5 h5 g5=>?_⟩
  have s25:=(s3.trans s4).trans s5
  have e2:((ls2.map V.ref).length:Int)=(rows.length:Int):=by rw [List.length_map,Paired.length g2,zav]
  refine⟨_,rfl,_,rfl,l2,_,rfl,.inl (SqL.of (s25 _ _ h2)),?_⟩
  rw [e2]
  refine⟨l5,ls5,_,rows.length,rfl,h5,g5,fun r hr=>by rw [zcc r hr]; exact Nat.le_refl _,by rw [zav]; omega,by omega,fun l6 ls6 H6 hl6 s6 h6 g6=>?_⟩
  have eg:tnd (zaf (wd rows) rows.length fun j i=>sh x (wd rows) (fun t=>sh y rows.length (fun t_1=>gl (rows.getD t_1 []) t % p) i % p) j % p) rows.length=mvd p x y rows:=by
   rw [zgX]
   exact zbi fun j i _ _=>znd
  rw [eg] at g6
  have eml:(mvd p x y rows).length=rows.length:=zav _ _ _
  have hlen:=Paired.length g6
  refine⟨l6,rfl,⟨_,SqL.of h6⟩,zI (n:=rows.length) (fun m ys H'=>zw H6 H'∧∃ us:List Addr,ys=us.map V.ref∧zbR H' us ((mvd p x y rows).take m)) ⟨fun _ _ e=>e,[],rfl,.nil⟩ ?_ ?_ ?_ ?_⟩
  ·rintro m ys H7 hm ⟨s7,_⟩
   exact⟨_,.ref (ls6[m]'(by omega)),SqL.of (s7 _ _ h6),by rw [List.getElem?_map,List.getElem?_eq_getElem (by omega)]; rfl⟩
  ·rintro ys H7 ⟨s7,_⟩
   exact⟨_,SqL.of (s7 _ _ h6),by rw [List.length_map]; omega⟩
  ·rintro m z ys H7 H8 hm ⟨s7,us,rfl,hus⟩ ⟨rfl,hx⟩
   obtain⟨b,rfl,hbm⟩:=zU (hx _ (SqL.of (s7 _ _ h6)))
   obtain⟨r,hr,hrb⟩:=Paired.get g6 hbm
   have hz:us.length=m:=by rw [Paired.length hus,List.length_take]; omega
   refine gY ?_
   refine⟨_,rfl,b,_,rfl,.inl ⟨SqL.of (s7 _ _ hrb),fun D hD=>⟨by rw [List.length_map]; omega,s7.trans (zb hD),us++[D],by simp,?_⟩⟩⟩
   rw [take_snoc hr]
   exact Paired.snoc (hus.same (zb hD)) zc
  ·rintro ys H7 D ⟨s7,us,rfl,hus⟩ hD
   rw [List.take_of_length_le (by omega)] at hus
   refine⟨D,_,rfl,.inl ⟨SqL.of zc,fun l hl=>?_⟩⟩
   have sf:=(((((s1.trans s2).trans s25).trans s6).trans s7).trans (zb (o:=.lst (us.map V.ref)) hD))
   exact q l us _ (sf.free hl) (sf.trans (zb hl)) zc ((hus.same (zb hD)).same (zb hl))
def wts (ts:List (Int×Int)):List Int:=ts.map fun q=>q.1+q.2
theorem zlX (ts:List (Int×Int)):(wts ts).length=ts.length:=by simp [wts]
def zf6 (K:PySem.W.Frag):Sp:=fun vs H Q _=>∃ (p:Int) (a pt:Addr) (x y:Int) (bs:List Addr) (rows:List (List Int)),vs = [.int p,.ref a,.ref pt]∧5≤p∧p≤97∧0≤x∧x < p∧0≤y∧y < p∧H a=some (.tup (bs.map V.ref))∧zbR H bs rows∧H pt=some (.tup [.int x,.int y])∧rows.length≤100∧(∀ r∈rows,r.length≤100) ∧
 ∀ (M:Int) (H':Hp),zw H H'→(wts (zaB (mvd p x y rows) rows.length) = []→M=0)→(wts (zaB (mvd p x y rows) rows.length)≠[]→M∈wts (zaB (mvd p x y rows) rows.length)∧∀ z∈wts (zaB (mvd p x y rows) rows.length),M≤z)→Q (.int M) H'
theorem zf7:FnScope ["p","curve","point"] ["p","curve","point"] (zh zbm):=⟨rfl,rfl,rfl,by decide +kernel,rfl,by decide +kernel,by decide +kernel⟩
theorem zf8 {fd:FuncData} (T:Txt K mg t) (F:Fun K "weight_at" "weight_at" zbm t.weight_at fd):FnOk P w K mg base CX0 4 t.weight_at fd ["p","curve","point"] (zf6 K):=by
 obtain⟨fd_terms_of,F_terms_of,b_terms_of⟩:=T.f_terms_of
 have G_terms_of:=zdP (P:=P) (w:=w) (base:=base) T F_terms_of
 obtain⟨fd_moved,F_moved,b_moved⟩:=T.f_moved
 have G_moved:=zkT (P:=P) (w:=w) (base:=base) T F_moved
 refine F.ok zf7 (fun vs H Q E h=>?_) (fun cdv A outer s H vs Q E hr h=>?_)
 ·obtain⟨p,a,pt,x,y,bs,rows,rfl,_⟩:=h
  rfl
 ·obtain⟨p,a,pt,x,y,bs,rows,rfl,p5,p97,x0,x1,y0,y1,ha,hb,hpt,hn,hw,q⟩:=h
  refine⟨_,(@zk _ _ _ (@zz _ _ _ _ (@zhx _ false _ _ _ _ _ _ _ _ _ _ _ rfl boot_min rfl T.min_ (@zf _ _ _ _) (@zA _ _ _ _ _ _ _ _ _ _ _ _ _ (CompSc.of (N':=["i","j"]) (ix:=[none,none]) (zh zbm) ["p","curve","point"] rfl rfl (by decide +kernel)) rfl (@zaz _ _ _ _ (@zt _ _ _ rfl (@zt _ _ _ rfl (@zah _)))) (@z9 _ _ _ _ (@zp _ _ _ _ _ _ _ _ _ _ _ _ _ _ _ _ G_terms_of (hr.mono (by decide)) rfl T.m_terms_of F_terms_of.kp b_terms_of .nil (@zN _) (@ya _ _ _ (@zp _ _ _ _ _ _ _ _ _ _ _ _ _ _ _ _ G_moved (hr.mono (by decide)) rfl T.m_moved F_moved.kp b_moved .nil (@zN _) (@za _ _ _ _ _ (@pvx _ 0 _ _ rfl) (@za _ _ _ _ _ (@pvx _ 1 _ _ rfl) (@ya _ _ _ (@pvx _ 2 _ _ rfl) (by rfl)) (by rfl)) (by rfl)) (by decide) (by rfl) (by rfl)) (by rfl)) (by decide) (by rfl) (by rfl))) (fun _ _ _ _=>(@zac _ (K) _ _ _ (2) _ rfl rfl (@zj _ _ _ _ _ (@zg _ _ (0) _ (show (["i","j"]:List Str).Nodup by decide +kernel) rfl (Or.inl rfl) (by trivial)) (@zj _ _ _ _ _ (@zg _ _ (1) _ (show (["i","j"]:List Str).Nodup by decide +kernel) rfl (Or.inl rfl) (by trivial)) (@zB _) (by rfl)) (by rfl)) (by rfl) (by rfl))) (fun _ _ _ _=>(@zr _)) (fun _ _ _ _=>(@zi _ _ _ _ _ _ _ _ (@zG _) (@pvx _ 0 _ _ rfl) (@pvx _ 1 _ _ rfl))) (by intro _; rfl)) (by decide) (by decide)))),?_⟩
  have hsl:=sizeLine_eq
  have el:(mvd p x y rows).length=rows.length:=zav _ _ _
  have ew:∀ r∈mvd p x y rows,r.length≤100:=fun r hr=>by rw [zcc r hr]; exact zkR hw
  refine⟨_,rfl,_,rfl,_,rfl,p,a,pt,x,y,bs,rows,rfl,p5,p97,x0,x1,y0,y1,ha,hb,hpt,hn,hw,fun l0 ls0 H0 hl0 s0 h0 g0=>?_⟩
  refine⟨l0,ls0,mvd p x y rows,rfl,h0,g0,by omega,ew,fun l ts H1 hl s1 h1l hpt=>?_⟩
  rw [el] at hpt
  have hlen:=Paired.length hpt
  have hl2:=zds ew rows.length
  refine⟨l,rfl,⟨_,SqL.of h1l⟩,zaC (fs:=(wts (zaB (mvd p x y rows) rows.length)).map V.int) (SqL.of h1l) (by rw [List.length_map,List.length_map,zlX,hlen]) (by rw [List.length_map]; omega) (fun i x y R B hx hy hR=>?_) (fun D hD=>?_)⟩
  ·obtain⟨b,rfl,hbi⟩:=zU hx
   obtain⟨⟨u,v⟩,hq,hT⟩:=Paired.get hpt hbi
   unfold wts at hy
   rw [List.getElem?_map,List.getElem?_map,hq] at hy
   have hy:V.int (u+v)=y:=by simpa using hy
   subst hy
   refine gY2 (SqT.of hT) ?_
   exact⟨_,rfl,_,rfl,_,_,rfl,rfl,hR⟩
  ·exact⟨D,_,rfl,SqL.of zc,fun M h0 h1=>q M _ ((s0.trans s1).trans (zb hD)) h0 fun hne=>⟨(h1 hne).1,fun x hx=>by have:=(h1 hne).2 x hx; rwa [if_neg (by decide)] at this⟩⟩
end
end My
end
section
set_option maxHeartbeats 4000000
namespace My
open PySem L2 PyProof.Rows
section
variable {P:Program} {w:World} {K:PySem.W.Frag} {mg:Str→Option Value} {base:Heap} {t:Adr}
def zgY (K:PySem.W.Frag):Sp:=fun vs H Q _=>∃ (p x:Int) (m:Nat),vs = [.int p,.int x,.int (m:Int)]∧5≤p∧p≤97∧0≤x∧x < p∧1≤m∧m≤1000 ∧
 ∀ (l:Addr) (H':Hp),H l=none→zw H H'→H' l=some (.lst ((zbt p x m).map V.int))→Q (.ref l) H'
theorem zdQ:FnScope ["p","x","many","found"] ["p","x","many"] (zh zca):=⟨rfl,rfl,rfl,by decide +kernel,rfl,by decide +kernel,by decide +kernel⟩
theorem zdR {fd:FuncData} (T:Txt K mg t) (F:Fun K "_law_powers" "_law_powers" zca t.l_powers fd):FnOk P w K mg base CX0 1 t.l_powers fd ["p","x","many"] (zgY K):=by
 refine F.ok zdQ (fun vs H Q E h=>?_) (fun cdv A outer s H vs Q E hr h=>?_)
 ·obtain⟨p,x,m,rfl,_⟩:=h
  rfl
 ·obtain⟨p,x,m,rfl,p5,p97,x0,x1,m1,m2,q⟩:=h
  refine⟨_,(@ze _ _ _ _ _ (@zm _ _ (3) _ _ _ _ zdQ.nd rfl (Or.inl rfl) (@zY _ _ _ _ (@ya _ _ _ (@zf _ _ _ _) (by rfl))) (by rfl) (by trivial)) (by exact (@ze _ _ _ _ _ (@zeg _ _ _ _ _ _ PassesOwn.never (@zC _ _ _ _ _ _ _ _ (@zei _) (@zn _ _ _ _ _ _ _ _ _ (@zx _) (by rfl) T.len_ boot_len (@ya _ _ _ (@pvx _ 3 _ _ rfl) (by rfl)) (by decide) (by decide) (by rfl) (by rfl)) (@pvx _ 2 _ _ rfl) (zL _)) (@zk _ _ _ (@za3 _ _ _ _ (@zcd _ _ _ _ _ _ _ _ _ _ _ _ PySem.F.plainAttrs_list PySem.F.slot_list_append PySem.F.type_list_append (@zbb _) (@pvx _ 3 _ _ rfl) (@ya _ _ _ (@zi _ _ _ _ _ _ _ _ (@zE _) (@zi _ _ _ _ _ _ _ _ (@zD _) (@zy _ _ _ _ _ _ _ (@zu _) (@pvx _ 3 _ _ rfl) (@zju _ _ _ _ _ _ zg9 (@zf _ _ _ _)) (fun _ _=>rfl)) (@pvx _ 1 _ _ rfl)) (@pvx _ 0 _ _ rfl)) (by rfl)) (by rfl) (by rfl) (by rfl) (by rfl) (by rfl)) (by rfl)))) (by exact (@zk _ _ _ (@zz _ _ _ _ (@zbO _ _ _ _ _ _ _ _ _ _ zcA (@pvx _ 3 _ _ rfl) (@zc3 _) (@zb1 _ _ _ (@pvx _ 2 _ _ rfl))))))))),?_⟩
  have hsl:=sizeLine_eq
  refine⟨by show 1≤sizeLine; omega,fun l hl=>?_⟩
  have e1:(zbt p x 1).map V.int = [V.int 1]:=by
   show [V.int (x ^ 0 % p)] = [V.int 1]
   rw [Int.pow_zero,Int.emod_eq_of_lt (by omega) (by omega)]
  refine⟨fun μ σ H'=>∃ n:Nat,μ=m - n∧1≤n∧n≤m∧σ = [some (.int p),some (.int x),some (.int (m:Int)),some (.ref l)]∧zw H H'∧H' l=some (.lst ((zbt p x n).map V.int)),⟨m - 1,1,rfl,Nat.le_refl _,m1,rfl,zb hl,by rw [e1]; exact zc⟩,?_⟩
  rintro μ σ H1 ⟨n,rfl,n1,nm,rfl,s1,h1⟩
  refine⟨_,rfl,l,_,rfl,.inl (SqL.of h1),_,rfl,_,_,rfl,rfl,_,rfl,?_⟩
  rw [List.length_map,zdj]
  refine zaq (fun hlt=>?_) (fun hge=>?_)
  ·have hlt:=of_decide_eq_true hlt
   have hlt:n < m:=by omega
   obtain⟨n',rfl⟩:∃ n',n=n'+1:=⟨n - 1,by omega⟩
   have g0:=Int.emod_nonneg (x ^ n') (show p≠0 by omega)
   have g1:=Int.emod_lt_of_pos (x ^ n') (show 0 < p by omega)
   refine⟨fun σ' H'=>∃ m',m' < m - (n'+1)∧∃ n:Nat,m'=m - n∧1≤n∧n≤m∧σ' = [some (.int p),some (.int x),some (.int (m:Int)),some (.ref l)]∧zw H H'∧H' l=some (.lst ((zbt p x n).map V.int)),fun _ _ z=>z,?_⟩
   have hat:atI ((zbt p x (n'+1)).map V.int) (-1)=some (.int (x ^ n' % p)):=by
    rw [zfm,List.map_append]
    exact zih
   refine⟨_,rfl,.inl ⟨rfl,_,SqL.of h1⟩,_,rfl,_,rfl,l,_,_,.int (x ^ n' % p),rfl,rfl,SqL.of h1,hat,_,rfl,_,_,rfl,rfl,.inl ⟨by omega,by omega⟩,_,rfl,_,_,rfl,rfl,by omega,l,_,_,rfl,rfl,h1,by rw [List.length_map,zdj]; omega,?_⟩
   refine⟨m - (n'+2),by omega,n'+2,rfl,by omega,by omega,rfl,zW s1 hl,?_⟩
   rw [zc,zfm p x (n'+1),List.map_append]
   have:x ^ n' % p*x % p=x ^ (n'+1) % p:=by
    rw [Int.pow_succ]
    exact ((Cg.emod p _).mul (Cg.refl p x)).mod_eq
   show some (HO.lst (_++[V.int (x ^ n' % p*x % p)]))=_
   rw [this]
   rfl
  ·have hge:¬ ((n:Int) < (m:Int)):=fun h=>hge (decide_eq_true h)
   have hnm:n=m:=by omega
   subst hnm
   refine⟨_,rfl,_,rfl,_,rfl,l,_,rfl,SqL.of h1,fun z hz=>?_⟩
   have ec:zcS ((zbt p x n).map V.int) none (some (n:Int))=(zbt p x n).map V.int:=by
    unfold zcS
    rw [HT.sIx_nat,HT.sIx_none,List.drop_zero,Nat.sub_zero,List.length_map,zdj,Nat.min_self,List.take_of_length_le (by rw [List.length_map,zdj]; exact Nat.le_refl _)]
   rw [ec]
   exact q z _ (s1.free hz) (s1.trans (zb hz)) zc
theorem ch0 (t:Nat):ch t 0=1:=by cases t <;> rfl
def zgZ (K:PySem.W.Frag):Sp:=fun vs H Q _=>∃ (m f:Nat),vs = [.int (m:Int),.int (f:Int)]∧m≤1000∧f≤1000∧Q (.int (ch m f)) H
theorem zbC:FnScope ["many","few","found","k"] ["many","few"] (zh zcb):=⟨rfl,rfl,rfl,by decide +kernel,rfl,by decide +kernel,by decide +kernel⟩
theorem zdS {fd:FuncData} (T:Txt K mg t) (F:Fun K "_law_choose" "_law_choose" zcb t.l_choose fd):FnOk P w K mg base CX0 1 t.l_choose fd ["many","few"] (zgZ K):=by
 refine F.ok zbC (fun vs H Q E h=>?_) (fun cdv A outer s H vs Q E hr h=>?_)
 ·obtain⟨m,f,rfl,_⟩:=h
  rfl
 ·obtain⟨m,f,rfl,hm,hf,q⟩:=h
  refine⟨_,(@ze _ _ _ _ _ (@zm _ _ (2) _ _ _ _ zbC.nd rfl (Or.inl rfl) (@zf _ _ _ _) (by rfl) (by trivial)) (by exact (@ze _ _ _ _ _ (@zal _ _ _ _ _ _ _ _ PassesOwn.never rfl (@zH _ _ _ _ _ _ rfl T.range_ (@ya _ _ _ (@pvx _ 1 _ _ rfl) (by rfl)) (by rfl)) (@zg _ _ (3) _ zbC.nd rfl (Or.inl rfl) (by trivial)) (@zk _ _ _ (@zm _ _ (2) _ _ _ _ zbC.nd rfl (Or.inl rfl) (@zi _ _ _ _ _ _ _ _ (@zaV _) (@zi _ _ _ _ _ _ _ _ (@zD _) (@pvx _ 2 _ _ rfl) (@zi _ _ _ _ _ _ _ _ (@zR _) (@pvx _ 0 _ _ rfl) (@pvx _ 3 _ _ rfl))) (@zi _ _ _ _ _ _ _ _ (@zG _) (@pvx _ 3 _ _ rfl) (@zf _ _ _ _))) (by rfl) (by trivial))) (by intro _; rfl)) (by exact (@zk _ _ _ (@zz _ _ _ _ (@pvx _ 2 _ _ rfl))))))),?_⟩
  refine⟨_,rfl,(f:Int),rfl,by omega,by omega,zad (lo:=0) (n:=(f:Int).toNat) (fun i σ H'=>H'=H∧∃ e:Option V,σ = [some (.int (m:Int)),some (.int (f:Int)),some (.int (ch m i)),e]) ⟨rfl,none,by rw [ch0]; rfl⟩ ?_ ?_⟩
  ·rintro i σ H1 hi ⟨rfl,e,rfl⟩
   refine⟨_,rfl,_,rfl,_,rfl,_,_,rfl,rfl,_,_,rfl,rfl,.inr ⟨by omega,by omega⟩,_,rfl,_,_,rfl,rfl,_,_,rfl,rfl,⟨by omega,by omega⟩,?_⟩
   have e1:ch m i*((m:Int) - (0+(i:Int))) / ((0+(i:Int))+1)=ch m (i+1):=by rw [Int.zero_add]; exact zm5
   refine⟨rfl,some (.int (0+(i:Int))),?_⟩
   rw [← e1]
   rfl
  ·rintro σ H1 ⟨rfl,e,rfl⟩
   have e1:(f:Int).toNat=f:=by omega
   rw [e1]
   exact⟨_,rfl,q⟩
def zjf (K:PySem.W.Frag):Sp:=fun vs H Q _=>∃ (k:Int) (a:Addr) (bs:List Addr) (rows:List (List Int)),vs = [.int k,.ref a]∧0≤k∧k≤1000∧H a=some (.tup (bs.map V.ref))∧zbR H bs rows∧rows.length≤250∧(∀ r∈rows,r.length≤250)∧zaB rows rows.length≠[] ∧
 ∀ (M:Int) (H':Hp),zw H H'→M∈szs k (zaB rows rows.length)→(∀ x∈szs k (zaB rows rows.length),x≤M)→Q (.int M) H'
theorem zcP:FnScope ["k","curve","sizes","j","line"] ["k","curve"] (zh zcv):=⟨rfl,rfl,rfl,by decide +kernel,rfl,by decide +kernel,by decide +kernel⟩
theorem zjg {fd:FuncData} (T:Txt K mg t) (F:Fun K "_law_size" "_law_size" zcv t.l_size fd):FnOk P w K mg base CX0 1 t.l_size fd ["k","curve"] (zjf K):=by
 refine F.ok zcP (fun vs H Q E h=>?_) (fun cdv A outer s H vs Q E hr h=>?_)
 ·obtain⟨k,a,bs,rows,rfl,_⟩:=h
  rfl
 ·obtain⟨k,a,bs,rows,rfl,k0,k1,ha,hb,hn,hw,hne,q⟩:=h
  refine⟨_,(@ze _ _ _ _ _ (@zm _ _ (2) _ _ _ _ zcP.nd rfl (Or.inl rfl) (@zY _ _ _ _ (@zd _)) (by rfl) (by trivial)) (by exact (@ze _ _ _ _ _ (@zal _ _ _ _ _ _ _ _ PassesOwn.never rfl (@zc7 _ _ _ _ _ _ _ _ rfl T.enumerate_ (@ya _ _ _ (@pvx _ 1 _ _ rfl) (by rfl)) (by rfl)) (@zaP _ _ _ _ _ _ rfl (@zj _ _ _ _ _ (@zg _ _ (3) _ zcP.nd rfl (Or.inr rfl) (by trivial)) (@zj _ _ _ _ _ (@zg _ _ (4) _ zcP.nd rfl (Or.inl rfl) (by trivial)) (@zB _) (by rfl)) (by rfl)) (by rfl) (by rfl)) (@zk _ _ _ (@za3 _ _ _ _ (@zcd _ _ _ _ _ _ _ _ _ _ _ _ PySem.F.plainAttrs_list PySem.F.slot_list_extend PySem.F.type_list_extend (@zfe _) (@pvx _ 2 _ _ rfl) (@ya _ _ _ (@zA _ _ _ _ _ _ _ _ _ _ _ _ _ (CompSc.of (N':=["i","number","k","j"]) (ix:=[none,none,some 0,some 3]) (zh zcv) ["k","curve","sizes","j","line"] rfl rfl (by decide +kernel)) rfl (@zaz _ _ _ _ (@zt _ _ _ rfl (@zt _ _ _ rfl (@zah _)))) (@zc7 _ _ _ _ _ _ _ _ rfl T.enumerate_ (@ya _ _ _ (@pvx _ 4 _ _ rfl) (by rfl)) (by rfl)) (fun _ _ _ _=>(@zac _ (K) _ _ _ (2) _ rfl rfl (@zj _ _ _ _ _ (@zg _ _ (0) _ (show (["i","number","k","j"]:List Str).Nodup by decide +kernel) rfl (Or.inl rfl) (by trivial)) (@zj _ _ _ _ _ (@zg _ _ (1) _ (show (["i","number","k","j"]:List Str).Nodup by decide +kernel) rfl (Or.inl rfl) (by trivial)) (@zB _) (by rfl)) (by rfl)) (by rfl) (by rfl))) (fun _ _ _ _=>(@zbP _ _ _ (@zC _ _ _ _ _ _ _ _ (@zc1 _) (@pvx _ 1 _ _ rfl) (@zf _ _ _ _) (zL _)))) (fun _ _ _ _=>(@zi _ _ _ _ _ _ _ _ (@zG _) (@pvx _ 0 _ _ rfl) (@zi _ _ _ _ _ _ _ _ (@zD _) (@zi _ _ _ _ _ _ _ _ (@zR _) (@pvx _ 2 _ _ rfl) (@zf _ _ _ _)) (@pvx _ 3 _ _ rfl)))) (by intro _; rfl)) (by rfl)) (by rfl) (by rfl) (by rfl) (by rfl) (by rfl)) (by rfl))) (by intro _; rfl)) (by exact (@zk _ _ _ (@zz _ _ _ _ (@zn _ _ _ _ _ _ _ _ _ (@zbS _ rfl) (by rfl) T.max_ boot_max (@ya _ _ _ (@pvx _ 2 _ _ rfl) (by rfl)) (by decide) (by decide) (by rfl) (by rfl)))))))),?_⟩
  have hsl:=sizeLine_eq
  have hlen:=Paired.length hb
  refine⟨Nat.zero_le _,fun S hS=>?_⟩
  refine⟨_,rfl,a,_,rfl,SqT.of ((zb hS) _ _ ha),zjG (n:=rows.length) (fun m σ H'=>∃ e3 e4:Option V,σ = [some (.int k),some (.ref a),some (.ref S),e3,e4]∧zw H H'∧H' S=some (.lst ((szs k (zaB rows m)).map V.int))) ⟨none,none,rfl,zb hS,zc⟩ ?_ ?_ ?_ ?_⟩
  ·rintro m σ H1 hm ⟨e3,e4,rfl,s1,h1⟩
   exact⟨_,.ref (bs[m]'(by omega)),SqT.of (s1 _ _ ha),by rw [List.getElem?_map,List.getElem?_eq_getElem (by omega)]; rfl⟩
  ·rintro σ H1 ⟨e3,e4,rfl,s1,h1⟩
   exact⟨_,SqT.of (s1 _ _ ha),by rw [List.length_map]; omega⟩
  ·rintro m y σ H1 H2 hm ⟨e3,e4,rfl,s1,h1⟩ ⟨T,v,hT,rfl,rfl,hv⟩
   obtain⟨b,rfl,hbm⟩:=zU (hv _ (SqT.of (s1 _ _ ha)))
   obtain⟨r,hr,hrb⟩:=Paired.get hb hbm
   have hrl:=hw r (List.mem_of_getElem? hr)
   have er:rows.getD m []=r:=by simp [List.getD,hr]
   refine⟨T,_,rfl,SqT.of zc,rfl,_,_,rfl,_,_,rfl,rfl,?_⟩
   have sT:=s1.trans (zb (o:=.tup [.int m,.ref b]) hT)
   have h2:=(zb (o:=.tup [.int m,.ref b]) hT) _ _ h1
   generalize upd H1 T (.tup [.int m,.ref b])=H2 at sT h2 ⊢
   have h2b:=sT _ _ hrb
   refine⟨_,rfl,.inl ⟨rfl,_,SqL.of h2⟩,_,rfl,b,_,rfl,SqT.of h2b,zI (n:=r.length) (fun j ys H'=>ys=(szs k (trm m r j)).map V.int∧zw H2 H') ⟨rfl,fun _ _ e=>e⟩ ?_ ?_ ?_ ?_⟩
   ·rintro j ys H3 hj ⟨rfl,s3⟩
    exact⟨_,.int (r[j]'hj),SqT.of (s3 _ _ h2b),by rw [List.getElem?_map,List.getElem?_eq_getElem hj]; rfl⟩
   ·rintro ys H3 ⟨rfl,s3⟩
    exact⟨_,SqT.of (s3 _ _ h2b),by rw [List.length_map]; omega⟩
   ·rintro j z ys H3 H4 hj ⟨rfl,s3⟩ ⟨T',v',hT',rfl,rfl,hv'⟩
    obtain⟨x,rfl,hx⟩:=zao (hv' _ (SqT.of (s3 _ _ h2b)))
    have hgx:gl r j=x:=zaR hx
    have sT':=s3.trans (zb (o:=.tup [.int j,.int x]) hT')
    have l2:=zdi m r j
    refine⟨T',_,rfl,SqT.of zc,rfl,_,_,rfl,_,_,rfl,rfl,?_⟩
    generalize upd H3 T' (.tup [.int j,.int x])=H4 at sT' ⊢
    refine⟨_,rfl,rfl,_,rfl,?_⟩
    refine zaq (fun hx0=>?_) (fun hx0=>?_)
    ·have hx0:x≠0:=by simpa using hx0
     refine⟨_,rfl,_,rfl,_,_,rfl,rfl,_,rfl,_,_,rfl,rfl,.inl ⟨by omega,by omega⟩,_,_,rfl,rfl,by rw [List.length_map,zeb]; omega,?_,sT'⟩
     rw [zdh,if_pos (by rw [hgx]; exact hx0),zig,List.map_append]
     rfl
    ·have hx0:x=0:=by simpa using hx0
     refine⟨?_,sT'⟩
     rw [zdh,if_neg (by rw [hgx,hx0]; simp)]
   ·rintro ys H3 D ⟨rfl,s3⟩ hD
    have h3S:=s3 _ _ h2
    have dS:D≠S:=(zq h3S hD).symm
    have l1:=zfn hw m
    have l2:=zdi m r r.length
    refine⟨S,D,_,_,rfl,rfl,by rw [zl dS.symm]; exact h3S,zc,by rw [List.length_map,List.length_map,zeb,zeb]; omega,?_⟩
    refine⟨_,_,rfl,zW ((sT.trans s3).trans (zb hD)) hS,?_⟩
    rw [zc,zcJ,er,zig,List.map_append]
  ·rintro σ H1 ⟨e3,e4,rfl,s1,h1⟩
   exact⟨_,rfl,S,_,rfl,SqL.of h1,by unfold szs; simpa using hne,fun M hM hM'=>q M _ s1 hM hM'⟩
theorem zkU {p:Int} (p0:0 < p) {n:Nat} {M:List (List Int)} (hM:∀ row∈M,row.length=n):Gs p n M 0 [] (M.map fun row=>row.map fun c=>c % p):=by
 refine⟨by rw [List.length_map],fun row hr=>?_,fun v=>?_,Nat.zero_le _,fun i c row h=>by simp at h,fun i row _ _ j hj=>by omega,List.nodup_nil,fun c hc=>by cases hc⟩
 ·obtain⟨r,hr',rfl⟩:=List.mem_map.mp hr
  refine⟨by rw [List.length_map]; exact hM r hr',fun c hc=>?_⟩
  obtain⟨d,_,rfl⟩:=List.mem_map.mp hc
  exact⟨Int.emod_nonneg _ (by omega),Int.emod_lt_of_pos _ p0⟩
 ·have hd:∀ row∈M,Cg p (dot n (row.map fun c=>c % p) v) (dot n row v):=fun row hr=>by
   unfold dot
   exact zdK fun j hj=>by
    rw [zj9 (f:=fun c=>c % p) (by rw [hM row hr]; exact hj)]
    exact (Cg.emod _ _).mul (Cg.refl p _)
  constructor
  ·intro h i row hi
   exact (hd row (List.mem_of_getElem? hi)).symm.trans (h i _ (by rw [List.getElem?_map,hi]; rfl))
  ·intro h i row hi
   rw [List.getElem?_map] at hi
   cases hA:M[i]? with
   | none=>rw [hA] at hi; cases hi
   | some r =>
    rw [hA] at hi
    cases hi
    exact (hd r (List.mem_of_getElem? hA)).trans (h i r hA)
def LsN (ra:Addr) (H:Hp):List Addr→List (List Int)→Prop:=Paired fun b v=>H b=some (.lst (v.map V.int))∧b≠ra
theorem LsN.same {ra:Addr} {H H':Hp} (s:zw H H') {bs:List Addr} {vv:List (List Int)} (h:LsN ra H bs vv):LsN ra H' bs vv:=Paired.mono (fun _ _ ⟨z,z'⟩=>⟨s _ _ z,z'⟩) h
theorem LsN.put {ra:Addr} {H:Hp} {bs:List Addr} {vv:List (List Int)} {o:HO} (h:LsN ra H bs vv):LsN ra (upd H ra o) bs vv:=Paired.mono (fun _ _ ⟨z,z'⟩=>⟨by rw [zl z']; exact z,z'⟩) h
theorem LsN.set {ra:Addr} {H:Hp} {bs:List Addr} {vv:List (List Int)} (h:LsN ra H bs vv):∀ (i:Nat) {b:Addr} {v:List Int},H b=some (.lst (v.map V.int))→b≠ra→LsN ra H (bs.set i b) (vv.set i v):=by
 induction h with
 | nil=>intro i b v _ _; exact .nil
 | cons r t ih =>
  intro i b v h1 h2
  cases i with
  | zero=>exact .cons ⟨h1,h2⟩ t
  | succ i=>exact .cons r (ih i h1 h2)
def zjh (K:PySem.W.Frag):Sp:=fun vs H Q _=>∃ (p:Int) (a:Addr) (bs:List Addr) (M:List (List Int)) (n:Nat),vs = [.int p,.ref a]∧H a=some (.lst (bs.map V.ref))∧LsA H bs M∧M≠[]∧M.length≤1000∧n≤1000∧(∀ row∈M,row.length=n)∧p∈zJ ∧
 ∀ (pv:List Nat) (H':Hp),zw H H'→RK p n M pv→Q (.int (pv.length:Int)) H'
theorem zaN:FnScope ["p","rows","rank","at","some","first","k","by"] ["p","rows"] (zh zbo):=⟨rfl,rfl,rfl,by decide +kernel,rfl,by decide +kernel,by decide +kernel⟩
theorem zji {fd:FuncData} (T:Txt K mg t) (F:Fun K "_law_rank" "_law_rank" zbo t.l_rank fd):FnOk P w K mg base CX0 1 t.l_rank fd ["p","rows"] (zjh K):=by
 refine F.ok zaN (fun vs H Q E h=>?_) (fun cdv A outer s H vs Q E hr h=>?_)
 ·obtain⟨p,a,bs,M,n,rfl,_⟩:=h
  rfl
 ·obtain⟨p,a,bs,M,n,rfl,ha,hB,hne,hM,hn,hrow,hp,q⟩:=h
  have hu:(A.deeper (envOfC (Str.ofString "_law_rank") (zh zbo) s.heap.objs.size t.l_rank cdv)).units+20 < cLine:=by have:=hr.units; omega
  refine⟨_,(@ze _ _ _ _ _ (@zm _ _ (1) _ _ _ _ zaN.nd rfl (Or.inr rfl) (@zA _ _ _ _ _ _ _ _ _ _ _ _ _ (CompSc.of (N':=["row","p"]) (ix:=[none,some 0]) (zh zbo) ["p","rows","rank","at","some","first","k","by"] rfl rfl (by decide +kernel)) rfl (@zT _ _ rfl) (@z9 _ _ _ _ (@pvx _ 1 _ _ rfl)) (fun _ _ _ _=>(@zg _ _ (0) _ (show (["row","p"]:List Str).Nodup by decide +kernel) rfl (Or.inl rfl) (by trivial))) (fun _ _ _ _=>(@zr _)) (fun _ _ _ _=>(@zA _ _ _ _ _ _ _ _ _ _ _ _ _ (CompSc.of (N':=["number","p"]) (ix:=[none,some 1]) ({ kind:=.function,names:=[(".0",.local),("row",.local),("p",.cell)],isGenerator:=false,isCoroutine:=false }) ["row","p"] (by with_unfolding_all rfl) rfl (by decide +kernel)) rfl (@zT _ _ rfl) (@zgI _ (K) _ _ _ rfl (@pvx _ 0 _ _ rfl)) (fun _ _ _ _=>(@zg _ _ (0) _ (show (["number","p"]:List Str).Nodup by decide +kernel) rfl (Or.inl rfl) (by trivial))) (fun _ _ _ _=>(@zr _)) (fun _ _ _ _=>(@zi _ _ _ _ _ _ _ _ (@zE _) (@pvx _ 0 _ _ rfl) (@pvx _ 1 _ _ rfl))) (by intro _; rfl))) (by intro _; rfl)) (by rfl) (by trivial)) (by exact (@ze _ _ _ _ _ (@zm _ _ (2) _ _ _ _ zaN.nd rfl (Or.inl rfl) (@zf _ _ _ _) (by rfl) (by trivial)) (by exact (@ze _ _ _ _ _ (@zal _ _ _ _ _ _ _ _ PassesOwn.never rfl (@zH _ _ _ _ _ _ rfl T.range_ (@ya _ _ _ (@zee _ _ _ _ _ _ _ _ (@zC _ _ _ _ _ _ _ _ (@zjL _ hu) (@pvx _ 1 _ _ rfl) (@zY _ _ _ _ (@zd _)) (zL _)) (@zn _ _ _ _ _ _ _ _ _ (@zx _) (by rfl) T.len_ boot_len (@ya _ _ _ (@zy _ _ _ _ _ _ _ (@zu _) (@pvx _ 1 _ _ rfl) (@zf _ _ _ _) (fun _ _=>rfl)) (by rfl)) (by decide) (by decide) (by rfl) (by rfl)) (@zf _ _ _ _)) (by rfl)) (by rfl)) (@zg _ _ (3) _ zaN.nd rfl (Or.inr rfl) (by trivial)) (@ze _ _ _ _ _ (@zaY _ _ _ _ _ _ _ _ _ _ _ _ _ (4) _ _ _ zaN.nd rfl (Or.inl rfl) (CompSc.of (N':=["k","rows","at"]) (ix:=[none,some 1,some 3]) (zh zbo) ["p","rows","rank","at","some","first","k","by"] rfl rfl (by decide +kernel)) rfl (@zT _ _ rfl) (@zcz _ _ _ _ _ _ _ rfl T.range_ (@za _ _ _ _ _ (@pvx _ 2 _ _ rfl) (@ya _ _ _ (@zn _ _ _ _ _ _ _ _ _ (@zx _) (by rfl) T.len_ boot_len (@ya _ _ _ (@pvx _ 1 _ _ rfl) (by rfl)) (by decide) (by decide) (by rfl) (by rfl)) (by rfl)) (by rfl)) (by rfl) (by rfl)) (fun _ _ _ _=>(@zg _ _ (0) _ (show (["k","rows","at"]:List Str).Nodup by decide +kernel) rfl (Or.inl rfl) (by trivial))) (fun _ _ _ _=>(@zbP _ _ _ (@zC _ _ _ _ _ _ _ _ (@zc1 _) (@zy _ _ _ _ _ _ _ (@zar _ (K) rfl) (@zy _ _ _ _ _ _ _ (@zar _ (K) rfl) (@pvx _ 1 _ _ rfl) (@pvx _ 0 _ _ rfl) (fun _ _=>rfl)) (@pvx _ 2 _ _ rfl) (fun _ _=>rfl)) (@zf _ _ _ _) (zL _)))) (fun _ _ _ _=>(@pvx _ 0 _ _ rfl)) (by rfl) (by intro _; rfl) (by trivial)) (by exact (@zk _ _ _ (@zaO _ _ _ _ _ _ _ _ (@zC _ _ _ _ _ _ _ _ (@zjL _ hu) (@pvx _ 4 _ _ rfl) (@zY _ _ _ _ (@zd _)) (zL _)) (@ze _ _ _ _ _ (@zm _ _ (5) _ _ _ _ zaN.nd rfl (Or.inr rfl) (@zy _ _ _ _ _ _ _ (@zu _) (@pvx _ 1 _ _ rfl) (@zy _ _ _ _ _ _ _ (@zu _) (@pvx _ 4 _ _ rfl) (@zf _ _ _ _) (fun _ _=>rfl)) (fun _ _=>rfl)) (by rfl) (by trivial)) (by exact (@ze _ _ _ _ _ (@zaX _ _ _ _ _ _ (@zy _ _ _ _ _ _ _ (@zu _) (@pvx _ 1 _ _ rfl) (@pvx _ 2 _ _ rfl) (fun _ _=>rfl)) (@zef _ _ _ _ _ _ _ (@pvx _ 1 _ _ rfl) (@zy _ _ _ _ _ _ _ (@zu _) (@pvx _ 4 _ _ rfl) (@zf _ _ _ _) (fun _ _=>rfl)) set_list (by intro _; rfl)) (by rfl) (by rfl) (by rfl)) (by exact (@ze _ _ _ _ _ (@zaX _ _ _ _ _ _ (@pvx _ 5 _ _ rfl) (@zef _ _ _ _ _ _ _ (@pvx _ 1 _ _ rfl) (@pvx _ 2 _ _ rfl) set_list (by intro _; rfl)) (by rfl) (by rfl) (by rfl)) (by exact (@ze _ _ _ _ _ (@zal _ _ _ _ _ _ _ _ PassesOwn.never rfl (@zcz _ _ _ _ _ _ _ rfl T.range_ (@za _ _ _ _ _ (@zi _ _ _ _ _ _ _ _ (@zG _) (@pvx _ 2 _ _ rfl) (@zf _ _ _ _)) (@ya _ _ _ (@zn _ _ _ _ _ _ _ _ _ (@zx _) (by rfl) T.len_ boot_len (@ya _ _ _ (@pvx _ 1 _ _ rfl) (by rfl)) (by decide) (by decide) (by rfl) (by rfl)) (by rfl)) (by rfl)) (by rfl) (by rfl)) (@zg _ _ (6) _ zaN.nd rfl (Or.inl rfl) (by trivial)) (@ze _ _ _ _ _ (@zm _ _ (7) _ _ _ _ zaN.nd rfl (Or.inr rfl) (@zy _ _ _ _ _ _ _ (@zu _) (@zy _ _ _ _ _ _ _ (@zu _) (@pvx _ 1 _ _ rfl) (@pvx _ 6 _ _ rfl) (fun _ _=>rfl)) (@pvx _ 3 _ _ rfl) (fun _ _=>rfl)) (by rfl) (by trivial)) (by exact (@zk _ _ _ (@zaO _ _ _ _ _ _ _ _ (@zC _ _ _ _ _ _ _ _ (@zc1 _) (@pvx _ 7 _ _ rfl) (@zf _ _ _ _) (zL _)) (@zk _ _ _ (@zaX _ _ _ _ _ _ (@zA _ _ _ _ _ _ _ _ _ _ _ _ _ (CompSc.of (N':=["one","other","first","at","by","p"]) (ix:=[none,none,some 5,some 3,some 7,some 0]) (zh zbo) ["p","rows","rank","at","some","first","k","by"] rfl rfl (by decide +kernel)) rfl (@zaz _ _ _ _ (@zt _ _ _ rfl (@zt _ _ _ rfl (@zah _)))) (@zc6 _ _ _ _ _ _ _ _ _ rfl T.zip_ (@za _ _ _ _ _ (@zy _ _ _ _ _ _ _ (@zu _) (@pvx _ 1 _ _ rfl) (@pvx _ 6 _ _ rfl) (fun _ _=>rfl)) (@ya _ _ _ (@pvx _ 5 _ _ rfl) (by rfl)) (by rfl)) (by rfl) (by rfl)) (fun _ _ _ _=>(@zac _ (K) _ _ _ (2) _ rfl rfl (@zj _ _ _ _ _ (@zg _ _ (0) _ (show (["one","other","first","at","by","p"]:List Str).Nodup by decide +kernel) rfl (Or.inl rfl) (by trivial)) (@zj _ _ _ _ _ (@zg _ _ (1) _ (show (["one","other","first","at","by","p"]:List Str).Nodup by decide +kernel) rfl (Or.inl rfl) (by trivial)) (@zB _) (by rfl)) (by rfl)) (by rfl) (by rfl))) (fun _ _ _ _=>(@zr _)) (fun _ _ _ _=>(@zi _ _ _ _ _ _ _ _ (@zE _) (@zi _ _ _ _ _ _ _ _ (@zR _) (@zi _ _ _ _ _ _ _ _ (@zD _) (@pvx _ 0 _ _ rfl) (@zy _ _ _ _ _ _ _ (@zar _ (K) rfl) (@pvx _ 2 _ _ rfl) (@pvx _ 3 _ _ rfl) (fun _ _=>rfl))) (@zi _ _ _ _ _ _ _ _ (@zD _) (@pvx _ 4 _ _ rfl) (@pvx _ 1 _ _ rfl))) (@pvx _ 5 _ _ rfl))) (by intro _; rfl)) (@zef _ _ _ _ _ _ _ (@pvx _ 1 _ _ rfl) (@pvx _ 6 _ _ rfl) set_list (by intro _; rfl)) (by rfl) (by rfl) (by rfl))) (@z8 _))))) (by intro _; rfl)) (by exact (@zk _ _ _ (@zm _ _ (2) _ _ _ _ zaN.nd rfl (Or.inl rfl) (@zi _ _ _ _ _ _ _ _ (@zG _) (@pvx _ 2 _ _ rfl) (@zf _ _ _ _)) (by rfl) (by trivial))))))))))) (@z8 _))))) (by intro _; rfl)) (by exact (@zk _ _ _ (@zz _ _ _ _ (@pvx _ 2 _ _ rfl))))))))),?_⟩
  have hsl:=sizeLine_eq
  have rp:=zV hp
  have p0:0 < p:=by omega
  have hbl:=hB.length
  have hM0:=List.length_pos_iff.mpr hne
  obtain⟨R0,hR0⟩:∃ R0,R0=M.map fun row=>row.map fun c=>c % p:=⟨_,rfl⟩
  refine⟨_,rfl,a,rfl,⟨_,SqL.of ha⟩,zI (n:=bs.length) (fun i ys H'=>zw H H'∧∃ us:List Addr,ys=us.map V.ref∧LsA H' us (R0.take i)) ⟨fun _ _ e=>e,[],rfl,.nil⟩ ?_ ?_ ?_ ?_⟩
  ·rintro i ys H1 hi ⟨s1,_⟩
   exact⟨_,.ref bs[i],SqL.of (s1 _ _ ha),by rw [List.getElem?_map,List.getElem?_eq_getElem hi]; rfl⟩
  ·rintro ys H1 ⟨s1,_⟩
   exact⟨_,SqL.of (s1 _ _ ha),by rw [List.length_map]; exact Nat.le_refl _⟩
  ·rintro i y ys H1 H2 hi ⟨s1,us,rfl,hus⟩ ⟨rfl,hy⟩
   obtain⟨b,rfl,hb⟩:=zU (hy _ (SqL.of (s1 _ _ ha)))
   obtain⟨row,hri,hat⟩:=Paired.get hB hb
   have hrn:=hrow row (List.mem_of_getElem? hri)
   have hul:=hus.length
   rw [List.length_take] at hul
   have h1b:=s1 _ _ hat
   refine gY ⟨_,rfl,b,rfl,⟨_,SqL.of h1b⟩,zaC (fs:=(row.map fun c=>c % p).map V.int) (SqL.of h1b) (by rw [List.length_map,List.length_map,List.length_map]) (by rw [List.length_map]; omega) ?_ ?_⟩
   ·intro j x y R B hx hy hR
    obtain⟨m,rfl,hm⟩:=zao hx
    obtain⟨m',rfl,hm'⟩:=zao hy
    rw [List.getElem?_map,hm] at hm'
    cases hm'
    exact gY ⟨_,rfl,_,rfl,_,_,rfl,rfl,p0,hR⟩
   ·intro D hD
    have hri':R0[i]? = some (row.map fun c=>c % p):=by rw [hR0,List.getElem?_map,hri]; rfl
    refine⟨by rw [List.length_map]; omega,s1.trans (zb hD),us++[D],by rw [List.map_append]; rfl,?_⟩
    rw [take_snoc hri']
    exact Paired.snoc (hus.same (zb hD)) zc
  rintro ys H1 ra ⟨s1,us,rfl,hus⟩ hra
  have hR0l:R0.length=M.length:=by rw [hR0,List.length_map]
  rw [hbl,← hR0l,List.take_length] at hus
  have G0:=zkU p0 hrow
  rw [← hR0] at G0
  have husN:LsN ra H1 us R0:=Paired.mono (fun b v z=>⟨z,fun e=>by rw [e,hra] at z; cases z⟩) hus
  have h2r:upd H1 ra (.lst (us.map V.ref)) ra=some (.lst (us.map V.ref)):=zc
  have t2:=zb (o:=.lst (us.map V.ref)) hra
  have hus2:LsN ra (upd H1 ra (.lst (us.map V.ref))) us R0:=husN.put
  have hraH:H ra=none:=s1.free hra
  have s2:=s1.trans t2
  generalize upd H1 ra (.lst (us.map V.ref))=H2 at h2r t2 hus2 s2 ⊢
  have hul:=hus2.length
  refine⟨_,rfl,Nat.zero_le _,fun z hz=>?_⟩
  have t3:=zb (o:=.lst []) hz
  have h3r:=t3 _ _ h2r
  have hus3:=hus2.same t3
  have s3:=s2.trans t3
  refine⟨ra,z,_,_,rfl,rfl,.inl ⟨SqL.of h3r,SqL.of zc⟩,.inl ⟨by rw [List.length_map]; show us.length≠0; omega,fun j x y _ hy=>by simp at hy,?_⟩⟩
  generalize upd H2 z (.lst [])=H3 at t3 h3r hus3 s3 ⊢
  obtain⟨u0,hu0⟩:∃ u0,us[0]? = some u0:=⟨us[0]'(by omega),by simp⟩
  obtain⟨v0,hv0,hv0a,_⟩:=Paired.get hus3 hu0
  have hv0n:v0.length=n:=(G0.rw v0 (List.mem_of_getElem? hv0)).1
  refine⟨_,rfl,?_⟩
  refine zaq (fun _=>?_) (fun h=>absurd rfl h)
  refine⟨_,rfl,ra,_,_,.ref u0,rfl,rfl,SqL.of h3r,zM (j:=0) (by rw [List.getElem?_map,hu0]; rfl),u0,_,rfl,.inl (SqL.of hv0a),_,rfl,by rw [List.length_map]; omega,by rw [List.length_map]; omega,?_⟩
  rw [List.length_map,hv0n,Int.toNat_natCast]
  refine zad (lo:=0) (n:=n) (fun at' σ H'=>∃ (us:List Addr) (R:List (List Int)) (pv:List Nat) (e3 e4 e5 e6 e7:Option V),σ = [some (.int p),some (.ref ra),some (.int (pv.length:Int)),e3,e4,e5,e6,e7]∧zw H H'∧H' ra=some (.lst (us.map V.ref))∧LsN ra H' us R∧Gs p n M at' pv R) ⟨us,R0,[],none,none,none,none,none,rfl,s3,h3r,hus3,G0⟩ ?_ ?_
  ·rintro at' σ H4 hat ⟨us,R,pv,e3,e4,e5,e6,e7,rfl,s4,h4r,hus4,G⟩
   have hul:=hus4.length
   have hRl:=G.ln
   have hpvl:=G.pvl
   refine⟨_,rfl,_,rfl,ra,_,rfl,.inl (SqL.of h4r),_,_,rfl,⟨by omega,by omega,by rw [List.length_map]; omega,by rw [List.length_map]; omega⟩,?_⟩
   have en:(((us.map V.ref).length:Int) - (pv.length:Int)).toNat=R.length - pv.length:=by rw [List.length_map]; omega
   rw [en]
   have hRat:∀ i,i < R.length→∃ b row,us[i]? = some b∧R[i]? = some row∧H4 b=some (.lst (row.map V.int))∧b≠ra∧row.length=n∧∀ c∈row,0≤c∧c < p:=fun i hi=>by
    obtain⟨b,hb⟩:∃ b,us[i]? = some b:=⟨us[i]'(by omega),by simp⟩
    obtain⟨row,h1,h2,h3⟩:=Paired.get hus4 hb
    exact⟨b,row,hb,h1,h2,h3,G.rw row (List.mem_of_getElem? h1)⟩
   have hvl:∀ i row,R[i]? = some row→gl (R.getD i []) at'=gl row at':=fun i row h=>by rw [List.getD_eq_getElem?_getD,h]; rfl
   refine zI (n:=R.length - pv.length) (fun j ys H'=>H'=H4∧ys=(((List.range j).filter fun m=>decide (gl (R.getD (pv.length+m) []) at'≠0)).map fun m:Nat=>((pv.length+m:Nat):Int)).map V.int) ⟨rfl,rfl⟩ (fun j ys H' hj _=>hj) (fun ys H' _=>Nat.le_refl _) ?_ ?_
   ·rintro j xx ys H5 H6 hj ⟨rfl,rfl⟩ ⟨rfl,rfl⟩
    obtain⟨b,row,hb,hrow',hba,_,hrl,hrr⟩:=hRat (pv.length+j) (by omega)
    have hix:atI (us.map V.ref) ((pv.length:Int)+(j:Int))=some (.ref b):=by
     rw [← Int.natCast_add]
     exact zM (by rw [List.getElem?_map,hb]; rfl)
    refine⟨_,rfl,_,rfl,ra,_,_,.ref b,rfl,rfl,SqL.of h4r,hix,_,rfl,b,_,_,.int (gl row at'),rfl,rfl,SqL.of hba,by rw [Int.zero_add]; exact zM (by rw [List.getElem?_map,zaZ (by omega)]; rfl),rfl,_,rfl,?_⟩
    have hfl:=List.length_filter_le (fun m=>decide (gl (R.getD (pv.length+m) []) at'≠0)) (List.range j)
    rw [List.length_range] at hfl
    rw [List.range_succ,List.filter_append,List.map_append,List.map_append]
    have hv:=hvl _ _ hrow'
    by_cases h0:gl row at'=0
    ·refine zaq (fun h=>absurd h (by rw [h0]; simp)) (fun _=>⟨rfl,?_⟩)
     rw [List.filter_cons_of_neg (by rw [hv]; simpa using h0),List.filter_nil,List.map_nil,List.map_nil,List.append_nil]
    ·refine zaq (fun _=>⟨_,rfl,zae (by rw [List.length_map,List.length_map]; omega),rfl,?_⟩) (fun h=>absurd (by simpa using h0) h)
     rw [List.filter_cons_of_pos (by rw [hv]; simpa using h0),List.filter_nil,← Int.natCast_add]
     rfl
   ·rintro ys H5 sm' ⟨rfl,rfl⟩ hsm
    have t6:=zb (o:=.lst ((((List.range (R.length - pv.length)).filter fun m=>decide (gl (R.getD (pv.length+m) []) at'≠0)).map fun m:Nat=>((pv.length+m:Nat):Int)).map V.int)) hsm
    have h6s:upd H5 sm' (.lst ((((List.range (R.length - pv.length)).filter fun m=>decide (gl (R.getD (pv.length+m) []) at'≠0)).map fun m:Nat=>((pv.length+m:Nat):Int)).map V.int)) sm'=_:=zc
    generalize upd H5 sm' (.lst ((((List.range (R.length - pv.length)).filter fun m=>decide (gl (R.getD (pv.length+m) []) at'≠0)).map fun m:Nat=>((pv.length+m:Nat):Int)).map V.int))=H6 at t6 h6s ⊢
    have h6r:=t6 _ _ h4r
    have hus6:=hus4.same t6
    have s6:=s4.trans t6
    refine⟨_,rfl,Nat.zero_le _,fun z2 hz2=>?_⟩
    have t7:=zb (o:=.lst []) hz2
    cases hfs:(List.range (R.length - pv.length)).filter fun m=>decide (gl (R.getD (pv.length+m) []) at'≠0) with
    | nil =>
     rw [hfs] at h6s
     refine⟨sm',z2,_,_,rfl,rfl,.inl ⟨SqL.of (t7 _ _ h6s),SqL.of zc⟩,.inr ⟨rfl,fun _=>true,fun j x y hx _=>by simp at hx,?_⟩⟩
     refine⟨_,rfl,?_⟩
     refine zaq (fun h=>absurd h (by simp)) (fun _=>?_)
     refine⟨us,R,pv,_,_,_,_,_,rfl,s6.trans t7,t7 _ _ h6r,hus6.same t7,zlC G fun i row h1 h2=>?_⟩
     have hi:=(List.getElem?_eq_some_iff.mp h2).1
     have:=List.filter_eq_nil_iff.mp hfs (i - pv.length) (List.mem_range.mpr (by omega))
     rw [show pv.length+(i - pv.length)=i by omega,hvl i row h2] at this
     simpa using this
    | cons m0 ms =>
     rw [hfs] at h6s
     have hm0:m0∈(List.range (R.length - pv.length)).filter fun m=>decide (gl (R.getD (pv.length+m) []) at'≠0):=by rw [hfs]; exact List.mem_cons_self
     obtain⟨hm1,hm2⟩:=List.mem_filter.mp hm0
     have hm1:=List.mem_range.mp hm1
     refine⟨sm',z2,_,_,rfl,rfl,.inl ⟨SqL.of (t7 _ _ h6s),SqL.of zc⟩,.inl ⟨by simp,fun j x y _ hy=>by simp at hy,?_⟩⟩
     refine⟨_,rfl,?_⟩
     refine zaq (fun _=>?_) (fun h=>absurd rfl h)
     generalize upd H6 z2 (.lst [])=H7 at t7 ⊢
     have h7s:=t7 _ _ h6s
     have h7r:=t7 _ _ h6r
     have hus7:=hus6.same t7
     have s7:=s6.trans t7
     obtain⟨k0,hk0⟩:∃ k0,k0=pv.length+m0:=⟨_,rfl⟩
     have hat0:atI ((((m0 :: ms).map fun m:Nat=>((pv.length+m:Nat):Int))).map V.int) 0=some (.int (k0:Int)):=by rw [hk0]; exact zM (j:=0) rfl
     obtain⟨bf,first,hbf,hRf,hbfa,hbfn,hfl,hfr⟩:=hRat k0 (by omega)
     obtain⟨bo,other,hbo,hRo,hboa,hbon,hol,hor⟩:=hRat pv.length (by omega)
     have hf0:gl first at'≠0:=by
      rw [← hk0,hvl k0 first hRf] at hm2
      simpa using hm2
     refine⟨_,rfl,_,rfl,sm',_,_,.int (k0:Int),rfl,rfl,SqL.of h7s,hat0,ra,_,_,.ref bf,rfl,rfl,SqL.of h7r,zM (by rw [List.getElem?_map,hbf]; rfl),?_⟩
     refine⟨_,rfl,_,rfl,ra,_,_,.ref bo,rfl,rfl,SqL.of h7r,zM (by rw [List.getElem?_map,hbo]; rfl),_,rfl,_,rfl,sm',_,_,.int (k0:Int),rfl,rfl,SqL.of h7s,hat0,ra,_,_,k0,rfl,rfl,h7r,zd6 (by rw [List.length_map]; omega),?_⟩
     refine⟨_,rfl,_,rfl,_,rfl,ra,_,_,pv.length,rfl,rfl,zc,zd6 (by rw [List.length_set,List.length_map]; omega),?_⟩
     rw [zhQ]
     have esw:((us.map V.ref).set k0 (.ref bo)).set pv.length (.ref bf)=((us.set k0 bo).set pv.length bf).map V.ref:=by rw [List.map_set,List.map_set]
     rw [esw]
     have L0:=zkt G (k0:=k0) (by omega) hRf hRo hf0
     have h8r:upd H7 ra (.lst (((us.set k0 bo).set pv.length bf).map V.ref)) ra=some (.lst (((us.set k0 bo).set pv.length bf).map V.ref)):=zc
     have hus8:LsN ra (upd H7 ra (.lst (((us.set k0 bo).set pv.length bf).map V.ref))) ((us.set k0 bo).set pv.length bf) ((R.set k0 other).set pv.length first):=LsN.set (LsN.set hus7.put k0 (by rw [zl hbon]; exact (t6.trans t7) _ _ hboa) hbon) pv.length (by rw [zl hbfn]; exact (t6.trans t7) _ _ hbfa) hbfn
     have h8f:upd H7 ra (.lst (((us.set k0 bo).set pv.length bf).map V.ref)) bf=some (.lst (first.map V.int)):=by rw [zl hbfn]; exact (t6.trans t7) _ _ hbfa
     have s8:zw H (upd H7 ra (.lst (((us.set k0 bo).set pv.length bf).map V.ref))):=zW s7 hraH
     generalize upd H7 ra (.lst (((us.set k0 bo).set pv.length bf).map V.ref))=H8 at h8r hus8 h8f s8 ⊢
     generalize (us.set k0 bo).set pv.length bf=us8 at h8r hus8 ⊢
     generalize (R.set k0 other).set pv.length first=R8 at L0 hus8
     have hR8:=L0.ln
     have hu8:=hus8.length
     refine⟨_,rfl,_,_,rfl,rfl,_,rfl,ra,_,rfl,.inl (SqL.of h8r),_,_,rfl,⟨by omega,by omega,by rw [List.length_map]; omega,by rw [List.length_map]; omega⟩,?_⟩
     have en2:(((us8.map V.ref).length:Int) - ((pv.length:Int)+1)).toNat=R8.length - (pv.length+1):=by rw [List.length_map]; omega
     rw [en2]
     have hlo:(pv.length:Int)+1=((pv.length+1:Nat):Int):=by omega
     refine zad (lo:=(pv.length:Int)+1) (n:=R8.length - (pv.length+1)) (fun m σ H'=>∃ (us:List Addr) (R:List (List Int)) (e6 e7:Option V),σ = [some (.int p),some (.ref ra),some (.int (pv.length:Int)),some (.int (0+(at':Int))),some (.ref sm'),some (.ref bf),e6,e7]∧zw H H'∧H' ra=some (.lst (us.map V.ref))∧LsN ra H' us R∧H' bf=some (.lst (first.map V.int))∧El p n M at' pv first (pv.length+1+m) R) ⟨us8,R8,_,_,rfl,s8,h8r,hus8,h8f,L0⟩ ?_ ?_
     ·rintro m σ H9 hm ⟨us9,R9,f6,f7,rfl,s9,h9r,hus9,h9f,L⟩
      have hR9:=L.ln
      have hu9:=hus9.length
      have hkl:pv.length+1+m < R9.length:=by omega
      obtain⟨b,hb⟩:∃ b,us9[pv.length+1+m]? = some b:=⟨us9[pv.length+1+m]'(by omega),by simp⟩
      obtain⟨row,hrw9,hba,hbn⟩:=Paired.get hus9 hb
      obtain⟨hrl,hrr⟩:=L.rw row (List.mem_of_getElem? hrw9)
      have hkx:(pv.length:Int)+1+(m:Int)=((pv.length+1+m:Nat):Int):=by omega
      have hix:atI (us9.map V.ref) ((pv.length:Int)+1+(m:Int))=some (.ref b):=by
       rw [hkx]
       exact zM (by rw [List.getElem?_map,hb]; rfl)
      have hax:atI (row.map V.int) (0+(at':Int))=some (.int (gl row at')):=by
       rw [Int.zero_add]
       exact zM (by rw [List.getElem?_map,zaZ (by omega)]; rfl)
      have hfx:atI (first.map V.int) (0+(at':Int))=some (.int (gl first at')):=by
       rw [Int.zero_add]
       exact zM (by rw [List.getElem?_map,zaZ (by omega)]; rfl)
      refine⟨_,rfl,_,rfl,ra,_,_,.ref b,rfl,rfl,SqL.of h9r,hix,_,rfl,b,_,_,.int (gl row at'),rfl,rfl,SqL.of hba,hax,?_⟩
      refine⟨_,rfl,rfl,_,rfl,?_⟩
      obtain⟨q0,q1⟩:=zcW p0 hrr at'
      obtain⟨w0,w1⟩:=zcW p0 hfr at'
      by_cases h0:gl row at'=0
      ·refine zaq (fun h=>absurd h (by rw [h0]; simp)) (fun _=>?_)
       exact⟨us9,R9,_,_,rfl,s9,h9r,hus9,h9f,by rw [← Nat.add_assoc]; exact zlD L hrw9 h0⟩
      ·refine zaq (fun _=>?_) (fun h=>absurd (by simpa using h0) h)
       refine⟨_,rfl,_,rfl,ra,_,_,.ref b,rfl,rfl,SqL.of h9r,hix,_,rfl,b,bf,_,_,rfl,SqL.of hba,SqL.of h9f,zdw (n:=n) (f:=fun one other=>(one*gl first at' - gl row at'*other) % p) hba h9f (by omega) (by omega) (.inl (by omega)) (by omega) ?_ ?_⟩
       ·intro j u w Hx T R' B hu hv sx hT hR
        have hu2:=hrr u (List.mem_of_getElem? hu)
        have hfT:=sx.trans (zb (o:=.tup [.int u,.int w]) hT)
        refine gY2 (SqT.of zc) ?_
        exact⟨_,rfl,_,rfl,_,rfl,bf,_,_,.int (gl first at'),rfl,rfl,SqL.of (hfT _ _ h9f),hfx,_,_,rfl,rfl,.inl ⟨by omega,by omega⟩,_,rfl,_,rfl,_,_,rfl,rfl,.inl ⟨by omega,by omega⟩,_,_,rfl,rfl,_,rfl,_,_,rfl,rfl,p0,hR⟩
       ·intro D Hx sx hD
        have tx:=sx.trans (zb (o:=.lst ((List.zipWith (fun one other=>(one*gl first at' - gl row at'*other) % p) row first).map V.int)) hD)
        have hxD:upd Hx D (.lst ((List.zipWith (fun one other=>(one*gl first at' - gl row at'*other) % p) row first).map V.int)) D=some (.lst ((List.zipWith (fun one other=>(one*gl first at' - gl row at'*other) % p) row first).map V.int)):=zc
        have hDr:D≠ra:=fun e=>by
         have:=sx _ _ h9r
         rw [← e,hD] at this
         cases this
        have L2:=zlE hp L hat (by omega) hrw9
        generalize upd Hx D (.lst ((List.zipWith (fun one other=>(one*gl first at' - gl row at'*other) % p) row first).map V.int))=Hy at tx hxD ⊢
        generalize List.zipWith (fun one other=>(one*gl first at' - gl row at'*other) % p) row first=nw at L2 hxD
        have hyr:=tx _ _ h9r
        refine⟨_,rfl,_,rfl,ra,_,_,pv.length+1+m,rfl,rfl,hyr,by rw [hkx]; exact zd6 (by rw [List.length_map]; omega),?_⟩
        refine⟨us9.set (pv.length+1+m) D,R9.set (pv.length+1+m) nw,_,_,rfl,zW (s9.trans tx) hraH,by rw [zc,List.map_set],LsN.set (hus9.same tx).put _ (by rw [zl hDr]; exact hxD) hDr,by rw [zl hbfn]; exact tx _ _ h9f,by rw [← Nat.add_assoc]; exact L2⟩
     ·rintro σ H9 ⟨us9,R9,f6,f7,rfl,s9,h9r,hus9,h9f,L⟩
      have hR9:=L.ln
      have hfl':=(List.getElem?_eq_some_iff.mp L.fs).1
      refine⟨_,rfl,_,_,rfl,rfl,?_⟩
      have epv:(pv.length:Int)+1=((pv++[at']).length:Int):=by
       rw [List.length_append]
       show _=((pv.length+1:Nat):Int)
       omega
      exact⟨us9,R9,pv++[at'],some (.int (0+(at':Int))),some (.ref sm'),some (.ref bf),f6,f7,congrArg (fun v:Int=>[some (V.int p),some (.ref ra),some (.int v),some (.int (0+(at':Int))),some (.ref sm'),some (.ref bf),f6,f7]) epv,s9,h9r,hus9,zm6 L (by omega)⟩
  ·rintro σ H4 ⟨us,R,pv,e3,e4,e5,e6,e7,rfl,s4,h4r,hus4,G⟩
   exact⟨_,rfl,q pv H4 s4 (znR hp G)⟩
def zf9 (rows:List (List Int)) (x y:Int) (u v:Nat):Int:=sm rows.length fun t=>sm (rows.getD t []).length fun s=>gl (rows.getD t []) s*cv (s,t) ⟨x,y,u,v⟩
def byv (p x:Int) (u s:Nat):Int:=if u≤s then ch s u*(x ^ (s - u) % p) else 0
def byL (p x:Int) (u n:Nat):List Int:=(List.range n).map (byv p x u)
theorem znf (p x:Int) (u s:Nat):Cg p (byv p x u s) (cf x s u):=by
 unfold byv cf
 by_cases h:u≤s
 ·rw [if_pos h]
  exact (Cg.refl p _).mul (Cg.emod p _)
 ·rw [if_neg h,zbs (by omega),Int.zero_mul]
  exact Cg.refl p 0
def sms (p x:Int) (u:Nat) (r:List Int):Int:=sm r.length fun s=>gl r s*byv p x u s
theorem zdB {f:Nat→Int}:∀ n,((List.range n).map f).sum=sm n f
 | 0=>rfl
 | n+1=>by
  rw [List.range_succ,List.map_append,List.sum_append,zdB n]
  show _+(f n+0)=_+f n
  omega
def tot (p x y:Int) (rows:List (List Int)) (u v m:Nat):Int:=sm m fun k=>sms p x u (rows.getD (v+k) [])*ch (v+k) v*(y ^ (v+k - v) % p)
theorem zng {p x y:Int} {rows:List (List Int)} {u v:Nat}:Cg p (tot p x y rows u v (rows.length - v)) (zf9 rows x y u v):=by
 unfold tot zf9
 by_cases h:v≤rows.length
 ·have e1:rows.length=v+(rows.length - v):=by omega
  have:sm rows.length (fun t=>sm (rows.getD t []).length fun s=>gl (rows.getD t []) s*cv (s,t) ⟨x,y,u,v⟩)=sm (rows.length - v) fun k=>sm (rows.getD (v+k) []).length fun s=>gl (rows.getD (v+k) []) s*cv (s,v+k) ⟨x,y,u,v⟩:=by
   conv=>lhs; rw [e1]
   rw [zgK,zaF (n:=v),Int.zero_add]
   intro t ht
   refine zaF fun s _=>?_
   unfold cv cf
   rw [zbs ht]
   simp
  rw [this]
  refine zdK fun k _=>?_
  unfold sms
  have e2:sm (rows.getD (v+k) []).length (fun s=>gl (rows.getD (v+k) []) s*cv (s,v+k) ⟨x,y,u,v⟩)=sm (rows.getD (v+k) []).length (fun s=>gl (rows.getD (v+k) []) s*cf x s u)*ch (v+k) v*y ^ (v+k - v):=by
   rw [show sm (rows.getD (v+k) []).length (fun s=>gl (rows.getD (v+k) []) s*cv (s,v+k) ⟨x,y,u,v⟩)=sm (rows.getD (v+k) []).length (fun s=>(ch (v+k) v*y ^ (v+k - v))*(gl (rows.getD (v+k) []) s*cf x s u)) from z0 fun s _=>by unfold cv cf; grind,zbJ]
   grind
  rw [e2]
  exact ((zdK fun s _=>(Cg.refl p _).mul (znf p x u s)).mul (Cg.refl p _)).mul (Cg.emod p _)
 ·rw [show rows.length - v=0 by omega]
  refine Cg.of_eq (Eq.symm (zaF fun t ht=>zaF fun s _=>?_))
  unfold cv cf
  have ht':t < v:=by omega
  rw [zbs ht']
  simp
def zg0 (K:PySem.W.Frag):Sp:=fun vs H Q _=>∃ (p:Int) (a pt:Addr) (x y:Int) (m:Nat) (bs:List Addr) (rows:List (List Int)),vs = [.int p,.ref a,.ref pt,.int (m:Int)]∧5≤p∧p≤97∧0≤x∧x < p∧0≤y∧y < p∧m≤4∧H a=some (.tup (bs.map V.ref))∧zbR H bs rows∧H pt=some (.tup [.int x,.int y])∧1≤rows.length∧rows.length≤201∧(∀ r∈rows,1≤r.length∧r.length≤201∧∀ v∈r,0≤v∧v < p) ∧
 (∀ u v,u+v < m→Cg p (zf9 rows x y u v) 0)∧∀ H',zw H H'→Q (.bl true) H'
theorem zaj:FnScope ["p","curve","point","m","a","b","wide","right","up","i","by","sums","j"] ["p","curve","point","m"] (zh zaJ):=⟨rfl,rfl,rfl,by decide +kernel,rfl,by decide +kernel,by decide +kernel⟩
theorem zg1 {fd:FuncData} (T:Txt K mg t) (F:Fun K "_law_passes" "_law_passes" zaJ t.l_passes fd):FnOk P w K mg base CX0 2 t.l_passes fd ["p","curve","point","m"] (zg0 K):=by
 obtain⟨fd_l_powers,F_l_powers,b_l_powers⟩:=T.f_l_powers
 have G_l_powers:=zdR (P:=P) (w:=w) (base:=base) T F_l_powers
 obtain⟨fd_l_choose,F_l_choose,b_l_choose⟩:=T.f_l_choose
 have G_l_choose:=zdS (P:=P) (w:=w) (base:=base) T F_l_choose
 refine F.ok zaj (fun vs H Q E h=>?_) (fun cdv A outer s H vs Q E hr h=>?_)
 ·obtain⟨p,a,pt,x,y,m,bs,rows,rfl,_⟩:=h
  rfl
 ·obtain⟨p,a,pt,x,y,m,bs,rows,rfl,p5,p97,x0,x1,y0,y1,m4,ha,hb,hpt,hn1,hn,hw,hz,q⟩:=h
  refine⟨_,(@ze _ _ _ _ _ (@zaX _ _ _ _ _ _ (@pvx _ 2 _ _ rfl) (@zaP _ _ _ _ _ _ rfl (@zj _ _ _ _ _ (@zg _ _ (4) _ zaj.nd rfl (Or.inl rfl) (by trivial)) (@zj _ _ _ _ _ (@zg _ _ (5) _ zaj.nd rfl (Or.inl rfl) (by trivial)) (@zB _) (by rfl)) (by rfl)) (by rfl) (by rfl)) (by rfl) (by rfl) (by rfl)) (by exact (@ze _ _ _ _ _ (@zm _ _ (6) _ _ _ _ zaj.nd rfl (Or.inl rfl) (@zn _ _ _ _ _ _ _ _ _ (@zbS _ rfl) (by rfl) T.max_ boot_max (@ya _ _ _ (@zA _ _ _ _ _ _ _ _ _ _ _ _ _ (CompSc.of (N':=["line"]) (ix:=[none]) (zh zaJ) ["p","curve","point","m","a","b","wide","right","up","i","by","sums","j"] rfl rfl (by decide +kernel)) rfl (@zT _ _ rfl) (@zfx _ _ _ _ (@pvx _ 1 _ _ rfl)) (fun _ _ _ _=>(@zg _ _ (0) _ (show (["line"]:List Str).Nodup by decide +kernel) rfl (Or.inl rfl) (by trivial))) (fun _ _ _ _=>(@zr _)) (fun _ _ _ _=>(@zn _ _ _ _ _ _ _ _ _ (@zbf _ (K) rfl) (by rfl) T.len_ boot_len (@ya _ _ _ (@pvx _ 0 _ _ rfl) (by rfl)) (by decide) (by decide) (by rfl) (by rfl))) (by intro _; rfl)) (by rfl)) (by decide) (by decide) (by rfl) (by rfl)) (by rfl) (by trivial)) (by exact (@ze _ _ _ _ _ (@zm _ _ (7) _ _ _ _ zaj.nd rfl (Or.inr rfl) (@zp _ _ _ _ _ _ _ _ _ _ _ _ _ _ _ _ G_l_powers (hr.mono (by decide)) rfl T.m_l_powers F_l_powers.kp b_l_powers .nil (@zN _) (@za _ _ _ _ _ (@pvx _ 0 _ _ rfl) (@za _ _ _ _ _ (@pvx _ 4 _ _ rfl) (@ya _ _ _ (@pvx _ 6 _ _ rfl) (by rfl)) (by rfl)) (by rfl)) (by decide) (by rfl) (by rfl)) (by rfl) (by trivial)) (by exact (@ze _ _ _ _ _ (@zm _ _ (8) _ _ _ _ zaj.nd rfl (Or.inr rfl) (@zp _ _ _ _ _ _ _ _ _ _ _ _ _ _ _ _ G_l_powers (hr.mono (by decide)) rfl T.m_l_powers F_l_powers.kp b_l_powers .nil (@zN _) (@za _ _ _ _ _ (@pvx _ 0 _ _ rfl) (@za _ _ _ _ _ (@pvx _ 5 _ _ rfl) (@ya _ _ _ (@zn _ _ _ _ _ _ _ _ _ (@zx _) (by rfl) T.len_ boot_len (@ya _ _ _ (@pvx _ 1 _ _ rfl) (by rfl)) (by decide) (by decide) (by rfl) (by rfl)) (by rfl)) (by rfl)) (by rfl)) (by decide) (by rfl) (by rfl)) (by rfl) (by trivial)) (by exact (@ze _ _ _ _ _ (@zal _ _ _ _ _ _ _ _ PassesOwn.never rfl (@zH _ _ _ _ _ _ rfl T.range_ (@ya _ _ _ (@pvx _ 3 _ _ rfl) (by rfl)) (by rfl)) (@zg _ _ (9) _ zaj.nd rfl (Or.inr rfl) (by trivial)) (@ze _ _ _ _ _ (@zm _ _ (10) _ _ _ _ zaj.nd rfl (Or.inr rfl) (@zA _ _ _ _ _ _ _ _ _ _ _ _ _ (CompSc.of (N':=["s","i","right"]) (ix:=[none,some 9,some 7]) (zh zaJ) ["p","curve","point","m","a","b","wide","right","up","i","by","sums","j"] rfl rfl (by decide +kernel)) rfl (@zT _ _ rfl) (@zH _ _ _ _ _ _ rfl T.range_ (@ya _ _ _ (@pvx _ 6 _ _ rfl) (by rfl)) (by rfl)) (fun _ _ _ _=>(@zg _ _ (0) _ (show (["s","i","right"]:List Str).Nodup by decide +kernel) rfl (Or.inl rfl) (by trivial))) (fun _ _ _ _=>(@zr _)) (fun _ _ _ _=>(@zee _ _ _ _ _ _ _ _ (@zC _ _ _ _ _ _ _ _ (@zej _) (@pvx _ 0 _ _ rfl) (@pvx _ 1 _ _ rfl) (zL _)) (@zi _ _ _ _ _ _ _ _ (@zD _) (@zp _ _ _ _ _ _ _ _ _ _ _ _ _ _ _ _ G_l_choose (hr.mono (by decide)) rfl T.m_l_choose F_l_choose.kp b_l_choose .nil (@zN _) (@za _ _ _ _ _ (@pvx _ 0 _ _ rfl) (@ya _ _ _ (@pvx _ 1 _ _ rfl) (by rfl)) (by rfl)) (by decide) (by rfl) (by rfl)) (@zy _ _ _ _ _ _ _ (@zar _ (K) rfl) (@pvx _ 2 _ _ rfl) (@zi _ _ _ _ _ _ _ _ (@zR _) (@pvx _ 0 _ _ rfl) (@pvx _ 1 _ _ rfl)) (fun _ _=>rfl))) (@zf _ _ _ _))) (by intro _; rfl)) (by rfl) (by trivial)) (by exact (@ze _ _ _ _ _ (@zm _ _ (11) _ _ _ _ zaj.nd rfl (Or.inr rfl) (@zA _ _ _ _ _ _ _ _ _ _ _ _ _ (CompSc.of (N':=["line","by"]) (ix:=[none,some 10]) (zh zaJ) ["p","curve","point","m","a","b","wide","right","up","i","by","sums","j"] rfl rfl (by decide +kernel)) rfl (@zT _ _ rfl) (@zfx _ _ _ _ (@pvx _ 1 _ _ rfl)) (fun _ _ _ _=>(@zg _ _ (0) _ (show (["line","by"]:List Str).Nodup by decide +kernel) rfl (Or.inl rfl) (by trivial))) (fun _ _ _ _=>(@zr _)) (fun _ _ _ _=>(@zn _ _ _ _ _ _ _ _ _ (zhz (K:=K) rfl rfl) (by rfl) T.sum_ boot_sum (@ya _ _ _ (@zA _ _ _ _ _ _ _ _ _ _ _ _ _ (CompSc.of (N':=["number","one"]) (ix:=[none,none]) ({ kind:=.function,names:=[(".0",.local),("line",.local),("sum",.globalImplicit),("zip",.globalImplicit),("by",.cell)],isGenerator:=false,isCoroutine:=false }) ["line","by"] (by with_unfolding_all rfl) rfl (by decide +kernel)) rfl (@zaz _ _ _ _ (@zt _ _ _ rfl (@zt _ _ _ rfl (@zah _)))) (ziU (K:=K) rfl rfl T.zip_ (@za _ _ _ _ _ (@pvx _ 0 _ _ rfl) (@ya _ _ _ (@pvx _ 1 _ _ rfl) (by rfl)) (by rfl))) (fun _ _ _ _=>(@zac _ (K) _ _ _ (2) _ rfl rfl (@zj _ _ _ _ _ (@zg _ _ (0) _ (show (["number","one"]:List Str).Nodup by decide +kernel) rfl (Or.inl rfl) (by trivial)) (@zj _ _ _ _ _ (@zg _ _ (1) _ (show (["number","one"]:List Str).Nodup by decide +kernel) rfl (Or.inl rfl) (by trivial)) (@zB _) (by rfl)) (by rfl)) (by rfl) (by rfl))) (fun _ _ _ _=>(@zr _)) (fun _ _ _ _=>(@zi _ _ _ _ _ _ _ _ (@zD _) (@pvx _ 0 _ _ rfl) (@pvx _ 1 _ _ rfl))) (by intro _; rfl)) (by rfl)) (by decide) (by decide) (by rfl) (by rfl))) (by intro _; rfl)) (by rfl) (by trivial)) (by exact (@zk _ _ _ (@zal _ _ _ _ _ _ _ _ PassesOwn.never rfl (@zH _ _ _ _ _ _ rfl T.range_ (@ya _ _ _ (@zi _ _ _ _ _ _ _ _ (@zR _) (@pvx _ 3 _ _ rfl) (@pvx _ 9 _ _ rfl)) (by rfl)) (by rfl)) (@zg _ _ (12) _ zaj.nd rfl (Or.inr rfl) (by trivial)) (@zk _ _ _ (@zaO _ _ _ _ _ _ _ _ (@zC _ _ _ _ _ _ _ _ (@zc1 _) (@zi _ _ _ _ _ _ _ _ (@zE _) (@zn _ _ _ _ _ _ _ _ _ (@zbQ _ rfl) (by rfl) T.sum_ boot_sum (@ya _ _ _ (@zA _ _ _ _ _ _ _ _ _ _ _ _ _ (CompSc.of (N':=["t","sums","j","up"]) (ix:=[none,some 11,some 12,some 8]) (zh zaJ) ["p","curve","point","m","a","b","wide","right","up","i","by","sums","j"] rfl rfl (by decide +kernel)) rfl (@zT _ _ rfl) (@zcz _ _ _ _ _ _ _ rfl T.range_ (@za _ _ _ _ _ (@pvx _ 12 _ _ rfl) (@ya _ _ _ (@zn _ _ _ _ _ _ _ _ _ (@zx _) (by rfl) T.len_ boot_len (@ya _ _ _ (@pvx _ 1 _ _ rfl) (by rfl)) (by decide) (by decide) (by rfl) (by rfl)) (by rfl)) (by rfl)) (by rfl) (by rfl)) (fun _ _ _ _=>(@zg _ _ (0) _ (show (["t","sums","j","up"]:List Str).Nodup by decide +kernel) rfl (Or.inl rfl) (by trivial))) (fun _ _ _ _=>(@zr _)) (fun _ _ _ _=>(@zi _ _ _ _ _ _ _ _ (@zD _) (@zi _ _ _ _ _ _ _ _ (@zD _) (@zy _ _ _ _ _ _ _ (@zar _ (K) rfl) (@pvx _ 1 _ _ rfl) (@pvx _ 0 _ _ rfl) (fun _ _=>rfl)) (@zp _ _ _ _ _ _ _ _ _ _ _ _ _ _ _ _ G_l_choose (hr.mono (by decide)) rfl T.m_l_choose F_l_choose.kp b_l_choose .nil (@zN _) (@za _ _ _ _ _ (@pvx _ 0 _ _ rfl) (@ya _ _ _ (@pvx _ 2 _ _ rfl) (by rfl)) (by rfl)) (by decide) (by rfl) (by rfl))) (@zy _ _ _ _ _ _ _ (@zar _ (K) rfl) (@pvx _ 3 _ _ rfl) (@zi _ _ _ _ _ _ _ _ (@zR _) (@pvx _ 0 _ _ rfl) (@pvx _ 2 _ _ rfl)) (fun _ _=>rfl)))) (by intro _; rfl)) (by rfl)) (by decide) (by decide) (by rfl) (by rfl)) (@pvx _ 0 _ _ rfl)) (@zf _ _ _ _) (zL _)) (@zk _ _ _ (@zz _ _ _ _ (@zci _ _ _ _))) (@z8 _))) (by intro _; rfl))))))) (by intro _; rfl)) (by exact (@zk _ _ _ (@zz _ _ _ _ (@zci _ _ _ _))))))))))))),?_⟩
  have hsl:=sizeLine_eq
  have hlen:=Paired.length hb
  have ne:rows≠[]:=fun e=>by rw [e] at hn1; simp at hn1
  have wdl:wd rows≤201:=by
   obtain⟨r,hr,er⟩:=zcX ne
   rw [← er]; exact (hw r hr).2.1
  have wd1:1≤wd rows:=by
   obtain⟨r,hr,er⟩:=zcX ne
   rw [← er]; exact (hw r hr).1
  have elen:((bs.map V.ref).length:Int)=(rows.length:Int):=by rw [List.length_map,hlen]
  refine⟨_,rfl,pt,_,rfl,SqT.of hpt,rfl,_,_,rfl,_,_,rfl,rfl,?_⟩
  refine⟨_,rfl,a,rfl,⟨_,SqT.of ha⟩,zdx (fs:=(zau rows).map V.int) (SqT.of ha) (by simp [hlen,zcY]) (by rw [List.length_map]; omega) (fun i u v R B hu hv hR=>?_) (fun D hD=>?_)⟩
  ·obtain⟨b,rfl,hbi⟩:=zU hu
   obtain⟨r,hr,hrb⟩:=Paired.get hb hbi
   unfold zau at hv
   rw [List.getElem?_map,List.getElem?_map,hr] at hv
   have hv:V.int (r.length:Int)=v:=by simpa using hv
   subst hv
   refine gY ?_
   refine⟨_,rfl,b,_,rfl,.inr (SqT.of hrb),?_⟩
   rw [List.length_map]
   exact hR
  refine⟨D,zau rows,rfl,SqL.of zc,by unfold zau; simpa using ne,fun M hM hM'=>?_⟩
  have eM:M=(wd rows:Int):=zmm (fun e=>absurd e (by unfold zau; simpa using ne)) fun _=>⟨hM,fun a ha=>by rw [if_pos rfl]; exact hM' a ha⟩
  subst eM
  have s0:=zb (o:=.lst ((zau rows).map V.int)) hD
  generalize upd H D (.lst ((zau rows).map V.int))=H0 at s0 ⊢
  refine⟨_,rfl,_,rfl,_,rfl,p,x,wd rows,rfl,p5,p97,x0,x1,wd1,by omega,fun l1 H1 hl1 s1 h1=>?_⟩
  refine⟨_,rfl,_,rfl,_,rfl,a,_,rfl,.inr (SqT.of ((s0.trans s1) _ _ ha)),?_⟩
  rw [elen]
  refine⟨p,y,rows.length,rfl,p5,p97,y0,y1,hn1,by omega,fun l2 H2 hl2 s2 h2=>?_⟩
  have h1:=s2 _ _ h1
  have s02:=(s0.trans s1).trans s2
  have emt:((m:Int)).toNat=m:=by omega
  refine⟨_,rfl,_,rfl,by omega,by omega,zad (lo:=0) (n:=((m:Int)).toNat) (fun i σ H'=>∃ (e9 e10 e11 e12:Option V),σ = [some (.int p),some (.ref a),some (.ref pt),some (.int (m:Int)),some (.int x),some (.int y),some (.int (wd rows:Int)),some (.ref l1),some (.ref l2),e9,e10,e11,e12]∧zw H2 H') ⟨none,none,none,none,rfl,fun _ _ e=>e⟩ ?_ ?_⟩
  ·rintro i σ H3 hi ⟨e9,e10,e11,e12,rfl,s3⟩
   have hi:i < m:=by omega
   rw [show ((0:Int)+(i:Int))=(i:Int) from Int.zero_add _]
   have s03:=s02.trans s3
   have h3l1:=s3 _ _ h1
   have h3l2:=s3 _ _ h2
   have ewd:((wd rows:Int)).toNat=wd rows:=by omega
   refine⟨_,rfl,_,rfl,by omega,by omega,?_⟩
   rw [ewd]
   refine zI (n:=wd rows) (fun n ys H'=>H'=H3∧ys=(byL p x i n).map V.int) ⟨rfl,rfl⟩ (fun n ys H' hn _=>hn) (fun ys H' _=>Nat.le_refl _) ?_ ?_
   ·rintro s' xx ys H4 H5 hs ⟨rfl,rfl⟩ ⟨rfl,rfl⟩
    rw [show ((0:Int)+(s':Int))=(s':Int) from Int.zero_add _]
    have fin:∀ v:Int,v=byv p x i s'→((byL p x i s').map V.int).length < sizeLine∧H5=H5∧(byL p x i s').map V.int++[V.int v]=(byL p x i (s'+1)).map V.int:=fun v e=>by
     refine⟨by unfold byL; rw [List.length_map,List.length_map,List.length_range]; omega,rfl,?_⟩
     unfold byL
     rw [List.range_succ,List.map_append,List.map_append,e]
     rfl
    refine gY ?_
    refine⟨_,rfl,_,rfl,_,_,rfl,rfl,_,rfl,?_⟩
    refine zaq (fun hge=>?_) (fun hlt=>?_)
    ·have hge:=of_decide_eq_true hge
     have hge:i≤s':=by omega
     have hat:atI ((zbt p x (wd rows)).map V.int) ((s':Int) - (i:Int))=some (.int (x ^ (s' - i) % p)):=by
      rw [show ((s':Int) - (i:Int))=((s' - i:Nat):Int) by omega]
      refine zM ?_
      unfold zbt
      rw [List.getElem?_map,List.getElem?_map,List.getElem?_range (by omega)]
      rfl
     have g0:=Int.emod_nonneg (x ^ (s' - i)) (show p≠0 by omega)
     have g1:=Int.emod_lt_of_pos (x ^ (s' - i)) (show 0 < p by omega)
     refine⟨_,rfl,_,rfl,s',i,rfl,by omega,by omega,_,rfl,_,rfl,_,rfl,_,_,rfl,rfl,l1,_,_,_,rfl,rfl,SqL.of h3l1,hat,_,_,rfl,rfl,.inr ⟨by omega,by omega⟩,?_⟩
     exact fin _ (by unfold byv; rw [if_pos hge])
    ·have hlt:¬ ((i:Int)≤(s':Int)):=fun h=>hlt (decide_eq_true h)
     exact fin _ (by unfold byv; rw [if_neg (by omega)])
   rintro ys H4 BL ⟨rfl,rfl⟩ hBL
   have wB:=zb (o:=.lst ((byL p x i (wd rows)).map V.int)) hBL
   have hB:upd H4 BL (.lst ((byL p x i (wd rows)).map V.int)) BL=some (.lst ((byL p x i (wd rows)).map V.int)):=zc
   have s4:=s3.trans wB
   generalize upd H4 BL (.lst ((byL p x i (wd rows)).map V.int))=H5 at wB hB s4 ⊢
   have s05:=s02.trans s4
   have h5a:=s05 _ _ ha
   refine⟨_,rfl,a,rfl,⟨_,SqT.of h5a⟩,zI (n:=rows.length) (fun t' ys H'=>zw H5 H'∧ys=((rows.take t').map (sms p x i)).map V.int) ⟨fun _ _ e=>e,rfl⟩ ?_ ?_ ?_ ?_⟩
   ·rintro t' ys H6 ht ⟨s6,_⟩
    exact⟨_,.ref (bs[t']'(by omega)),SqT.of (s6 _ _ h5a),by rw [List.getElem?_map,List.getElem?_eq_getElem (by omega)]; rfl⟩
   ·rintro ys H6 ⟨s6,_⟩
    exact⟨_,SqT.of (s6 _ _ h5a),by rw [List.length_map]; omega⟩
   ·rintro t' xx ys H6 H7 ht ⟨s6,rfl⟩ ⟨rfl,hx⟩
    obtain⟨b,rfl,hbm⟩:=zU (hx _ (SqT.of (s6 _ _ h5a)))
    obtain⟨r,hr,hrb⟩:=Paired.get hb hbm
    have hrw:=zfl (List.mem_of_getElem? hr)
    have hrg:=hw r (List.mem_of_getElem? hr)
    have h7r:=(s05.trans s6) _ _ hrb
    have h7B:=s6 _ _ hB
    refine gY ?_
    refine⟨_,rfl,_,rfl,b,BL,_,_,rfl,SqT.of h7r,SqL.of h7B,zI (n:=r.length) (fun s' ys H'=>zw H7 H'∧ys=((List.range s').map fun s'=>gl r s'*byv p x i s').map V.int) ⟨fun _ _ e=>e,rfl⟩ ?_ ?_ ?_ ?_⟩
    ·rintro s' ys H8 hs ⟨s8,_⟩
     refine⟨_,_,.int (r[s']'hs),.int (byv p x i s'),SqT.of (s8 _ _ h7r),SqL.of (s8 _ _ h7B),by rw [List.getElem?_map,List.getElem?_eq_getElem hs]; rfl,?_⟩
     unfold byL
     rw [List.getElem?_map,List.getElem?_map,List.getElem?_range (by omega)]
     rfl
    ·rintro ys H8 ⟨s8,_⟩
     exact⟨_,_,SqT.of (s8 _ _ h7r),SqL.of (s8 _ _ h7B),by unfold byL; rw [List.length_map,List.length_map,List.length_map,List.length_range]; omega⟩
    ·rintro s' xx ys H8 H9 hs ⟨s8,rfl⟩ ⟨T,u,v,hT,rfl,rfl,hu,hv⟩
     obtain⟨c,rfl,hc⟩:=zao (hu _ (SqT.of (s8 _ _ h7r)))
     obtain⟨d,rfl,hd⟩:=zao (hv _ (SqL.of (s8 _ _ h7B)))
     have ed:d=byv p x i s':=by
      unfold byL at hd
      rw [List.getElem?_map,List.getElem?_range (by omega)] at hd
      exact (Option.some.inj hd).symm
     subst ed
     have ec:gl r s'=c:=zaR hc
     have cr:=hrg.2.2 c (List.mem_of_getElem? hc)
     refine gY2 (SqT.of zc) ?_
     refine⟨_,rfl,_,rfl,_,_,rfl,rfl,.inl ⟨by omega,by omega⟩,by rw [List.length_map,List.length_map,List.length_range]; omega,s8.trans (zb hT),?_⟩
     rw [List.range_succ,List.map_append,List.map_append]
     show _++[V.int (c*byv p x i s')]=_++[V.int (gl r s'*byv p x i s')]
     rw [ec]
    ·rintro ys H8 D8 ⟨s8,rfl⟩ hD8
     refine⟨D8,_,rfl,SqL.of zc,?_⟩
     rw [zdB]
     refine⟨by rw [List.length_map,List.length_map,List.length_take]; omega,s6.trans (s8.trans (zb hD8)),?_⟩
     rw [take_snoc hr,List.map_append,List.map_append]
     rfl
   rintro ys H6 SL ⟨s6,rfl⟩ hSL
   rw [List.take_of_length_le (Nat.le_refl _)]
   have wS:=s6.trans (zb (o:=.lst ((rows.map (sms p x i)).map V.int)) hSL)
   have hSs:upd H6 SL (.lst ((rows.map (sms p x i)).map V.int)) SL=some (.lst ((rows.map (sms p x i)).map V.int)):=zc
   have s7:=s4.trans wS
   generalize upd H6 SL (.lst ((rows.map (sms p x i)).map V.int))=H7 at wS hSs s7 ⊢
   have s07:=s02.trans s7
   have h7l2:=s7 _ _ h2
   have emi:((m:Int) - (i:Int)).toNat=m - i:=by omega
   refine⟨_,rfl,_,rfl,_,_,rfl,rfl,_,rfl,by omega,by omega,zad (lo:=0) (n:=((m:Int) - (i:Int)).toNat) (fun j σ H'=>∃ (e12:Option V),σ = [some (.int p),some (.ref a),some (.ref pt),some (.int (m:Int)),some (.int x),some (.int y),some (.int (wd rows:Int)),some (.ref l1),some (.ref l2),some (.int (i:Int)),some (.ref BL),some (.ref SL),e12]∧zw H7 H') ⟨e12,rfl,fun _ _ e=>e⟩ ?_ ?_⟩
   ·rintro j σ H8 hj ⟨e12,rfl,s8⟩
    have hj:j < m - i:=by omega
    rw [show ((0:Int)+(j:Int))=(j:Int) from Int.zero_add _]
    have s08:=s07.trans s8
    have h8S:=s8 _ _ hSs
    have h8l2:=s8 _ _ h7l2
    refine⟨_,rfl,_,rfl,a,_,rfl,.inr (SqT.of (s08 _ _ ha)),?_⟩
    rw [elen]
    have enj:((rows.length:Int) - (j:Int)).toNat=rows.length - j:=by omega
    refine⟨(j:Int),(rows.length:Int),rfl,⟨by omega,by omega,by omega,by omega⟩,?_⟩
    rw [enj]
    refine zI (n:=rows.length - j) (fun k ys H'=>H'=H8∧ys=((List.range k).map fun k=>sms p x i (rows.getD (j+k) [])*ch (j+k) j*(y ^ (j+k - j) % p)).map V.int) ⟨rfl,rfl⟩ (fun n ys H' hn _=>hn) (fun ys H' _=>Nat.le_refl _) ?_ ?_
    ·rintro k xx ys H9 H10 hk ⟨rfl,rfl⟩ ⟨rfl,rfl⟩
     rw [show ((j:Int)+(k:Int))=((j+k:Nat):Int) by omega]
     have hjk:j+k < rows.length:=by omega
     have hat:atI ((rows.map (sms p x i)).map V.int) ((j+k:Nat):Int)=some (.int (sms p x i (rows.getD (j+k) []))):=by
      refine zM ?_
      rw [List.getElem?_map,List.getElem?_map,List.getD_eq_getElem?_getD,List.getElem?_eq_getElem hjk]
      rfl
     have hat2:atI ((zbt p y rows.length).map V.int) (((j+k:Nat):Int) - (j:Int))=some (.int (y ^ (j+k - j) % p)):=by
      rw [show (((j+k:Nat):Int) - (j:Int))=((j+k - j:Nat):Int) by omega]
      refine zM ?_
      unfold zbt
      rw [List.getElem?_map,List.getElem?_map,List.getElem?_range (by omega)]
      rfl
     have g0:=Int.emod_nonneg (y ^ (j+k - j)) (show p≠0 by omega)
     have g1:=Int.emod_lt_of_pos (y ^ (j+k - j)) (show 0 < p by omega)
     have cs:=zkB (t:=j+k) (j:=j) (by omega) (by omega)
     refine gY ?_
     refine⟨_,rfl,_,rfl,SL,_,_,_,rfl,rfl,SqL.of h8S,hat,_,rfl,_,rfl,j+k,j,rfl,by omega,by omega,_,_,rfl,rfl,.inr ⟨by omega,by omega⟩,_,rfl,_,rfl,_,rfl,_,_,rfl,rfl,l2,_,_,_,rfl,rfl,SqL.of h8l2,hat2,_,_,rfl,rfl,.inr ⟨by omega,by omega⟩,?_⟩
     refine⟨by rw [List.length_map,List.length_map,List.length_range]; omega,rfl,?_⟩
     rw [List.range_succ,List.map_append,List.map_append]
     rfl
    ·rintro ys H9 D9 ⟨rfl,rfl⟩ hD9
     refine⟨D9,_,rfl,SqL.of zc,?_⟩
     rw [zdB]
     have hz1:tot p x y rows i j (rows.length - j) % p=0:=by
      rw [(zng.trans (hz i j (by omega))).mod_eq,Int.zero_emod]
     unfold tot at hz1
     generalize (sm (rows.length - j) fun k=>sms p x i (rows.getD (j+k) [])*ch (j+k) j*(y ^ (j+k - j) % p))=T0 at hz1 ⊢
     refine⟨_,rfl,_,_,rfl,rfl,by omega,?_⟩
     refine⟨rfl,_,rfl,?_⟩
     refine zaq (fun hc=>absurd hc (by simp [hz1])) (fun _=>?_)
     exact⟨_,rfl,s8.trans (zb hD9)⟩
   ·rintro σ H8 ⟨e12,rfl,s8⟩
    exact⟨_,_,_,_,rfl,s7.trans s8⟩
  ·rintro σ H3 ⟨e9,e10,e11,e12,rfl,s3⟩
   exact q _ (s02.trans s3)
def gpT (k s m:Nat):List Tm:=(List.range m).flatMap fun j=>(List.range (s - (k - 1)*j+1)).map fun i=>(i,j)
theorem zg2 (k s m:Nat):gpT k s (m+1)=gpT k s m++(List.range (s - (k - 1)*m+1)).map fun i=>(i,m):=by
 unfold gpT
 rw [List.range_succ,List.flatMap_append]
 simp
theorem zga (k s:Nat):∀ m,(gpT k s m).length≤(s+1)*m
 | 0=>by simp [gpT]
 | m+1=>by
  have ih:=zga k s m
  rw [zg2,List.length_append,List.length_map,List.length_range,Nat.mul_succ]
  omega
def rowOf (p:Int) (k s:Nat) (c:Co):List Int:=(gps k s).map fun t=>cv t c % p
def pcI (q:Int×Int×Nat) (m:Nat):List Co:=(List.range m).flatMap fun u=>(List.range (q.2.2 - u)).map fun v=>⟨q.1,q.2.1,u,v⟩
theorem zg3 (q:Int×Int×Nat) (m:Nat):pcI q (m+1)=pcI q m++(List.range (q.2.2 - m)).map fun v=>⟨q.1,q.2.1,m,v⟩:=by
 unfold pcI
 rw [List.range_succ,List.flatMap_append]
 simp
theorem zkV {pts:List (Int×Int×Nat)} {q:Int×Int×Nat}:cos (pts++[q])=cos pts++pco q:=by
 unfold cos
 rw [List.flatMap_append]
 simp
def nmb (p:Int) (x y:Int) (u v:Nat) (t:Tm):Int:=if u≤t.1∧v≤t.2 then ch t.1 u*ch t.2 v*(x ^ (t.1 - u) % p)*(y ^ (t.2 - v) % p) else 0
theorem zlY (p x y:Int) (u v:Nat) (t:Tm):nmb p x y u v t % p=cv t ⟨x,y,u,v⟩ % p:=by
 unfold nmb cv cf
 by_cases h:u≤t.1∧v≤t.2
 ·rw [if_pos h]
  refine Cg.mod_eq ?_
  exact ((((Cg.refl p _).mul (Cg.emod p _)).mul (Cg.emod p _))).trans (Cg.of_eq (by grind))
 ·rw [if_neg h]
  by_cases h1:u≤t.1
  ·have h2:t.2 < v:=by omega
   rw [zbs h2]
   simp
  ·have h2:t.1 < u:=by omega
   rw [zbs h2]
   simp
def zhN (K:PySem.W.Frag):Sp:=fun vs H Q _=>∃ (p:Int) (k s:Nat) (wl:Addr) (cs:List Addr) (pts:List (Int×Int×Nat)),vs = [.int p,.int (k:Int),.ref wl,.int (s:Int)]∧5≤p∧p≤97∧2≤k∧k≤100∧s≤200∧H wl=some (.lst (cs.map V.ref))∧W3 H cs pts∧zfo p pts∧(∀ q∈pts,q.2.2≤4)∧pts.length≤1000 ∧
 ∀ (z rl:Addr) (ls:List Addr) (H':Hp),H z=none→zw H H'→H' z=some (.tup [.ref rl,.int ((gps k s).length:Int)])→H' rl=some (.lst (ls.map V.ref))→LsA H' ls (zeE p k s pts)→Q (.ref z) H'
theorem zS:FnScope ["p","k","weighed","size","pairs","j","rows","a","b","weight","right","up","i","row","s","t","number"] ["p","k","weighed","size"] (zh zbX):=⟨rfl,rfl,rfl,by decide +kernel,rfl,by decide +kernel,by decide +kernel⟩
theorem zhO {fd:FuncData} (T:Txt K mg t) (F:Fun K "_law_asked" "_law_asked" zbX t.l_asked fd):FnOk P w K mg base CX0 2 t.l_asked fd ["p","k","weighed","size"] (zhN K):=by
 obtain⟨fd_l_powers,F_l_powers,b_l_powers⟩:=T.f_l_powers
 have G_l_powers:=zdR (P:=P) (w:=w) (base:=base) T F_l_powers
 obtain⟨fd_l_choose,F_l_choose,b_l_choose⟩:=T.f_l_choose
 have G_l_choose:=zdS (P:=P) (w:=w) (base:=base) T F_l_choose
 refine F.ok zS (fun vs H Q E h=>?_) (fun cdv A outer s H vs Q E hr h=>?_)
 ·obtain⟨p,k,sz,wl,cs,pts,rfl,_⟩:=h
  rfl
 ·obtain⟨p,k,sz,wl,cs,pts,rfl,p5,p97,k2,k100,hs,hwl,hcs,hg,hw4,hn,q⟩:=h
  refine⟨_,(@ze _ _ _ _ _ (@zm _ _ (4) _ _ _ _ zS.nd rfl (Or.inl rfl) (@zY _ _ _ _ (@zd _)) (by rfl) (by trivial)) (by exact (@ze _ _ _ _ _ (@zal _ _ _ _ _ _ _ _ PassesOwn.never rfl (@zH _ _ _ _ _ _ rfl T.range_ (@ya _ _ _ (@zi _ _ _ _ _ _ _ _ (@zG _) (@zi _ _ _ _ _ _ _ _ (@zaV _) (@pvx _ 3 _ _ rfl) (@zi _ _ _ _ _ _ _ _ (@zR _) (@pvx _ 1 _ _ rfl) (@zf _ _ _ _))) (@zf _ _ _ _)) (by rfl)) (by rfl)) (@zg _ _ (5) _ zS.nd rfl (Or.inr rfl) (by trivial)) (@zk _ _ _ (@za3 _ _ _ _ (@zcd _ _ _ _ _ _ _ _ _ _ _ _ PySem.F.plainAttrs_list PySem.F.slot_list_extend PySem.F.type_list_extend (@zfe _) (@pvx _ 4 _ _ rfl) (@ya _ _ _ (@zA _ _ _ _ _ _ _ _ _ _ _ _ _ (CompSc.of (N':=["i","j"]) (ix:=[none,some 5]) (zh zbX) ["p","k","weighed","size","pairs","j","rows","a","b","weight","right","up","i","row","s","t","number"] rfl rfl (by decide +kernel)) rfl (@zT _ _ rfl) (@zH _ _ _ _ _ _ rfl T.range_ (@ya _ _ _ (@zi _ _ _ _ _ _ _ _ (@zG _) (@zi _ _ _ _ _ _ _ _ (@zR _) (@pvx _ 3 _ _ rfl) (@zi _ _ _ _ _ _ _ _ (@zD _) (@zi _ _ _ _ _ _ _ _ (@zR _) (@pvx _ 1 _ _ rfl) (@zf _ _ _ _)) (@pvx _ 5 _ _ rfl))) (@zf _ _ _ _)) (by rfl)) (by rfl)) (fun _ _ _ _=>(@zg _ _ (0) _ (show (["i","j"]:List Str).Nodup by decide +kernel) rfl (Or.inl rfl) (by trivial))) (fun _ _ _ _=>(@zr _)) (fun _ _ _ _=>(@za4 _ _ _ _ _ (@za _ _ _ _ _ (@pvx _ 0 _ _ rfl) (@ya _ _ _ (@pvx _ 1 _ _ rfl) (by rfl)) (by rfl)))) (by intro _; rfl)) (by rfl)) (by rfl) (by rfl) (by rfl) (by rfl) (by rfl)) (by rfl))) (by intro _; rfl)) (by exact (@ze _ _ _ _ _ (@zm _ _ (6) _ _ _ _ zS.nd rfl (Or.inl rfl) (@zY _ _ _ _ (@zd _)) (by rfl) (by trivial)) (by exact (@ze _ _ _ _ _ (@zal _ _ _ _ _ _ _ _ PassesOwn.never rfl (@z9 _ _ _ _ (@pvx _ 2 _ _ rfl)) (@zaP _ _ _ _ _ _ rfl (@zj _ _ _ _ _ (@zg _ _ (7) _ zS.nd rfl (Or.inl rfl) (by trivial)) (@zj _ _ _ _ _ (@zg _ _ (8) _ zS.nd rfl (Or.inl rfl) (by trivial)) (@zj _ _ _ _ _ (@zg _ _ (9) _ zS.nd rfl (Or.inl rfl) (by trivial)) (@zB _) (by rfl)) (by rfl)) (by rfl)) (by rfl) (by rfl)) (@ze _ _ _ _ _ (@zm _ _ (10) _ _ _ _ zS.nd rfl (Or.inl rfl) (@zp _ _ _ _ _ _ _ _ _ _ _ _ _ _ _ _ G_l_powers (hr.mono (by decide)) rfl T.m_l_powers F_l_powers.kp b_l_powers .nil (@zN _) (@za _ _ _ _ _ (@pvx _ 0 _ _ rfl) (@za _ _ _ _ _ (@pvx _ 7 _ _ rfl) (@ya _ _ _ (@zi _ _ _ _ _ _ _ _ (@zG _) (@pvx _ 3 _ _ rfl) (@zf _ _ _ _)) (by rfl)) (by rfl)) (by rfl)) (by decide) (by rfl) (by rfl)) (by rfl) (by trivial)) (by exact (@ze _ _ _ _ _ (@zm _ _ (11) _ _ _ _ zS.nd rfl (Or.inl rfl) (@zp _ _ _ _ _ _ _ _ _ _ _ _ _ _ _ _ G_l_powers (hr.mono (by decide)) rfl T.m_l_powers F_l_powers.kp b_l_powers .nil (@zN _) (@za _ _ _ _ _ (@pvx _ 0 _ _ rfl) (@za _ _ _ _ _ (@pvx _ 8 _ _ rfl) (@ya _ _ _ (@zi _ _ _ _ _ _ _ _ (@zG _) (@zi _ _ _ _ _ _ _ _ (@zaV _) (@pvx _ 3 _ _ rfl) (@zi _ _ _ _ _ _ _ _ (@zR _) (@pvx _ 1 _ _ rfl) (@zf _ _ _ _))) (@zf _ _ _ _)) (by rfl)) (by rfl)) (by rfl)) (by decide) (by rfl) (by rfl)) (by rfl) (by trivial)) (by exact (@zk _ _ _ (@zal _ _ _ _ _ _ _ _ PassesOwn.never rfl (@zH _ _ _ _ _ _ rfl T.range_ (@ya _ _ _ (@pvx _ 9 _ _ rfl) (by rfl)) (by rfl)) (@zg _ _ (12) _ zS.nd rfl (Or.inl rfl) (by trivial)) (@zk _ _ _ (@zal _ _ _ _ _ _ _ _ PassesOwn.never rfl (@zH _ _ _ _ _ _ rfl T.range_ (@ya _ _ _ (@zi _ _ _ _ _ _ _ _ (@zR _) (@pvx _ 9 _ _ rfl) (@pvx _ 12 _ _ rfl)) (by rfl)) (by rfl)) (@zg _ _ (5) _ zS.nd rfl (Or.inr rfl) (by trivial)) (@ze _ _ _ _ _ (@zm _ _ (13) _ _ _ _ zS.nd rfl (Or.inl rfl) (@zY _ _ _ _ (@zd _)) (by rfl) (by trivial)) (by exact (@ze _ _ _ _ _ (@zal _ _ _ _ _ _ _ _ PassesOwn.never rfl (@z9 _ _ _ _ (@pvx _ 4 _ _ rfl)) (@zaP _ _ _ _ _ _ rfl (@zj _ _ _ _ _ (@zg _ _ (14) _ zS.nd rfl (Or.inl rfl) (by trivial)) (@zj _ _ _ _ _ (@zg _ _ (15) _ zS.nd rfl (Or.inl rfl) (by trivial)) (@zB _) (by rfl)) (by rfl)) (by rfl) (by rfl)) (@ze _ _ _ _ _ (@zm _ _ (16) _ _ _ _ zS.nd rfl (Or.inl rfl) (@zf _ _ _ _) (by rfl) (by trivial)) (by exact (@ze _ _ _ _ _ (zm1 (@zaO _ _ _ _ _ _ _ _ (@PW.pt _ _ _ (@zjq _ _ _ _ _ _ _ (@zC _ _ _ _ _ _ _ _ (@zej _) (@pvx _ 14 _ _ rfl) (@pvx _ 12 _ _ rfl) (zL _)) (@zhR _ _ _ _ (@zC _ _ _ _ _ _ _ _ (@zej _) (@pvx _ 15 _ _ rfl) (@pvx _ 5 _ _ rfl) (zL _))))) (@zk _ _ _ (@zm _ _ (16) _ _ _ _ zS.nd rfl (Or.inl rfl) (@zi _ _ _ _ _ _ _ _ (@zD _) (@zi _ _ _ _ _ _ _ _ (@zD _) (@zi _ _ _ _ _ _ _ _ (@zD _) (@zp _ _ _ _ _ _ _ _ _ _ _ _ _ _ _ _ G_l_choose (hr.mono (by decide)) rfl T.m_l_choose F_l_choose.kp b_l_choose .nil (@zN _) (@za _ _ _ _ _ (@pvx _ 14 _ _ rfl) (@ya _ _ _ (@pvx _ 12 _ _ rfl) (by rfl)) (by rfl)) (by decide) (by rfl) (by rfl)) (@zp _ _ _ _ _ _ _ _ _ _ _ _ _ _ _ _ G_l_choose (hr.mono (by decide)) rfl T.m_l_choose F_l_choose.kp b_l_choose .nil (@zN _) (@za _ _ _ _ _ (@pvx _ 15 _ _ rfl) (@ya _ _ _ (@pvx _ 5 _ _ rfl) (by rfl)) (by rfl)) (by decide) (by rfl) (by rfl))) (@zy _ _ _ _ _ _ _ (@zu _) (@pvx _ 10 _ _ rfl) (@zi _ _ _ _ _ _ _ _ (@zR _) (@pvx _ 14 _ _ rfl) (@pvx _ 12 _ _ rfl)) (fun _ _=>rfl))) (@zy _ _ _ _ _ _ _ (@zu _) (@pvx _ 11 _ _ rfl) (@zi _ _ _ _ _ _ _ _ (@zR _) (@pvx _ 15 _ _ rfl) (@pvx _ 5 _ _ rfl)) (fun _ _=>rfl))) (by rfl) (by trivial))) (@z8 _))) (by exact (@zk _ _ _ (@za3 _ _ _ _ (@zcd _ _ _ _ _ _ _ _ _ _ _ _ PySem.F.plainAttrs_list PySem.F.slot_list_append PySem.F.type_list_append (@zbb _) (@pvx _ 13 _ _ rfl) (@ya _ _ _ (@zi _ _ _ _ _ _ _ _ (@zE _) (@pvx _ 16 _ _ rfl) (@pvx _ 0 _ _ rfl)) (by rfl)) (by rfl) (by rfl) (by rfl) (by rfl) (by rfl)) (by rfl))))))) (by intro _; rfl)) (by exact (@zk _ _ _ (@za3 _ _ _ _ (@zcd _ _ _ _ _ _ _ _ _ _ _ _ PySem.F.plainAttrs_list PySem.F.slot_list_append PySem.F.type_list_append (@zbb _) (@pvx _ 6 _ _ rfl) (@ya _ _ _ (@pvx _ 13 _ _ rfl) (by rfl)) (by rfl) (by rfl) (by rfl) (by rfl) (by rfl)) (by rfl))))))) (by intro _; rfl))) (by intro _; rfl))))))) (by intro _; rfl)) (by exact (@zk _ _ _ (@zz _ _ _ _ (@za4 _ _ _ _ _ (@za _ _ _ _ _ (@pvx _ 6 _ _ rfl) (@ya _ _ _ (@zn _ _ _ _ _ _ _ _ _ (@zx _) (by rfl) T.len_ boot_len (@ya _ _ _ (@pvx _ 4 _ _ rfl) (by rfl)) (by decide) (by decide) (by rfl) (by rfl)) (by rfl)) (by rfl))))))))))))),?_⟩
  have hsl:=sizeLine_eq
  have hcl:=Paired.length hcs
  have k1:0 < k - 1:=by omega
  have ek1:((k:Int) - 1)=((k - 1:Nat):Int):=by omega
  have eN:((sz:Int) / ((k:Int) - 1)+1)=((sz / (k - 1)+1:Nat):Int):=by
   rw [ek1]
   exact congrArg (· + 1) (Int.natCast_ediv sz (k - 1)).symm
  have hqs:sz / (k - 1)≤sz:=Nat.div_le_self _ _
  obtain⟨nq',enq⟩:∃ n,sz / (k - 1)=n:=⟨_,rfl⟩
  have hgl:∀ t∈gps k sz,t.1≤sz∧t.2≤nq':=fun t ht=>by
   unfold gps at ht
   obtain⟨j,hj,ht⟩:=List.mem_flatMap.mp ht
   obtain⟨i,hi,rfl⟩:=List.mem_map.mp ht
   have:=List.mem_range.mp hj
   have:=List.mem_range.mp hi
   exact⟨by show i≤sz; omega,by show j≤nq'; omega⟩
  have egp:gps k sz=gpT k sz (nq'+1):=by unfold gps gpT; rw [enq]
  have gln:=zga k sz (nq'+1)
  have glm:(sz+1)*(nq'+1)≤201*201:=Nat.mul_le_mul (by omega) (by omega)
  refine⟨Nat.zero_le _,fun PL hPL=>?_⟩
  refine⟨_,rfl,_,rfl,_,_,rfl,rfl,_,_,rfl,rfl,⟨by omega,by omega⟩,_,_,rfl,rfl,?_⟩
  refine⟨(sz:Int) / ((k:Int) - 1)+1,rfl,by rw [eN]; exact Int.le_trans (by decide) (Int.natCast_nonneg _),by rw [eN]; exact Int.lt_of_le_of_lt (Int.ofNat_le.mpr (show sz / (k - 1)+1≤301 from Nat.succ_le_succ (Nat.le_trans hqs (by omega)))) (by decide),?_⟩
  rw [eN,Int.toNat_natCast,enq]
  refine zad (lo:=0) (n:=nq'+1) (fun j σ H'=>∃ (e5:Option V) (us:List Addr),σ = [some (.int p),some (.int (k:Int)),some (.ref wl),some (.int (sz:Int)),some (.ref PL),e5,none,none,none,none,none,none,none,none,none,none,none]∧zw H H'∧H' PL=some (.lst (us.map V.ref))∧PtB H' us ((gpT k sz j).map tI)) ⟨none,[],rfl,zb hPL,zc,.nil⟩ ?_ ?_
  ·rintro j σ H1 hj ⟨e5,us,rfl,s1,h1,hus⟩
   rw [show ((0:Int)+(j:Int))=(j:Int) from Int.zero_add _]
   have hjs:(k - 1)*j≤sz:=by
    have:=(Nat.le_div_iff_mul_le k1).mp (show j≤sz / (k - 1) by omega)
    rw [Nat.mul_comm]; exact this
   have eV:(sz:Int) - ((k:Int) - 1)*(j:Int)+1=((sz - (k - 1)*j+1:Nat):Int):=by
    rw [ek1,Int.natCast_add,Int.natCast_sub hjs,Int.natCast_mul]
    rfl
   refine⟨_,rfl,.inl ⟨rfl,_,SqL.of h1⟩,_,rfl,_,rfl,_,_,rfl,rfl,_,rfl,_,_,rfl,rfl,.inl ⟨by omega,by omega⟩,_,_,rfl,rfl,_,_,rfl,rfl,?_⟩
   refine⟨(sz:Int) - ((k:Int) - 1)*(j:Int)+1,rfl,by rw [eV]; omega,by rw [eV]; omega,?_⟩
   rw [eV,Int.toNat_natCast]
   refine zI (n:=sz - (k - 1)*j+1) (fun i ys H'=>zw H1 H'∧∃ vs:List Addr,ys=vs.map V.ref∧PtB H' vs (((List.range i).map fun i=>(i,j)).map tI)) ⟨fun _ _ e=>e,[],rfl,.nil⟩ (fun i ys H' hi _=>hi) (fun ys H' _=>Nat.le_refl _) ?_ ?_
   ·rintro i x ys H2 H3 hi ⟨s2,vs,rfl,hvs⟩ ⟨rfl,rfl⟩
    rw [show ((0:Int)+(i:Int))=(i:Int) from Int.zero_add _]
    have hvl:vs.length=i:=by rw [Paired.length hvs,List.length_map,List.length_map,List.length_range]
    refine gY ?_
    refine⟨_,rfl,_,rfl,by show 2≤sizeLine; omega,fun T hT=>⟨by rw [List.length_map]; omega,s2.trans (zb hT),vs++[T],by simp,?_⟩⟩
    rw [List.range_succ,List.map_append,List.map_append]
    exact Paired.snoc (hvs.same (zb hT)) zc
   ·rintro ys H2 D ⟨s2,vs,rfl,hvs⟩ hD
    have sD:=s2.trans (zb (o:=.lst (vs.map V.ref)) hD)
    have hvl:vs.length=sz - (k - 1)*j+1:=by rw [Paired.length hvs,List.length_map,List.length_map,List.length_range]
    have hul:us.length=(gpT k sz j).length:=by rw [Paired.length hus,List.length_map]
    have gl1:=zga k sz j
    have gl2:(sz+1)*j≤201*201:=Nat.mul_le_mul (by omega) (by omega)
    have DP:D≠PL:=(zq (s2 _ _ h1) hD).symm
    refine⟨PL,D,_,_,rfl,rfl,sD _ _ h1,zc,by rw [List.length_map,List.length_map]; omega,?_⟩
    refine⟨_,us++vs,rfl,zW (s1.trans sD) hPL,by rw [zc,List.map_append],?_⟩
    rw [zg2,List.map_append]
    exact zkO (zf2 (hus.same sD) (sD _ _ h1)) (zf2 (hvs.same (zb hD)) (sD _ _ h1))
  rintro σ HA ⟨e5,us,rfl,sA,hPLs,hus⟩
  rw [← egp] at hus
  have hul:us.length=(gps k sz).length:=by rw [Paired.length hus,List.length_map]
  rw [← egp] at gln
  refine⟨Nat.zero_le _,fun RL hRL=>?_⟩
  have hwlA:=sA _ _ hwl
  refine⟨_,rfl,wl,rfl,⟨_,SqL.of ((zb hRL) _ _ hwlA)⟩,zbN (K:=K) (a:=wl) (xs:=cs.map V.ref) (fun n σ H'=>∃ (e5 e7 e8 e9 e10 e11 e12 e13 e14 e15 e16:Option V) (ls:List Addr),σ = [some (.int p),some (.int (k:Int)),some (.ref wl),some (.int (sz:Int)),some (.ref PL),e5,some (.ref RL),e7,e8,e9,e10,e11,e12,e13,e14,e15,e16]∧zw HA H'∧H' RL=some (.lst (ls.map V.ref))∧LsA H' ls ((cos (pts.take n)).map (rowOf p k sz))) ⟨e5,none,none,none,none,none,none,none,none,none,none,[],rfl,zb hRL,zc,.nil⟩ ?_ ?_ ?_⟩
  ·rintro n σ H' _ ⟨_,_,_,_,_,_,_,_,_,_,_,_,_,s',_⟩
   exact SqL.of (s' _ _ hwlA)
  ·rintro n xv σ H1 hx ⟨e5,e7,e8,e9,e10,e11,e12,e13,e14,e15,e16,ls,rfl,s1,hR,hls⟩
   obtain⟨b,rfl,hb⟩:=zU hx
   obtain⟨⟨x,y,wt⟩,hq,hqb⟩:=Paired.get hcs hb
   obtain⟨x0,x1,y0,y1,w1,_⟩:=hg _ (List.mem_of_getElem? hq)
   have w4:wt≤4:=hw4 _ (List.mem_of_getElem? hq)
   refine⟨b,_,rfl,SqT.of ((sA.trans s1) _ _ hqb),rfl,_,_,rfl,_,_,rfl,_,_,rfl,rfl,?_⟩
   refine⟨_,rfl,_,rfl,_,rfl,_,_,rfl,rfl,p,x,sz+1,rfl,p5,p97,x0,x1,by omega,by omega,fun r1 H2 hr1 s2 h2=>?_⟩
   refine⟨_,rfl,_,rfl,_,rfl,_,rfl,_,_,rfl,rfl,_,_,rfl,rfl,⟨by omega,by omega⟩,_,_,rfl,rfl,p,y,nq'+1,?_,p5,p97,y0,y1,by omega,by omega,fun u1 H3 hu1 s3 h3=>?_⟩
   ·show [V.int p,V.int y,V.int ((sz:Int) / ((k:Int) - 1)+1)]=_
    rw [eN,enq]
   have s13:=s1.trans (s2.trans s3)
   have h3r:=s3 _ _ h2
   have hR3:=(s2.trans s3) _ _ hR
   have r1R:r1≠RL:=(zq hR hr1).symm
   have u1R:u1≠RL:=(zq (s2 _ _ hR) hu1).symm
   have ewt:((wt:Int)).toNat=wt:=by omega
   refine⟨_,rfl,_,rfl,by omega,by omega,?_⟩
   rw [ewt]
   refine zad (lo:=0) (n:=wt) (fun i σ H'=>∃ (e5 e12 e13 e14 e15 e16:Option V) (ls:List Addr),σ = [some (.int p),some (.int (k:Int)),some (.ref wl),some (.int (sz:Int)),some (.ref PL),e5,some (.ref RL),some (.int x),some (.int y),some (.int (wt:Int)),some (.ref r1),some (.ref u1),e12,e13,e14,e15,e16]∧zw HA H'∧(H' r1=some (.lst ((zbt p x (sz+1)).map V.int))∧H' u1=some (.lst ((zbt p y (nq'+1)).map V.int)))∧H' RL=some (.lst (ls.map V.ref))∧LsA H' ls ((cos (pts.take n)++pcI (x,y,wt) i).map (rowOf p k sz))) ⟨e5,e12,e13,e14,e15,e16,ls,rfl,s13,⟨h3r,h3⟩,hR3,?_⟩ ?_ ?_
   ·rw [show pcI (x,y,wt) 0 = [] from rfl,List.append_nil]
    exact hls.same (s2.trans s3)
   ·rintro i σ H4 hi ⟨e5,e12,e13,e14,e15,e16,ls,rfl,s4,⟨h4r,h4u⟩,hR4,hls4⟩
    rw [show ((0:Int)+(i:Int))=(i:Int) from Int.zero_add _]
    have ewi:((wt:Int) - (i:Int)).toNat=wt - i:=by omega
    refine⟨_,rfl,_,rfl,_,_,rfl,rfl,_,rfl,by omega,by omega,?_⟩
    rw [ewi]
    refine zad (lo:=0) (n:=wt - i) (fun j σ H'=>∃ (e5 e13 e14 e15 e16:Option V) (ls:List Addr),σ = [some (.int p),some (.int (k:Int)),some (.ref wl),some (.int (sz:Int)),some (.ref PL),e5,some (.ref RL),some (.int x),some (.int y),some (.int (wt:Int)),some (.ref r1),some (.ref u1),some (.int (i:Int)),e13,e14,e15,e16]∧zw HA H'∧(H' r1=some (.lst ((zbt p x (sz+1)).map V.int))∧H' u1=some (.lst ((zbt p y (nq'+1)).map V.int)))∧H' RL=some (.lst (ls.map V.ref))∧LsA H' ls ((cos (pts.take n)++pcI (x,y,wt) i++(List.range j).map fun v=>(⟨x,y,i,v⟩:Co)).map (rowOf p k sz))) ⟨e5,e13,e14,e15,e16,ls,rfl,s4,⟨h4r,h4u⟩,hR4,?_⟩ ?_ ?_
    ·rw [List.range_zero,List.map_nil,List.append_nil]
     exact hls4
    ·rintro j σ H5 hj ⟨e5,e13,e14,e15,e16,ls,rfl,s5,⟨h5r,h5u⟩,hR5,hls5⟩
     rw [show ((0:Int)+(j:Int))=(j:Int) from Int.zero_add _]
     refine⟨Nat.zero_le _,fun RW hRW=>?_⟩
     have hP5:=s5 _ _ hPLs
     refine⟨_,rfl,PL,rfl,⟨_,SqL.of ((zb hRW) _ _ hP5)⟩,zbN (K:=K) (a:=PL) (xs:=us.map V.ref) (fun a' σ H'=>∃ (e14 e15 e16:Option V),σ = [some (.int p),some (.int (k:Int)),some (.ref wl),some (.int (sz:Int)),some (.ref PL),some (.int (j:Int)),some (.ref RL),some (.int x),some (.int y),some (.int (wt:Int)),some (.ref r1),some (.ref u1),some (.int (i:Int)),some (.ref RW),e14,e15,e16]∧zw H5 H'∧H' RW=some (.lst ((((gps k sz).take a').map fun t=>cv t ⟨x,y,i,j⟩ % p).map V.int))) ⟨e14,e15,e16,rfl,zb hRW,zc⟩ ?_ ?_ ?_⟩
     ·rintro a' σ H' _ ⟨_,_,_,_,s',_⟩
      exact SqL.of (s' _ _ hP5)
     ·rintro a' xv' σ H6 hxv ⟨e14,e15,e16,rfl,s6,h6W⟩
      obtain⟨b',rfl,hb'⟩:=zU hxv
      obtain⟨q',hq',hT⟩:=Paired.get hus hb'
      rw [List.getElem?_map] at hq'
      obtain⟨tt,htt,rfl⟩:=Option.map_eq_some_iff.mp hq'
      have hb2:=hgl tt (List.mem_of_getElem? htt)
      have hT6:=(s5.trans s6) _ _ hT
      have h6r:=s6 _ _ h5r
      have h6u:=s6 _ _ h5u
      refine⟨b',_,rfl,SqT.of hT6,rfl,_,_,rfl,_,_,rfl,rfl,?_⟩
      refine⟨fun σ' H'=>H'=H6∧σ' = [some (.int p),some (.int (k:Int)),some (.ref wl),some (.int (sz:Int)),some (.ref PL),some (.int (j:Int)),some (.ref RL),some (.int x),some (.int y),some (.int (wt:Int)),some (.ref r1),some (.ref u1),some (.int (i:Int)),some (.ref RW),some (.int (tt.1:Int)),some (.int (tt.2:Int)),some (.int (nmb p x y i j tt))],?_,?_⟩
      ·refine⟨_,rfl,_,rfl,_,_,rfl,rfl,_,rfl,?_⟩
       have hch1:=zkB (t:=tt.1) (j:=i) (by omega) (by omega)
       have hch2:=zkB (t:=tt.2) (j:=j) (by omega) (by omega)
       refine zaq (fun h1=>?_) (fun h1=>?_)
       ·have h1:(i:Int)≤(tt.1:Int):=of_decide_eq_true h1
        refine⟨_,rfl,_,rfl,_,_,rfl,rfl,_,rfl,?_⟩
        refine zaq (fun h2=>?_) (fun h2=>?_)
        ·have h2:(j:Int)≤(tt.2:Int):=of_decide_eq_true h2
         have hat:atI ((zbt p x (sz+1)).map V.int) ((tt.1:Int) - (i:Int))=some (.int (x ^ (tt.1 - i) % p)):=by
          rw [show ((tt.1:Int) - (i:Int))=((tt.1 - i:Nat):Int) by omega]
          refine zM ?_
          unfold zbt
          rw [List.getElem?_map,List.getElem?_map,List.getElem?_range (by omega)]
          rfl
         have hat2:atI ((zbt p y (nq'+1)).map V.int) ((tt.2:Int) - (j:Int))=some (.int (y ^ (tt.2 - j) % p)):=by
          rw [show ((tt.2:Int) - (j:Int))=((tt.2 - j:Nat):Int) by omega]
          refine zM ?_
          unfold zbt
          rw [List.getElem?_map,List.getElem?_map,List.getElem?_range (by omega)]
          rfl
         have g10:=Int.emod_nonneg (x ^ (tt.1 - i)) (show p≠0 by omega)
         have g11:=Int.emod_lt_of_pos (x ^ (tt.1 - i)) (show 0 < p by omega)
         have g20:=Int.emod_nonneg (y ^ (tt.2 - j)) (show p≠0 by omega)
         have g21:=Int.emod_lt_of_pos (y ^ (tt.2 - j)) (show 0 < p by omega)
         refine⟨_,rfl,_,rfl,tt.1,i,rfl,by omega,by omega,_,rfl,_,rfl,tt.2,j,rfl,by omega,by omega,_,_,rfl,rfl,.inr ⟨by omega,by omega⟩,?_⟩
         refine⟨_,rfl,_,rfl,_,rfl,_,_,rfl,rfl,r1,_,_,_,rfl,rfl,SqL.of h6r,hat,_,_,rfl,rfl,.inr ⟨by omega,by omega⟩,?_⟩
         refine⟨_,rfl,_,rfl,_,rfl,_,_,rfl,rfl,u1,_,_,_,rfl,rfl,SqL.of h6u,hat2,_,_,rfl,rfl,.inr ⟨by omega,by omega⟩,?_⟩
         refine⟨rfl,?_⟩
         have en:nmb p x y i j tt=ch tt.1 i*ch tt.2 j*(x ^ (tt.1 - i) % p)*(y ^ (tt.2 - j) % p):=by unfold nmb; rw [if_pos ⟨by omega,by omega⟩]
         rw [en]
         rfl
        ·have h2:¬ ((j:Int)≤(tt.2:Int)):=fun h=>h2 (decide_eq_true h)
         refine⟨rfl,?_⟩
         have en:nmb p x y i j tt=0:=by unfold nmb; rw [if_neg (by omega)]
         rw [en]
         rfl
       ·have h1:¬ ((i:Int)≤(tt.1:Int)):=fun h=>h1 (decide_eq_true h)
        refine zeT ⟨rfl,?_⟩
        have en:nmb p x y i j tt=0:=by unfold nmb; rw [if_neg (by omega)]
        rw [en]
        rfl
      ·rintro σ' H' ⟨rfl,rfl⟩
       have hlt':a' < (gps k sz).length:=(List.getElem?_eq_some_iff.mp htt).1
       refine⟨_,rfl,.inl ⟨rfl,_,SqL.of h6W⟩,_,rfl,_,rfl,_,_,rfl,rfl,by omega,RW,_,_,rfl,rfl,h6W,by rw [List.length_map,List.length_map,List.length_take]; omega,?_⟩
       refine⟨_,_,_,rfl,zW s6 hRW,?_⟩
       rw [zc]
       show some (HO.lst (_++[V.int (nmb p x y i j tt % p)]))=_
       rw [zlY,take_snoc htt,List.map_append,List.map_append]
       rfl
     ·rintro σ H6 ⟨e14,e15,e16,rfl,s6,h6W⟩
      rw [List.length_map,hul,List.take_of_length_le (Nat.le_refl _)] at h6W
      have h6R:=s6 _ _ hR5
      have RWR:RW≠RL:=(zq hR5 hRW).symm
      have hll:ls.length≤(cos pts).length+100:=by
       have e1:=Paired.length hls5
       have e2:=zkL (pts:=pts) n
       rw [List.length_map,List.length_append,List.length_append,List.length_map,List.length_range] at e1
       have e3:(pcI (x,y,wt) i).length≤wt*i:=by
        clear e1
        have:∀ m,(pcI (x,y,wt) m).length≤wt*m:=by
         intro m
         induction m with
         | zero=>simp [pcI]
         | succ m ih =>
          rw [zg3,List.length_append,List.length_map,List.length_range,Nat.mul_succ]
          show _+(wt - m)≤_
          omega
        exact this i
       have e4:wt*i≤4*4:=Nat.mul_le_mul w4 (by omega)
       omega
      have hcb:(cos pts).length≤10*1000:=by
       rw [zcI]
       have:∀ l:List (Int×Int×Nat),(∀ q∈l,q.2.2≤4)→zbU l≤10*l.length:=by
        intro l
        induction l with
        | nil=>intro _; exact Nat.le_refl _
        | cons a l ih =>
         intro hl
         have h1:=ih fun q hq=>hl q (List.mem_cons_of_mem _ hq)
         have h2:=hl a List.mem_cons_self
         have h3:tri a.2.2≤10:=by
          have:a.2.2=0∨a.2.2=1∨a.2.2=2∨a.2.2=3∨a.2.2=4:=by omega
          rcases this with e | e | e | e | e <;> rw [e] <;> decide
         unfold zbU at h1 ⊢
         rw [List.map_cons,List.sum_cons,List.length_cons]
         omega
       have:=this pts hw4
       omega
      refine⟨_,rfl,.inl ⟨rfl,_,SqL.of h6R⟩,_,rfl,RL,_,_,rfl,rfl,h6R,by rw [List.length_map]; omega,?_⟩
      refine⟨_,_,_,_,_,ls++[RW],rfl,zW (s5.trans s6) hRL,⟨by rw [zl r1R]; exact s6 _ _ h5r,by rw [zl u1R]; exact s6 _ _ h5u⟩,by rw [zc,List.map_append]; rfl,?_⟩
      have el:(cos (pts.take n)++pcI (x,y,wt) i++(List.range (j+1)).map fun v=>(⟨x,y,i,v⟩:Co)).map (rowOf p k sz)=(cos (pts.take n)++pcI (x,y,wt) i++(List.range j).map fun v=>(⟨x,y,i,v⟩:Co)).map (rowOf p k sz)++[rowOf p k sz ⟨x,y,i,j⟩]:=by
       rw [List.range_succ,List.map_append (f:=fun v=>(⟨x,y,i,v⟩:Co)),← List.append_assoc,List.map_append]
       rfl
      rw [el]
      refine Paired.snoc (zkC (D:=RL) (fun hm=>?_) (fun c o hc e=>by rw [zl hc]; exact e) (hls5.same s6)) (by rw [zl RWR]; exact h6W)
      obtain⟨j',hj'⟩:=List.mem_iff_getElem?.mp hm
      exact LsA.off hls5 hR5 j' RL hj' rfl
    ·rintro σ H5 ⟨e5,e13,e14,e15,e16,ls,rfl,s5,h5,hR5,hls5⟩
     refine⟨_,_,_,_,_,_,ls,rfl,s5,h5,hR5,?_⟩
     rw [zg3,← List.append_assoc]
     exact hls5
   ·rintro σ H4 ⟨e5,e12,e13,e14,e15,e16,ls,rfl,s4,h4,hR4,hls4⟩
    refine⟨_,_,_,_,_,_,_,_,_,_,_,ls,rfl,s4,hR4,?_⟩
    rw [take_snoc hq,zkV]
    exact hls4
  ·rintro σ H' ⟨e5,e7,e8,e9,e10,e11,e12,e13,e14,e15,e16,ls,rfl,s',hR,hls⟩
   rw [List.length_map,hcl,List.take_of_length_le (Nat.le_refl _)] at hls
   refine⟨_,rfl,_,rfl,PL,_,rfl,.inl (SqL.of (s' _ _ hPLs)),by show 2≤sizeLine; omega,fun z hz=>?_⟩
   rw [List.length_map,hul]
   have sf:=sA.trans s'
   have wz:=zb (o:=.tup [.ref RL,.int ((gps k sz).length:Int)]) hz
   exact q z RL ls _ (sf.free hz) (sf.trans wz) zc (wz _ _ hR) (hls.same wz)
end
end My
end
section
set_option maxHeartbeats 4000000
namespace My
open PySem L2 PyProof.Rows
section
variable {P:Program} {w:World} {K:PySem.W.Frag} {mg:Str→Option Value} {base:Heap} {t:Adr}
theorem zkW {k s:Nat} {g:Tm→Int} {r:List Int} (h:r∈zat k s g):∃ j,j < s / (k - 1)+1∧r=(List.range (s - (k - 1)*j+1)).map fun i=>g (i,j):=by
 unfold zat at h
 obtain⟨j,hj,rfl⟩:=List.mem_map.mp h
 exact⟨j,List.mem_range.mp hj,rfl⟩
theorem zim {p:Int} {k s:Nat} {g:Tm→Int} (hg:∀ t,0≤g t∧g t < p):∀ r∈zat k s g,1≤r.length∧r.length≤s+1∧∀ v∈r,0≤v∧v < p:=fun r hr=>by
 obtain⟨j,_,rfl⟩:=zkW hr
 rw [List.length_map,List.length_range]
 refine⟨by omega,by omega,fun v hv=>?_⟩
 obtain⟨i,_,rfl⟩:=List.mem_map.mp hv
 exact hg _
theorem zdC {k s j:Nat} {g:Tm→Int} (h:j < s / (k - 1)+1):(zat k s g).getD j []=(List.range (s - (k - 1)*j+1)).map fun i=>g (i,j):=by
 rw [List.getD_eq_getElem?_getD,zeF h]
 rfl
theorem zmn {k s:Nat} (hk:2≤k) {t:Tm} (h:tz k t≤s):t.2 < s / (k - 1)+1∧t.1 < s - (k - 1)*t.2+1:=by
 unfold tz at h
 have k1:0 < k - 1:=by omega
 have:t.2≤s / (k - 1):=(Nat.le_div_iff_mul_le k1).mpr (by rw [Nat.mul_comm]; omega)
 exact⟨by omega,by omega⟩
theorem zlZ {p:Int} {k s:Nat} (hk:2≤k) {pts:List (Int×Int×Nat)} {g:Tm→Int} (L:Lst p k pts s g):∃ r∈zat k s g,∃ v∈r,v≠0:=by
 obtain⟨t,ht,hne⟩:=L.top
 obtain⟨h1,h2⟩:=zmn hk (show tz k t≤s by omega)
 exact⟨_,List.mem_of_getElem? (zeF h1),g t,List.mem_map.mpr ⟨t.1,List.mem_range.mpr h2,rfl⟩,hne⟩
theorem zkX {k s:Nat} (hk:2≤k) {g:Tm→Int} {q:Int×Int} (h:q∈zaB (zat k s g) (zat k s g).length):∃ t:Tm,q=tI t∧tz k t≤s∧g t≠0:=by
 unfold zaB at h
 obtain⟨j,hj,h⟩:=List.mem_flatMap.mp h
 have hj:=List.mem_range.mp hj
 rw [zbk] at hj
 rw [zdC hj,List.length_map,List.length_range] at h
 unfold trm at h
 (obtain⟨i,hi,rfl⟩:=List.mem_map.mp h)
 obtain⟨hi,hne⟩:=List.mem_filter.mp hi
 have hi:=List.mem_range.mp hi
 rw [zhD hi] at hne
 have k1:0 < k - 1:=by omega
 have hjs:(k - 1)*j≤s:=by
  have:=(Nat.le_div_iff_mul_le k1).mp (show j≤s / (k - 1) by omega)
  rw [Nat.mul_comm]; exact this
 exact⟨(i,j),rfl,by show i+(k - 1)*j≤s; omega,by simpa using hne⟩
theorem zgb {k s:Nat} (hk:2≤k) {g:Tm→Int} {t:Tm} (h:tz k t≤s) (hne:g t≠0):tI t∈zaB (zat k s g) (zat k s g).length:=by
 obtain⟨h1,h2⟩:=zmn hk h
 unfold zaB
 refine List.mem_flatMap.mpr ⟨t.2,List.mem_range.mpr (by rw [zbk]; exact h1),?_⟩
 rw [zdC h1,List.length_map,List.length_range]
 unfold trm
 refine List.mem_map.mpr ⟨t.1,List.mem_filter.mpr ⟨List.mem_range.mpr h2,?_⟩,rfl⟩
 rw [zhD h2]
 simpa using hne
theorem zfq {p:Int} {k s:Nat} (hk:2≤k) {pts:List (Int×Int×Nat)} {g:Tm→Int} (L:Lst p k pts s g) {M:Int} (h1:M∈szs (k:Int) (zaB (zat k s g) (zat k s g).length)) (h2:∀ x∈szs (k:Int) (zaB (zat k s g) (zat k s g).length),x≤M):M=(s:Int):=by
 obtain⟨t,ht,hne⟩:=L.top
 have a1:=h2 _ (List.mem_map.mpr ⟨tI t,zgb hk (show tz k t≤s by omega) hne,rfl⟩)
 obtain⟨q,hq,rfl⟩:=List.mem_map.mp h1
 obtain⟨u,rfl,hu,_⟩:=zkX hk hq
 have e1:((tI t).1+((k:Int) - 1)*(tI t).2)=(tz k t:Int):=zf3 hk t
 have e2:((tI u).1+((k:Int) - 1)*(tI u).2)=(tz k u:Int):=zf3 hk u
 show (tI u).1+((k:Int) - 1)*(tI u).2=_
 rw [e2] at a1 ⊢
 rw [e1] at a1
 omega
theorem zjj {k s:Nat} {g:Tm→Int} {x y:Int} {u v:Nat}:zf9 (zat k s g) x y u v=lsum (gps k s) fun t=>g t*cv t ⟨x,y,u,v⟩:=by
 rw [zm9]
 unfold zf9
 rw [zbk]
 refine z0 fun j hj=>?_
 rw [zdC hj,List.length_map,List.length_range]
 exact z0 fun i hi=>by rw [zhD hi]
theorem zfr {p:Int} {k s m:Nat} (hk:2≤k) {hp:List (Int×Int)} {g:Tm→Int} (L:Lst p k (wpt m hp) s g) {q:Int×Int} (hq:q∈hp):∀ u v,u+v < m→Cg p (zf9 (zat k s g) q.1 q.2 u v) 0:=fun u v h=>by
 rw [zjj,zlG hk]
 exact L.ok _ (zlO (x:=q.1) (y:=q.2) (w:=m) (List.mem_map.mpr ⟨q,hq,rfl⟩) (by omega) (by omega))
def zl0 (p:Int) (wide:Nat) (r:List Int):Prop:=1≤r.length∧r.length≤wide∧∀ v∈r,0≤v∧v < p
theorem zkY {rows:List (List Int)} {j i:Nat} (hj:j < rows.length) (hi:i < (rows.getD j []).length) (h:gl (rows.getD j []) i≠0):((i:Int),(j:Int))∈zaB rows rows.length:=by
 unfold zaB
 rw [List.mem_flatMap]
 refine⟨j,List.mem_range.mpr hj,?_⟩
 unfold trm
 exact List.mem_map.mpr ⟨i,List.mem_filter.mpr ⟨List.mem_range.mpr hi,by simpa using h⟩,rfl⟩
theorem znU {rows:List (List Int)} (h:∃ r∈rows,∃ v∈r,v≠0):∃ j i,j < rows.length∧i < (rows.getD j []).length∧cu rows j i≠0∧cu rows j i∈rows.getD j []∧rows.getD j []∈rows:=by
 obtain⟨r,hr,v,hv,hne⟩:=h
 obtain⟨j,hj⟩:=List.mem_iff_getElem?.mp hr
 obtain⟨i,hi⟩:=List.mem_iff_getElem?.mp hv
 have e:rows.getD j []=r:=by rw [List.getD_eq_getElem?_getD,hj]; rfl
 have e2:cu rows j i=v:=by unfold cu; rw [e]; exact zaR hi
 exact⟨j,i,(List.getElem?_eq_some_iff.mp hj).1,by rw [e]; exact (List.getElem?_eq_some_iff.mp hi).1,by rw [e2]; exact hne,by rw [e2,e]; exact hv,by rw [e]; exact hr⟩
theorem zgc {p x y:Int} {rows:List (List Int)} {j:Nat} (hj:j < rows.length):(mvd p x y rows).getD j []=(List.range (wd rows)).map fun i=>mv x y rows.length (wd rows) (cu rows) j i % p:=by
 rw [List.getD_eq_getElem?_getD,show (mvd p x y rows)[j]? = _ from zbT hj]
 rfl
theorem znh {p x y:Int} {rows:List (List Int)} {j i:Nat} (hj:j < rows.length) (hi:i < wd rows):cu (mvd p x y rows) j i=mv x y rows.length (wd rows) (cu rows) j i % p:=by
 unfold cu
 rw [zgc hj]
 exact zaR (by rw [List.getElem?_map,List.getElem?_range hi]; rfl)
theorem zni {p x y:Int} {w:Nat} {rows:List (List Int)} (hg:∀ r∈rows,zl0 p w r) (h:∃ r∈rows,∃ v∈r,v≠0):zaB (mvd p x y rows) rows.length≠[]:=by
 obtain⟨j,i,h1,h2,h3,h4,h5⟩:=znU h
 have hr:=(hg _ h5).2.2 _ h4
 have hlt:=zfl h5
 obtain⟨t,s,ht,hs,hne⟩:=znQ (p:=p) (a:=x) (b:=y) (n:=rows.length) (w:=wd rows) (c:=cu rows) (j:=j) (i:=i) h1 (by omega) fun e=>h3 (by
  have e0:Cg p (cu rows j i) 0:=e
  exact e0.eq hr.1 hr.2 (by decide) (by omega))
 have el:(mvd p x y rows).length=rows.length:=zav _ _ _
 have:=zkY (rows:=mvd p x y rows) (j:=t) (i:=s) (by omega) (by rw [zgc ht,List.length_map,List.length_range]; exact hs) (by
  show cu (mvd p x y rows) t s≠0
  rw [znh ht hs]
  exact fun e=>hne ((Cg.emod p _).symm.trans (Cg.of_eq e)))
 rw [el] at this
 exact fun e=>by rw [e] at this; cases this
def NSm (p:Int) (k:Nat) (hp:List (Int×Int)) (T:Int) (m:Nat):Prop:=∃ size g,Lst p k (wpt m hp) size g∧size≤200∧¬ ((size:Int) < (m:Int)*T)
def zg4 (t:Adr) (K:PySem.W.Frag):Sp:=fun vs H Q E=>∃ (c tt r:Addr) (p T:Int) (k:Nat) (pl:List Int) (rw:List (Option Int)),vs = [.ref c,.ref r,.int T]∧zbH H c tt p k pl∧H r=some (.lst (rw.map enc))∧rw.length=pl.length∧pl.length≤16∧p∈zJ∧pl.Nodup∧(∀ x∈pl,0≤x∧x < p)∧(∀ z,some z∈rw→0≤z∧z < p)∧1≤k∧k≤100∧0≤T∧T≤1000 ∧
 ((k < 2∧∀ H',zw H H'→E (.ref t.NoCurve) none H')∨(2≤k∧(∀ H',zw H H'→(∀ m,1≤m→m≤4→NSm p k (hps pl rw) T m)→E (.ref t.NoPaper) none H') ∧
  ∀ (z r':Addr) (ls:List Addr) (m size:Nat) (g:Tm→Int) (H':Hp),H z=none→zw H H'→H' z=some (.tup [.int (m:Int),.ref r'])→H' r'=some (.tup (ls.map V.ref))→zbR H' ls (zat k size g)→1≤m→m≤4→Lst p k (wpt m (hps pl rw)) size g→size≤200→(size:Int) < (m:Int)*T→(∀ m',1≤m'→m' < m→NSm p k (hps pl rw) T m')→Q (.ref z) H'))
theorem zoi {m:Nat} (h:m≤4):tri m≤10:=by
 have:m=0∨m=1∨m=2∨m=3∨m=4:=by omega
 rcases this with e | e | e | e | e <;> subst e <;> decide
theorem zbD:FnScope ["code","row","t","m","size","curve"] ["code","row","t"] (zh zb9):=⟨rfl,rfl,rfl,by decide +kernel,rfl,by decide +kernel,by decide +kernel⟩
theorem zg5 {fd:FuncData} (T:Txt K mg t) (F:Fun K "paper_of" "paper_of" zb9 t.paper_of fd):FnOk P w K mg base (CX1 P w) 8 t.paper_of fd ["code","row","t"] (zg4 t K):=by
 obtain⟨fd_curve_for,F_curve_for,b_curve_for⟩:=T.f_curve_for
 have G_curve_for:=zf5 (P:=P) (w:=w) (base:=base) T F_curve_for
 refine F.okX zbD (fun vs H Q E h=>?_) (fun cdv A outer s H vs Q E hr h=>?_)
 ·obtain⟨c,tt,r,p,T',k,pl,rw,rfl,_⟩:=h
  rfl
 ·obtain⟨c,tt,r,p,T',k,pl,rw,rfl,hc,hra,hrl,hn,hp,hnd,hpl,hrw,k0,k1,t0,t1,q⟩:=h
  refine⟨_,(@ze _ _ _ _ _ (@zal _ _ _ _ _ _ _ _ PassesOwn.leaving rfl (@zcz _ _ _ _ _ _ _ rfl T.range_ (@za _ _ _ _ _ (@zf _ _ _ _) (@ya _ _ _ (@zi _ _ _ _ _ _ _ _ (@zG _) (@zaU _ _ (.int 4) _ _ rfl T.g_MOST_PAPER_WEIGHT.choose_spec ⟨_,rfl⟩ (by decide)) (@zf _ _ _ _)) (by rfl)) (by rfl)) (by rfl) (by rfl)) (@zg _ _ (3) _ zbD.nd rfl (Or.inl rfl) (by trivial)) (@ze _ _ _ _ _ (@zaX _ _ _ _ _ _ (@zp _ _ _ _ _ _ _ _ _ _ _ _ _ _ _ _ G_curve_for (hr.mono (by decide)) rfl T.m_curve_for F_curve_for.kp b_curve_for .nil (@zcT _ _ _ _ _ _ _ _ _ _ _ _ _ _ _) (@za _ _ _ _ _ (@pvx _ 0 _ _ rfl) (@za _ _ _ _ _ (@pvx _ 1 _ _ rfl) (@ya _ _ _ (@pvx _ 3 _ _ rfl) (by rfl)) (by rfl)) (by rfl)) (by decide) (by rfl) (by rfl)) (@zaP _ _ _ _ _ _ rfl (@zj _ _ _ _ _ (@zg _ _ (4) _ zbD.nd rfl (Or.inl rfl) (by trivial)) (@zj _ _ _ _ _ (@zg _ _ (5) _ zbD.nd rfl (Or.inl rfl) (by trivial)) (@zB _) (by rfl)) (by rfl)) (by rfl) (by rfl)) (by rfl) (by rfl) (by rfl)) (by exact (@zk _ _ _ (@zaO _ _ _ _ _ _ _ _ (@zC _ _ _ _ _ _ _ _ (@zei _) (@pvx _ 4 _ _ rfl) (@zi _ _ _ _ _ _ _ _ (@zD _) (@pvx _ 3 _ _ rfl) (@pvx _ 2 _ _ rfl)) (zL _)) (@zk _ _ _ (@zz _ _ _ _ (@za4 _ _ _ _ _ (@za _ _ _ _ _ (@pvx _ 3 _ _ rfl) (@ya _ _ _ (@pvx _ 5 _ _ rfl) (by rfl)) (by rfl))))) (@z8 _))))) (by intro _; rfl)) (by exact (@zk _ _ _ (@zgz _ _ _ _ _ _ _ _ _ (fun _ _ _ _ _ _ _ _ I m q=>zet I m q) rfl rfl T.x_NoPaper T.xi_NoPaper (@zdu _ _ _ _) (by decide) (by rfl) (by rfl))))),?_⟩
  have hsl:=sizeLine_eq
  have hhl:=zbA pl rw
  have hA:∀ m,m≤4→(hps pl rw).length*tri m≤199:=fun m hm=>by
   have:=Nat.mul_le_mul (show (hps pl rw).length≤16 by omega) (zoi hm)
   omega
  refine⟨_,_,rfl,rfl,1,5,rfl,⟨by decide,by decide,by decide,by decide⟩,?_⟩
  rcases q with ⟨h1,q⟩ | ⟨h1,qn,q⟩
  ·refine zad (lo:=1) (n:=4) (fun i σ H'=>i=0∧σ = [some (.ref c),some (.ref r),some (.int T'),none,none,none]∧zw H H') ⟨rfl,rfl,fun _ _ e=>e⟩ ?_ ?_
   ·rintro i σ H1 hi ⟨rfl,rfl,s1⟩
    exact⟨_,rfl,_,rfl,_,rfl,c,tt,r,p,k,1,pl,rw,rfl,hc.same s1,s1 _ _ hra,hrl,hn,hp,hnd,hpl,hrw,k0,k1,by decide,by decide,.inl ⟨h1,fun H2 s2=>q H2 (s1.trans s2)⟩⟩
   ·rintro σ H1 ⟨h,_⟩
    omega
  ·refine zad (lo:=1) (n:=4) (fun i σ H'=>∃ e3 e4 e5:Option V,σ = [some (.ref c),some (.ref r),some (.int T'),e3,e4,e5]∧zw H H'∧∀ m',1≤m'→m' < 1+i→NSm p k (hps pl rw) T' m') ⟨none,none,none,rfl,fun _ _ e=>e,fun m' h1 h2=>by omega⟩ ?_ ?_
   ·rintro i σ H1 hi ⟨e3,e4,e5,rfl,s1,hN⟩
    rw [show ((1:Int)+(i:Int))=((1+i:Nat):Int) by omega]
    refine⟨_,rfl,_,rfl,_,rfl,c,tt,r,p,k,1+i,pl,rw,rfl,hc.same s1,s1 _ _ hra,hrl,hn,hp,hnd,hpl,hrw,k0,k1,by omega,by omega,.inr ⟨h1,hA _ (by omega),fun z r' ls size g H2 hz s2 h5 h6 h7 hL hs=>?_⟩⟩
    refine⟨z,_,rfl,SqT.of h5,rfl,_,_,rfl,_,_,rfl,rfl,?_⟩
    refine⟨_,rfl,_,rfl,_,rfl,_,_,rfl,rfl,.inl ⟨by omega,by omega⟩,_,_,rfl,rfl,_,rfl,?_⟩
    refine zaq (fun hlt=>?_) (fun hge=>?_)
    ·have hlt:(size:Int) < ((1+i:Nat):Int)*T':=of_decide_eq_true hlt
     refine⟨_,rfl,_,rfl,by show 2≤sizeLine; omega,fun z' hz'=>?_⟩
     have w:=zb (o:=.tup [.int ((1+i:Nat):Int),.ref r']) hz'
     have s12:=s1.trans s2
     exact q z' r' ls (1+i) size g _ (s12.free hz') (s12.trans w) zc (w _ _ h6) (h7.same w) (by omega) (by omega) hL hs hlt hN
    ·have hge:¬ ((size:Int) < ((1+i:Nat):Int)*T'):=fun h=>hge (decide_eq_true h)
     refine⟨_,_,_,rfl,s1.trans s2,fun m' h1 h2=>?_⟩
     by_cases e:m'=1+i
     ·subst e
      exact⟨size,g,hL,hs,hge⟩
     ·exact hN m' h1 (by omega)
   ·rintro σ H1 ⟨e3,e4,e5,rfl,s1,hN⟩
    exact⟨rfl,qn H1 s1 fun m h1 h2=>hN m h1 (by omega)⟩
theorem zl1 {rows:List (List Int)} {x y:Int} {j i:Nat}:mv x y rows.length (wd rows) (cu rows) j i=zf9 rows x y i j:=by
 rw [zmk]
 unfold zf9
 refine z0 fun t ht=>?_
 have hl:(rows.getD t []).length≤wd rows:=zfl (by rw [List.getD_eq_getElem?_getD,List.getElem?_eq_getElem ht]; exact List.getElem_mem ht)
 rw [zd8 hl fun s h1 _=>by
  have:cu rows t s=0:=zfO h1
  rw [this]
  simp]
 refine z0 fun s _=>?_
 show cu rows t s*ch t j*ch s i*x ^ (s - i)*y ^ (t - j)=gl (rows.getD t []) s*(ch s i*x ^ (s - i)*(ch t j*y ^ (t - j)))
 unfold cu
 grind
theorem zl2 {p x y:Int} {rows:List (List Int)} {m:Nat} (h:∀ u v,u+v < m→Cg p (zf9 rows x y u v) 0):∀ z∈wts (zaB (mvd p x y rows) rows.length),(m:Int)≤z:=fun z hz=>by
 obtain⟨q,hq,rfl⟩:=List.mem_map.mp hz
 unfold zaB at hq
 obtain⟨j,hj,hq⟩:=List.mem_flatMap.mp hq
 have hj:=List.mem_range.mp hj
 rw [zgc hj,List.length_map,List.length_range] at hq
 unfold trm at hq
 obtain⟨i,hi,rfl⟩:=List.mem_map.mp hq
 obtain⟨hi,hne⟩:=List.mem_filter.mp hi
 have hi:=List.mem_range.mp hi
 show (m:Int)≤(i:Int)+(j:Int)
 refine Classical.byContradiction fun hlt=>?_
 have h0:=h i j (by omega)
 rw [← zl1] at h0
 have e:gl ((List.range (wd rows)).map fun i=>mv x y rows.length (wd rows) (cu rows) j i % p) i=mv x y rows.length (wd rows) (cu rows) j i % p:=zaR (by rw [List.getElem?_map,List.getElem?_range hi]; rfl)
 rw [e,h0.mod_eq,Int.zero_emod] at hne
 simp at hne
def zeO (t:Adr) (K:PySem.W.Frag):Sp:=fun vs H Q _=>∃ (c tt r z r':Addr) (p T:Int) (k m size:Nat) (pl:List Int) (rw:List (Option Int)) (ls:List Addr) (g:Tm→Int),vs = [.ref c,.ref r,.int T,.ref z]∧zbH H c tt p k pl∧H r=some (.lst (rw.map enc))∧rw.length=pl.length∧pl.length≤16∧p∈zJ∧pl.Nodup∧(∀ x∈pl,0≤x∧x < p)∧(∀ z,some z∈rw→0≤z∧z < p)∧2≤k∧k≤100∧0≤T∧T≤1000∧H z=some (.tup [.int (m:Int),.ref r'])∧H r'=some (.tup (ls.map V.ref))∧zbR H ls (zat k size g)∧1≤m∧m≤4∧Lst p k (wpt m (hps pl rw)) size g∧size≤99∧(size:Int) < (m:Int)*T∧∀ H',zw H H'→Q (.bl true) H'
theorem zaw:FnScope ["code","row","t","paper","p","k","places","m","curve"] ["code","row","t","paper"] (zh zaT):=⟨rfl,rfl,rfl,by decide +kernel,rfl,by decide +kernel,by decide +kernel⟩
theorem zeP {fd:FuncData} (T:Txt K mg t) (F:Fun K "paper_holds" "paper_holds" zaT t.paper_holds fd):FnOk P w K mg base (CX1 P w) 8 t.paper_holds fd ["code","row","t","paper"] (zeO t K):=by
 obtain⟨fd_check_curves,F_check_curves,b_check_curves⟩:=T.f_check_curves
 have G_check_curves:=zcg (P:=P) (w:=w) (base:=base) T F_check_curves
 obtain⟨fd_size_of,F_size_of,b_size_of⟩:=T.f_size_of
 have G_size_of:=zhM (P:=P) (w:=w) (base:=base) T F_size_of
 obtain⟨fd_heard_points,F_heard_points,b_heard_points⟩:=T.f_heard_points
 have G_heard_points:=zcf (P:=P) (w:=w) (base:=base) T F_heard_points
 obtain⟨fd_weight_at,F_weight_at,b_weight_at⟩:=T.f_weight_at
 have G_weight_at:=zf8 (P:=P) (w:=w) (base:=base) T F_weight_at
 refine F.okX zaw (fun vs H Q E h=>?_) (fun cdv A outer s H vs Q E hr h=>?_)
 ·obtain⟨c,tt,r,z,r',p,T',k,m,size,pl,rw,ls,g,rfl,_⟩:=h
  rfl
 ·obtain⟨c,tt,r,z,r',p,T',k,m,size,pl,rw,ls,g,rfl,hc,hra,hrl,hn,hp,hnd,hpl,hrw,k2,k1,t0,t1,hz,hr',hT,m1,m4,LS,hs,hlt,q⟩:=h
  refine⟨_,(@ze _ _ _ _ _ (@zaX _ _ _ _ _ _ (@pvx _ 0 _ _ rfl) (@zaP _ _ _ _ _ _ rfl (@zj _ _ _ _ _ (@zg _ _ (4) _ zaw.nd rfl (Or.inr rfl) (by trivial)) (@zj _ _ _ _ _ (@zg _ _ (5) _ zaw.nd rfl (Or.inl rfl) (by trivial)) (@zj _ _ _ _ _ (@zg _ _ (6) _ zaw.nd rfl (Or.inl rfl) (by trivial)) (@zB _) (by rfl)) (by rfl)) (by rfl)) (by rfl) (by rfl)) (by rfl) (by rfl) (by rfl)) (by exact (@ze _ _ _ _ _ (@za3 _ _ _ _ (@zp _ _ _ _ _ _ _ _ _ _ _ _ _ _ _ _ G_check_curves (hr.mono (by decide)) rfl T.m_check_curves F_check_curves.kp b_check_curves .nil (@zcT _ _ _ _ _ _ _ _ _ _ _ _ _ _ _) (@ya _ _ _ (@pvx _ 5 _ _ rfl) (by rfl)) (by decide) (by rfl) (by rfl)) (by rfl)) (by exact (@ze _ _ _ _ _ (@zaX _ _ _ _ _ _ (@pvx _ 3 _ _ rfl) (@zaP _ _ _ _ _ _ rfl (@zj _ _ _ _ _ (@zg _ _ (7) _ zaw.nd rfl (Or.inr rfl) (by trivial)) (@zj _ _ _ _ _ (@zg _ _ (8) _ zaw.nd rfl (Or.inr rfl) (by trivial)) (@zB _) (by rfl)) (by rfl)) (by rfl) (by rfl)) (by rfl) (by rfl) (by rfl)) (by exact (@ze _ _ _ _ _ (@zaO _ _ _ _ _ _ _ _ (@PW.pt _ _ _ (@ze4 _ _ _ _ _ _ _ (@zed _ _ _ _ (@zjx _ _ _ _ _ _ _ _ _ _ _ _ (@zl7 _) (@zl7 _) (@zf _ _ _ _) (@pvx _ 7 _ _ rfl) (@zaU _ _ (.int 4) _ _ rfl T.g_MOST_PAPER_WEIGHT.choose_spec ⟨_,rfl⟩ (by decide)) (by with_unfolding_all rfl))) (@zfv _ _ _ _ (@zC _ _ _ _ _ _ _ _ (@zej _) (@zp _ _ _ _ _ _ _ _ _ _ _ _ _ _ _ _ G_size_of (hr.mono (by decide)) rfl T.m_size_of F_size_of.kp b_size_of .nil (@zN _) (@za _ _ _ _ _ (@pvx _ 5 _ _ rfl) (@ya _ _ _ (@pvx _ 8 _ _ rfl) (by rfl)) (by rfl)) (by decide) (by rfl) (by rfl)) (@zi _ _ _ _ _ _ _ _ (@zD _) (@pvx _ 7 _ _ rfl) (@pvx _ 2 _ _ rfl)) (zL _))))) (@zk _ _ _ (@zz _ _ _ _ (@zci _ _ _ _))) (@z8 _)) (by exact (@zk _ _ _ (@zz _ _ _ _ (@zn _ _ _ _ _ _ _ _ _ (@ziG _ rfl) (by rfl) T.all_ boot_all (@ya _ _ _ (@zA _ _ _ _ _ _ _ _ _ _ _ _ _ (CompSc.of (N':=["point","p","curve","m"]) (ix:=[none,some 4,some 8,some 7]) (zh zaT) ["code","row","t","paper","p","k","places","m","curve"] rfl rfl (by decide +kernel)) rfl (@zT _ _ rfl) (@z9 _ _ _ _ (@zp _ _ _ _ _ _ _ _ _ _ _ _ _ _ _ _ G_heard_points (hr.mono (by decide)) rfl T.m_heard_points F_heard_points.kp b_heard_points .nil (@zN _) (@za _ _ _ _ _ (@pvx _ 0 _ _ rfl) (@ya _ _ _ (@pvx _ 1 _ _ rfl) (by rfl)) (by rfl)) (by decide) (by rfl) (by rfl))) (fun _ _ _ _=>(@zg _ _ (0) _ (show (["point","p","curve","m"]:List Str).Nodup by decide +kernel) rfl (Or.inl rfl) (by trivial))) (fun _ _ _ _=>(@zr _)) (fun _ _ _ _=>(@zc2 _ _ _ _ _ _ _ _ (@zej _) (@zp _ _ _ _ _ _ _ _ _ _ _ _ _ _ _ _ G_weight_at (hr.mono (by decide)) rfl T.m_weight_at F_weight_at.kp b_weight_at .nil (@zN _) (@za _ _ _ _ _ (@pvx _ 1 _ _ rfl) (@za _ _ _ _ _ (@pvx _ 2 _ _ rfl) (@ya _ _ _ (@pvx _ 0 _ _ rfl) (by rfl)) (by rfl)) (by rfl)) (by decide) (by rfl) (by rfl)) (@pvx _ 3 _ _ rfl) (zL _))) (by intro _; rfl)) (by rfl)) (by decide) (by decide) (by rfl) (by rfl)))))))))))),?_⟩
  have hsl:=sizeLine_eq
  have rp:=zV hp
  have hR:RowAt K H r pl.length rw:=⟨SqL.of hra,hrl⟩
  have hP:=zfM hnd hpl hrw
  have hhl:=zbA pl rw
  have rg:=zim (k:=k) (s:=size) LS.rg
  have hqs:size / (k - 1)≤size:=Nat.div_le_self _ _
  have cln:(zat k size g).length≤100:=by rw [zbk]; exact Nat.succ_le_succ (Nat.le_trans hqs hs)
  have rg1:∀ r∈zat k size g,r.length≤100:=fun r hr=>Nat.le_trans (rg r hr).2.1 (by omega)
  refine⟨_,rfl,c,_,rfl,SqT.of hc.1,rfl,_,_,rfl,_,_,rfl,_,_,rfl,rfl,?_⟩
  refine⟨_,rfl,k,rfl,.inr ⟨k2,?_⟩⟩
  refine⟨_,rfl,z,_,rfl,SqT.of hz,rfl,_,_,rfl,_,_,rfl,rfl,?_⟩
  refine⟨_,rfl,_,_,rfl,rfl,_,rfl,?_⟩
  rw [decide_eq_true (show (1:Int)≤(m:Int) by omega)]
  refine zld ⟨_,_,rfl,rfl,_,rfl,?_⟩
  rw [decide_eq_true (show (m:Int)≤4 by omega)]
  refine zeT ?_
  refine⟨_,rfl,_,rfl,(k:Int),r',ls,zat k size g,rfl,by omega,by omega,hr',hT,cln,rg1,fun M H1 s1 _ z1=>?_⟩
  have znz:szs (k:Int) (zaB (zat k size g) (zat k size g).length)≠[]:=by
   obtain⟨t',ht',hne'⟩:=LS.top
   have:=zgb k2 (show tz k t'≤size by omega) hne'
   intro e
   unfold szs at e
   rw [List.map_eq_nil_iff] at e
   rw [e] at this
   cases this
  have z1:=z1 znz
  have eM:=zfq k2 LS z1.1 z1.2
  subst eM
  refine⟨_,rfl,_,rfl,_,_,rfl,rfl,.inl ⟨by omega,by omega⟩,_,_,rfl,rfl,_,rfl,?_⟩
  refine zaq (fun h=>?_) (fun _=>?_)
  ·have h:(m:Int)*T'≤(size:Int):=of_decide_eq_true h
   omega
  refine⟨_,rfl,_,rfl,c,tt,r,p,k,pl,rw,rfl,hc.same s1,⟨SqL.of (s1 _ _ hra),hrl⟩,by omega,fun l bs H2 hl2 s2 h2l hB=>?_⟩
  have hbl:bs.length=(hps pl rw).length:=hB.length
  have s12:=s1.trans s2
  refine⟨l,rfl,⟨_,SqL.of h2l⟩,zI (n:=bs.length) (fun i ys H'=>zw H2 H'∧ys=(List.replicate i true).map V.bl) ⟨fun _ _ e=>e,rfl⟩ ?_ ?_ ?_ ?_⟩
  ·rintro i ys H4 hi ⟨s4,_⟩
   exact⟨_,.ref (bs[i]'(by omega)),SqL.of (s4 _ _ h2l),by rw [List.getElem?_map,List.getElem?_eq_getElem (by omega)]; rfl⟩
  ·rintro ys H4 ⟨s4,_⟩
   exact⟨_,SqL.of (s4 _ _ h2l),by rw [List.length_map]; exact Nat.le_refl _⟩
  ·rintro i x ys H4 H5 hi ⟨s4,rfl⟩ ⟨rfl,hx⟩
   obtain⟨b,rfl,hbm⟩:=zU (hx _ (SqL.of (s4 _ _ h2l)))
   obtain⟨q',hq',hqb⟩:=Paired.get (hB.same s4) hbm
   have hqm:=List.mem_of_getElem? hq'
   obtain⟨g1,g2,g3,g4⟩:=hP.rg q' hqm
   have s14:=s12.trans s4
   refine gY ?_
   refine⟨_,rfl,_,rfl,_,rfl,p,r',b,q'.1,q'.2,ls,zat k size g,rfl,by omega,by omega,g1,g2,g3,g4,s14 _ _ hr',hT.same s14,hqb,cln,rg1,fun M H6 s6 _ z2=>?_⟩
   have wnz:wts (zaB (mvd p q'.1 q'.2 (zat k size g)) (zat k size g).length)≠[]:=by
    intro e
    unfold wts at e
    rw [List.map_eq_nil_iff] at e
    exact zni (w:=size+1) (fun r hr=>rg r hr) (zlZ k2 LS) e
   have hMm:=zl2 (zfr k2 LS hqm) M (z2 wnz).1
   refine⟨_,rfl,_,_,rfl,rfl,?_⟩
   refine⟨by rw [List.length_map,List.length_replicate]; omega,s4.trans s6,?_⟩
   show _++[V.bl (decide ((m:Int)≤M))]=_
   rw [decide_eq_true hMm,List.replicate_succ',List.map_append]
   rfl
  ·rintro ys H4 D ⟨s4,rfl⟩ hD
   refine⟨D,_,rfl,SqL.of zc,?_⟩
   have e:(List.replicate bs.length true).all id=true:=by simp
   show Q (.bl ((List.replicate bs.length true).all id)) _
   rw [e]
   exact q _ ((s12.trans s4).trans (zb hD))
end
end My
end
section
set_option maxHeartbeats 4000000
namespace My
open PySem L2 PyProof.Rows
section
variable {P:Program} {w:World} {K:PySem.W.Frag} {mg:Str→Option Value} {base:Heap} {t:Adr}
theorem zl3 (k s:Nat):(gps k s).length=((List.range (s / (k - 1)+1)).map fun j=>s - (k - 1)*j+1).sum:=by
 unfold gps
 rw [List.length_flatMap]
 congr 1
 exact List.map_congr_left fun j _=>by rw [List.length_map,List.length_range]
theorem zjk {p:Int} {k s size:Nat} (hk:2≤k) (hs:s < size) {pts:List (Int×Int×Nat)} {g:Tm→Int} (L:Lst p k pts size g) {v:Nat→Int} (hS:Sol p (gps k s).length (zeE p k s pts) v):∀ j,j < (gps k s).length→Cg p (v j) 0:=fun j hj=>by
 have hn:=zcH k s
 have hj':(gps k s)[j]? = some ((gps k s)[j]'hj):=List.getElem?_eq_getElem hj
 have hjt:tz k ((gps k s)[j]'hj)≤s:=(zbB hk).mp (List.getElem_mem hj)
 have:=L.least (fun t=>if tz k t≤s then v ((gps k s).idxOf t) else 0) (fun c hc=>?_) ((gps k s)[j]'hj) (by omega)
 ·rw [if_pos hjt,zkx hn hj'] at this
  exact this
 ·obtain⟨i,hi⟩:=List.mem_iff_getElem?.mp hc
  have hr:=hS i ((gps k s).map fun t=>cv t c % p) (by unfold zeE; rw [List.getElem?_map,hi]; rfl)
  unfold dot at hr
  rw [zdg (l:=gps k s) (f:=fun t=>(cv t c % p)*v ((gps k s).idxOf t)) rfl fun i t e=>by
   rw [zkx hn e,zaR (by rw [List.getElem?_map,e]; rfl)]] at hr
  rw [zbj (l:=zO k size) (q:=fun t=>decide (tz k t≤s)) fun t _ e=>by
   rw [if_neg (by simpa using e)]; simp]
  rw [zcG (l:=(zO k size).filter fun t=>decide (tz k t≤s)) (m:=gps k s) (List.Sublist.nodup List.filter_sublist (zax hk _)) hn fun t=>by
   rw [List.mem_filter,zas hk,zbB hk]
   constructor
   ·rintro⟨_,h⟩; simpa using h
   ·intro h; exact⟨by omega,by simpa using h⟩]
  refine (zdf fun t ht=>?_).trans hr
  rw [if_pos ((zbB hk).mp ht)]
  exact ((Cg.refl p _).mul (Cg.emod p _).symm).trans (Cg.of_eq (Int.mul_comm _ _))
theorem zl4 {p:Int} {k s size:Nat} (hk:2≤k) (hs:size≤s) {pts:List (Int×Int×Nat)} {g:Tm→Int} (L:Lst p k pts size g):Sol p (gps k s).length (zeE p k s pts) fun j=>g ((gps k s).getD j (0,0)):=fun i row hr=>by
 unfold zeE at hr
 rw [List.getElem?_map] at hr
 obtain⟨c,hc,rfl⟩:=Option.map_eq_some_iff.mp hr
 unfold dot
 rw [zdg (l:=gps k s) (f:=fun t=>(cv t c % p)*g t) rfl fun i t e=>by
  rw [zaR (by rw [List.getElem?_map,e]; rfl)]
  show cv t c % p*g ((gps k s).getD i (0,0))=_
  (rw [List.getD_eq_getElem?_getD,e])
  rfl]
 have:=L.ok c (List.mem_of_getElem? hc)
 refine (zdf (g:=fun t=>g t*cv t c) fun t _=>((Cg.emod p _).mul (Cg.refl p _)).trans (Cg.of_eq (Int.mul_comm _ _))).trans ?_
 rw [zbj (l:=gps k s) (q:=fun t=>decide (tz k t≤size)) fun t _ e=>by
  rw [L.out t (by simpa using e)]; simp]
 rw [zcG (l:=(gps k s).filter fun t=>decide (tz k t≤size)) (m:=zO k (size+1)) (List.Sublist.nodup List.filter_sublist (zcH k s)) (zax hk _) fun t=>by
  rw [List.mem_filter,zas hk,zbB hk]
  constructor
  ·rintro⟨_,h⟩
   have:tz k t≤size:=by simpa using h
   omega
  ·intro h
   exact⟨by omega,by simp; omega⟩]
 exact this
theorem zkZ {p:Int} (hp:1 < p) {k s size:Nat} (hk:2≤k) {pts:List (Int×Int×Nat)} {g:Tm→Int} (L:Lst p k pts size g) {pv:List Nat} (R:RK p (gps k s).length (zeE p k s pts) pv):pv.length < (gps k s).length↔size≤s:=by
 constructor
 ·intro h
  (refine Classical.byContradiction fun hn=>?_)
  have:=zlM hp R fun v hv=>zjk hk (by omega) L hv
  omega
 ·intro h
  have hle:=zeD R.nd R.lt
  (refine Nat.lt_of_le_of_ne hle fun e=>?_)
  obtain⟨t,ht,hne⟩:=L.top
  have htm:t∈gps k s:=(zbB hk).mpr (by omega)
  obtain⟨j,hj⟩:=List.mem_iff_getElem?.mp htm
  have hjl:=(List.getElem?_eq_some_iff.mp hj).1
  have all:∀ j,j < (gps k s).length→j∈pv:=fun j hj=>Classical.byContradiction fun hn=>by
   have:=zeD (l:=j :: pv) (d:=(gps k s).length) (List.nodup_cons.mpr ⟨hn,R.nd⟩) fun x hx=>by
    rcases (List.mem_cons.mp hx) with rfl | hx
    ·exact hj
    ·exact R.lt x hx
   rw [List.length_cons] at this
   omega
  have:=R.U _ (zl4 hk h L) (fun j hj hn=>absurd (all j hj) hn) j hjl
  rw [List.getD_eq_getElem?_getD,hj] at this
  have h0:Cg p (g t) 0:=this
  exact hne (h0.eq (L.rg t).1 (L.rg t).2 (by decide) (by omega))
theorem zk0 {p:Int} {k s size:Nat} (hk:2≤k) {pts:List (Int×Int×Nat)} {g:Tm→Int} (L:Lst p k pts size g) (h:(cos pts).length < (gps k s).length):size≤s:=by
 (refine Classical.byContradiction fun hn=>?_)
 rw [zlH hk] at h
 have:=(zdz k (show s+1≤size by omega)).length_le
 have:=L.few
 omega
def zeQ (K:PySem.W.Frag):Sp:=fun vs H Q _=>∃ (p sI:Int) (k size:Nat) (wl:Addr) (cs:List Addr) (pts:List (Int×Int×Nat)) (g:Tm→Int),vs = [.int p,.int (k:Int),.ref wl,.int sI]∧-1≤sI∧sI≤200∧p∈zJ∧2≤k∧k≤100∧size≤200∧H wl=some (.lst (cs.map V.ref))∧W3 H cs pts∧zfo p pts∧(∀ q∈pts,q.2.2≤4)∧pts.length≤1000∧(cos pts).length≤199∧Lst p k pts size g∧∀ H',zw H H'→Q (.bl (decide ((size:Int)≤sI))) H'
theorem zcx:FnScope ["p","k","weighed","size","many"] ["p","k","weighed","size"] (zh zaD):=⟨rfl,rfl,rfl,by decide +kernel,rfl,by decide +kernel,by decide +kernel⟩
theorem zeR {fd:FuncData} (T:Txt K mg t) (F:Fun K "_law_has_curve" "_law_has_curve" zaD t.l_has_curve fd):FnOk P w K mg base CX0 3 t.l_has_curve fd ["p","k","weighed","size"] (zeQ K):=by
 obtain⟨fd_l_rank,F_l_rank,b_l_rank⟩:=T.f_l_rank
 have G_l_rank:=zji (P:=P) (w:=w) (base:=base) T F_l_rank
 obtain⟨fd_l_asked,F_l_asked,b_l_asked⟩:=T.f_l_asked
 have G_l_asked:=zhO (P:=P) (w:=w) (base:=base) T F_l_asked
 refine F.ok zcx (fun vs H Q E h=>?_) (fun cdv A outer s H vs Q E hr h=>?_)
 ·obtain⟨p,sI,k,size,wl,cs,pts,g,rfl,_⟩:=h
  rfl
 ·obtain⟨p,sI,k,size,wl,cs,pts,g,rfl,sI0,sI1,hp,k2,k100,hs,hwl,hcs,hg,hw4,hn,hL,LS,q⟩:=h
  refine⟨_,(@ze _ _ _ _ _ (@zaO _ _ _ _ _ _ _ _ (@zC _ _ _ _ _ _ _ _ (@zei _) (@pvx _ 3 _ _ rfl) (@zf _ _ _ _) (zL _)) (@zk _ _ _ (@zz _ _ _ _ (@zci _ _ _ _))) (@z8 _)) (by exact (@ze _ _ _ _ _ (@zm _ _ (4) _ _ _ _ zcx.nd rfl (Or.inl rfl) (@zn _ _ _ _ _ _ _ _ _ (@zbQ _ rfl) (by rfl) T.sum_ boot_sum (@ya _ _ _ (@zA _ _ _ _ _ _ _ _ _ _ _ _ _ (CompSc.of (N':=["j","size","k"]) (ix:=[none,some 3,some 1]) (zh zaD) ["p","k","weighed","size","many"] rfl rfl (by decide +kernel)) rfl (@zT _ _ rfl) (@zH _ _ _ _ _ _ rfl T.range_ (@ya _ _ _ (@zi _ _ _ _ _ _ _ _ (@zG _) (@zi _ _ _ _ _ _ _ _ (@zaV _) (@pvx _ 3 _ _ rfl) (@zi _ _ _ _ _ _ _ _ (@zR _) (@pvx _ 1 _ _ rfl) (@zf _ _ _ _))) (@zf _ _ _ _)) (by rfl)) (by rfl)) (fun _ _ _ _=>(@zg _ _ (0) _ (show (["j","size","k"]:List Str).Nodup by decide +kernel) rfl (Or.inl rfl) (by trivial))) (fun _ _ _ _=>(@zr _)) (fun _ _ _ _=>(@zi _ _ _ _ _ _ _ _ (@zG _) (@zi _ _ _ _ _ _ _ _ (@zR _) (@pvx _ 1 _ _ rfl) (@zi _ _ _ _ _ _ _ _ (@zD _) (@zi _ _ _ _ _ _ _ _ (@zR _) (@pvx _ 2 _ _ rfl) (@zf _ _ _ _)) (@pvx _ 0 _ _ rfl))) (@zf _ _ _ _))) (by intro _; rfl)) (by rfl)) (by decide) (by decide) (by rfl) (by rfl)) (by rfl) (by trivial)) (by exact (@ze _ _ _ _ _ (@zaO _ _ _ _ _ _ _ _ (@zC _ _ _ _ _ _ _ _ (@zhV _) (@pvx _ 4 _ _ rfl) (@zn _ _ _ _ _ _ _ _ _ (@zbQ _ rfl) (by rfl) T.sum_ boot_sum (@ya _ _ _ (@zA _ _ _ _ _ _ _ _ _ _ _ _ _ (CompSc.of (N':=["a","b","weight"]) (ix:=[none,none,none]) (zh zaD) ["p","k","weighed","size","many"] rfl rfl (by decide +kernel)) rfl (@zaz _ _ _ _ (@zt _ _ _ rfl (@zt _ _ _ rfl (@zt _ _ _ rfl (@zah _))))) (@z9 _ _ _ _ (@pvx _ 2 _ _ rfl)) (fun _ _ _ _=>(@zac _ (K) _ _ _ (3) _ rfl rfl (@zj _ _ _ _ _ (@zg _ _ (0) _ (show (["a","b","weight"]:List Str).Nodup by decide +kernel) rfl (Or.inl rfl) (by trivial)) (@zj _ _ _ _ _ (@zg _ _ (1) _ (show (["a","b","weight"]:List Str).Nodup by decide +kernel) rfl (Or.inl rfl) (by trivial)) (@zj _ _ _ _ _ (@zg _ _ (2) _ (show (["a","b","weight"]:List Str).Nodup by decide +kernel) rfl (Or.inl rfl) (by trivial)) (@zB _) (by rfl)) (by rfl)) (by rfl)) (by rfl) (by rfl))) (fun _ _ _ _=>(@zr _)) (fun _ _ _ _=>(@zi _ _ _ _ _ _ _ _ (@zaV _) (@zi _ _ _ _ _ _ _ _ (@zD _) (@pvx _ 2 _ _ rfl) (@zi _ _ _ _ _ _ _ _ (@zG _) (@pvx _ 2 _ _ rfl) (@zf _ _ _ _))) (@zf _ _ _ _))) (by intro _; rfl)) (by rfl)) (by decide) (by decide) (by rfl) (by rfl)) (zL _)) (@zk _ _ _ (@zz _ _ _ _ (@zci _ _ _ _))) (@z8 _)) (by exact (@zk _ _ _ (@zz _ _ _ _ (@zc2 _ _ _ _ _ _ _ _ (@zei _) (@zp _ _ _ _ _ _ _ _ _ _ _ _ _ _ _ _ G_l_rank (hr.mono (by decide)) rfl T.m_l_rank F_l_rank.kp b_l_rank .nil (@zN _) (@za _ _ _ _ _ (@pvx _ 0 _ _ rfl) (@ya _ _ _ (@zy _ _ _ _ _ _ _ (@zb2 _) (@zp _ _ _ _ _ _ _ _ _ _ _ _ _ _ _ _ G_l_asked (hr.mono (by decide)) rfl T.m_l_asked F_l_asked.kp b_l_asked .nil (@zN _) (@za _ _ _ _ _ (@pvx _ 0 _ _ rfl) (by exact (@za _ _ _ _ _ (@pvx _ 1 _ _ rfl) (@za _ _ _ _ _ (@pvx _ 2 _ _ rfl) (@ya _ _ _ (@pvx _ 3 _ _ rfl) (by rfl)) (by rfl)) (by rfl))) (by rfl)) (by decide) (by rfl) (by rfl)) (@zf _ _ _ _) (fun _ _=>rfl)) (by rfl)) (by rfl)) (by decide) (by rfl) (by rfl)) (@pvx _ 4 _ _ rfl) (zL _)))))))))),?_⟩
  have hsl:=sizeLine_eq
  have rp:=zV hp
  have hcl:=Paired.length hcs
  refine⟨_,rfl,_,_,rfl,rfl,_,rfl,?_⟩
  by_cases hneg:sI < 0
  ·refine zaq (fun _=>?_) (fun h=>absurd (decide_eq_true hneg) h)
   have e:decide ((size:Int)≤sI)=false:=decide_eq_false (by omega)
   rw [e] at q
   exact q H fun _ _ e=>e
  refine zaq (fun h=>absurd (of_decide_eq_true h) hneg) (fun _=>?_)
  obtain⟨sz,rfl⟩:∃ sz:Nat,sI=sz:=⟨sI.toNat,by omega⟩
  have k1:0 < k - 1:=by omega
  have ek1:((k:Int) - 1)=((k - 1:Nat):Int):=by omega
  have eN:((sz:Int) / ((k:Int) - 1)+1)=((sz / (k - 1)+1:Nat):Int):=by
   rw [ek1]
   exact congrArg (· + 1) (Int.natCast_ediv sz (k - 1)).symm
  have hqs:sz / (k - 1)≤sz:=Nat.div_le_self _ _
  refine⟨_,rfl,_,rfl,_,_,rfl,rfl,_,_,rfl,rfl,⟨by omega,by omega⟩,_,_,rfl,rfl,?_⟩
  refine⟨(sz:Int) / ((k:Int) - 1)+1,rfl,by rw [eN]; exact Int.le_trans (by decide) (Int.natCast_nonneg _),by rw [eN]; exact Int.lt_of_le_of_lt (Int.ofNat_le.mpr (show sz / (k - 1)+1≤301 from Nat.succ_le_succ (Nat.le_trans hqs (by omega)))) (by decide),?_⟩
  rw [eN,Int.toNat_natCast]
  refine zI (n:=sz / (k - 1)+1) (fun j ys H'=>H'=H∧ys=((List.range j).map fun j=>((sz - (k - 1)*j+1:Nat):Int)).map V.int) ⟨rfl,rfl⟩ (fun i ys H' hi _=>hi) (fun ys H' _=>Nat.le_refl _) ?_ ?_
  ·rintro j x ys H1 H2 hj ⟨rfl,rfl⟩ ⟨rfl,rfl⟩
   rw [show ((0:Int)+(j:Int))=(j:Int) from Int.zero_add _]
   have hjs:(k - 1)*j≤sz:=by
    have:=(Nat.le_div_iff_mul_le k1).mp (show j≤sz / (k - 1) by omega)
    rw [Nat.mul_comm]; exact this
   have eV:(sz:Int) - ((k:Int) - 1)*(j:Int)+1=((sz - (k - 1)*j+1:Nat):Int):=by
    rw [ek1,Int.natCast_add,Int.natCast_sub hjs,Int.natCast_mul]
    rfl
   refine gY ?_
   refine⟨_,rfl,_,rfl,_,_,rfl,rfl,_,rfl,_,_,rfl,rfl,.inl ⟨by omega,by omega⟩,_,_,rfl,rfl,_,_,rfl,rfl,?_⟩
   refine⟨by rw [List.length_map,List.length_map,List.length_range]; omega,rfl,?_⟩
   show _++[V.int ((sz:Int) - ((k:Int) - 1)*(j:Int)+1)]=_
   rw [eV,List.range_succ,List.map_append,List.map_append]
   rfl
  rintro ys H1 D1 ⟨rfl,rfl⟩ hD1
  refine⟨D1,_,rfl,SqL.of zc,?_⟩
  rw [zdr,← zl3]
  have s1:=zb (o:=.lst (((List.range (sz / (k - 1)+1)).map fun j=>((sz - (k - 1)*j+1:Nat):Int)).map V.int)) hD1
  generalize upd H1 D1 (.lst (((List.range (sz / (k - 1)+1)).map fun j=>((sz - (k - 1)*j+1:Nat):Int)).map V.int))=H2 at s1 ⊢
  refine⟨_,rfl,_,rfl,wl,rfl,⟨_,SqL.of (s1 _ _ hwl)⟩,zaC (fs:=(pts.map fun q=>(tri q.2.2:Int)).map V.int) (SqL.of (s1 _ _ hwl)) (by rw [List.length_map,List.length_map,List.length_map,hcl]) (by rw [List.length_map]; omega) (fun i x y R B hx hy hR=>?_) (fun D0 hD0=>?_)⟩
  ·obtain⟨b,rfl,hb⟩:=zU hx
   obtain⟨⟨px,py,pw⟩,hq,hqb⟩:=Paired.get hcs hb
   have hw8:=hw4 _ (List.mem_of_getElem? hq)
   have hw9:pw≤4:=hw8
   rw [List.getElem?_map,List.getElem?_map,hq] at hy
   have hy:V.int (tri pw:Int)=y:=by simpa using hy
   subst hy
   refine gY3 (SqT.of (s1 _ _ hqb)) ?_
   refine⟨_,rfl,_,rfl,_,_,rfl,rfl,_,_,rfl,rfl,.inl ⟨by omega,by omega⟩,_,_,rfl,rfl,⟨by decide,by decide⟩,?_⟩
   show R (.int ((pw:Int)*((pw:Int)+1) / 2)) _
   rw [zgS]
   exact hR
  refine⟨D0,pts.map fun q=>(tri q.2.2:Int),rfl,SqL.of zc,?_⟩
  rw [zdr,show (pts.map fun q=>tri q.2.2).sum=zbU pts from rfl,← zcI]
  have s2:=s1.trans (zb (o:=.lst ((pts.map fun q=>(tri q.2.2:Int)).map V.int)) hD0)
  generalize upd H2 D0 (.lst ((pts.map fun q=>(tri q.2.2:Int)).map V.int))=H3 at s2 ⊢
  refine⟨_,_,rfl,rfl,_,rfl,?_⟩
  refine zaq (fun h=>?_) (fun h=>?_)
  ·have h:((cos pts).length:Int) < ((gps k sz).length:Int):=of_decide_eq_true h
   have e:decide ((size:Int)≤(sz:Int))=true:=decide_eq_true (by have:=zk0 k2 LS (s:=sz) (by omega); omega)
   rw [e] at q
   exact q _ s2
  have hfew:¬ (((cos pts).length:Int) < ((gps k sz).length:Int)):=fun h'=>h (decide_eq_true h')
  have hpos:1≤(gps k sz).length:=List.length_pos_iff.mpr (List.ne_nil_of_mem ((zbB k2).mpr (show tz k (0,0)≤sz by unfold tz; simp)))
  refine⟨_,rfl,_,rfl,_,rfl,_,rfl,_,rfl,p,k,sz,wl,cs,pts,rfl,by omega,by omega,k2,k100,by omega,s2 _ _ hwl,hcs.same s2,hg,hw4,hn,fun z rl ls H4 hz s4 h4z h4r hls=>?_⟩
  refine⟨z,_,_,_,rfl,rfl,SqT.of h4z,rfl,p,rl,ls,zeE p k sz pts,(gps k sz).length,rfl,h4r,hls,fun e=>?_,?_,by omega,fun row hrow=>?_,hp,fun pv H5 s5 R=>?_⟩
  ·have:(zeE p k sz pts).length=0:=by rw [e]; rfl
   unfold zeE at this
   rw [List.length_map] at this
   omega
  ·unfold zeE
   rw [List.length_map]
   omega
  ·unfold zeE at hrow
   obtain⟨c,_,rfl⟩:=List.mem_map.mp hrow
   rw [List.length_map]
  ·have hr:=zkZ (by omega) k2 LS R
   refine⟨_,rfl,_,_,rfl,rfl,?_⟩
   have e:decide ((pv.length:Int) < ((gps k sz).length:Int))=decide ((size:Int)≤(sz:Int)):=by
    by_cases h1:size≤sz
    ·rw [decide_eq_true (show (size:Int)≤(sz:Int) by omega)]
     exact decide_eq_true (by have:=hr.mpr h1; omega)
    ·rw [decide_eq_false (show ¬ ((size:Int)≤(sz:Int)) by omega)]
     exact decide_eq_false (fun h2=>h1 (hr.mp (by omega)))
   show Q (.bl (decide ((pv.length:Int) < ((gps k sz).length:Int)))) H5
   rw [e]
   exact q _ ((s2.trans s4).trans s5)
end
end My
end
section
set_option maxHeartbeats 4000000
namespace My
open PySem L2 PyProof.Rows
section
variable {P:Program} {w:World} {K:PySem.W.Frag} {mg:Str→Option Value} {base:Heap} {t:Adr}
def zhP:List Str:=["few","curve","paper","place","number","heard","not heard","nothing","text","row"]
def zjl (t:Adr) (K:PySem.W.Frag):Sp:=fun vs H Q _=>∃ (e C:Addr) (b0 b1 b2 b3 b4 b5 b6 b7 b8 b9:Bool) (j:Nat) (x:Str),vs = [.ref e]∧H e=some (zjY e C)∧KW K t C b0 b1 b2 b3 b4 b5 b6 b7 b8 b9∧[b0,b1,b2,b3,b4,b5,b6,b7,b8,b9].count true=1∧[b0,b1,b2,b3,b4,b5,b6,b7,b8,b9][j]? = some true∧(∀ m,m < j→[b0,b1,b2,b3,b4,b5,b6,b7,b8,b9][m]? = some false)∧j < 10∧zhP[j]? = some x∧∀ H',zw H H'→Q (.str x) H'
theorem zbY:FnScope ["e","kinds","words"] ["e"] (zh zdn):=⟨rfl,rfl,rfl,by decide +kernel,rfl,by decide +kernel,by decide +kernel⟩
theorem zjm {fd:FuncData} (T:Txt K mg t) (F:Fun K "_law_word" "_law_word" zdn t.l_word fd):FnOkH P w K mg base 1 t.l_word fd ["e"] (zjl t K):=by
 refine F.okH zbY (fun vs H Q E h=>?_) (fun cdv A outer s H vs Q E hr h=>?_)
 ·obtain⟨e,C,b0,b1,b2,b3,b4,b5,b6,b7,b8,b9,j,x,rfl,_⟩:=h
  rfl
 ·obtain⟨e,C,b0,b1,b2,b3,b4,b5,b6,b7,b8,b9,j,x,rfl,he,kw,hc,hj,hm,hj10,hx,q⟩:=h
  refine⟨_,(@ze _ _ _ _ _ (@zm _ _ (1) _ _ _ _ zbY.nd rfl (Or.inl rfl) (@zY _ _ _ _ (@za _ _ _ _ _ (@zn _ _ _ _ _ _ _ _ _ (@zZ _) (by rfl) T.isinstance_ boot_isinstance (@za _ _ _ _ _ (@pvx _ 0 _ _ rfl) (@ya _ _ _ (@zaU _ _ (.ref t.TooFew) _ _ rfl T.x_TooFew rfl (by decide)) (by rfl)) (by rfl)) (by decide) (by decide) (by rfl) (by rfl)) (by exact (@za _ _ _ _ _ (@zn _ _ _ _ _ _ _ _ _ (@zZ _) (by rfl) T.isinstance_ boot_isinstance (@za _ _ _ _ _ (@pvx _ 0 _ _ rfl) (@ya _ _ _ (@zaU _ _ (.ref t.NoCurve) _ _ rfl T.x_NoCurve rfl (by decide)) (by rfl)) (by rfl)) (by decide) (by decide) (by rfl) (by rfl)) (@za _ _ _ _ _ (@zn _ _ _ _ _ _ _ _ _ (@zZ _) (by rfl) T.isinstance_ boot_isinstance (@za _ _ _ _ _ (@pvx _ 0 _ _ rfl) (@ya _ _ _ (@zaU _ _ (.ref t.NoPaper) _ _ rfl T.x_NoPaper rfl (by decide)) (by rfl)) (by rfl)) (by decide) (by decide) (by rfl) (by rfl)) (@ya _ _ _ (@zn _ _ _ _ _ _ _ _ _ (@zZ _) (by rfl) T.isinstance_ boot_isinstance (@za _ _ _ _ _ (@pvx _ 0 _ _ rfl) (@ya _ _ _ (@zaU _ _ (.ref t.NoPlace) _ _ rfl T.x_NoPlace rfl (by decide)) (by rfl)) (by rfl)) (by decide) (by decide) (by rfl) (by rfl)) (by rfl)) (by rfl)) (by rfl))) (by rfl))) (by rfl) (by trivial)) (by exact (@ze _ _ _ _ _ (@zm _ _ (1) _ _ _ _ zbY.nd rfl (Or.inl rfl) (@zi _ _ _ _ _ _ _ _ (@zcl _) (@pvx _ 1 _ _ rfl) (@zY _ _ _ _ (@za _ _ _ _ _ (@zn _ _ _ _ _ _ _ _ _ (@zZ _) (by rfl) T.isinstance_ boot_isinstance (@za _ _ _ _ _ (@pvx _ 0 _ _ rfl) (@ya _ _ _ (@zaU _ _ (.ref t.NoNumber) _ _ rfl T.x_NoNumber rfl (by decide)) (by rfl)) (by rfl)) (by decide) (by decide) (by rfl) (by rfl)) (@za _ _ _ _ _ (@zn _ _ _ _ _ _ _ _ _ (@zZ _) (by rfl) T.isinstance_ boot_isinstance (@za _ _ _ _ _ (@pvx _ 0 _ _ rfl) (@ya _ _ _ (@zaU _ _ (.ref t.Heard) _ _ rfl T.x_Heard rfl (by decide)) (by rfl)) (by rfl)) (by decide) (by decide) (by rfl) (by rfl)) (@ya _ _ _ (@zn _ _ _ _ _ _ _ _ _ (@zZ _) (by rfl) T.isinstance_ boot_isinstance (@za _ _ _ _ _ (@pvx _ 0 _ _ rfl) (@ya _ _ _ (@zaU _ _ (.ref t.NotHeard) _ _ rfl T.x_NotHeard rfl (by decide)) (by rfl)) (by rfl)) (by decide) (by decide) (by rfl) (by rfl)) (by rfl)) (by rfl)) (by rfl)))) (by rfl) (by trivial)) (by exact (@ze _ _ _ _ _ (@zm _ _ (1) _ _ _ _ zbY.nd rfl (Or.inl rfl) (@zi _ _ _ _ _ _ _ _ (@zcl _) (@pvx _ 1 _ _ rfl) (@zY _ _ _ _ (@za _ _ _ _ _ (@zn _ _ _ _ _ _ _ _ _ (@zZ _) (by rfl) T.isinstance_ boot_isinstance (@za _ _ _ _ _ (@pvx _ 0 _ _ rfl) (@ya _ _ _ (@zaU _ _ (.ref t.NothingLeft) _ _ rfl T.x_NothingLeft rfl (by decide)) (by rfl)) (by rfl)) (by decide) (by decide) (by rfl) (by rfl)) (@za _ _ _ _ _ (@zn _ _ _ _ _ _ _ _ _ (@zZ _) (by rfl) T.isinstance_ boot_isinstance (@za _ _ _ _ _ (@pvx _ 0 _ _ rfl) (@ya _ _ _ (@zaU _ _ (.ref t.NoText) _ _ rfl T.x_NoText rfl (by decide)) (by rfl)) (by rfl)) (by decide) (by decide) (by rfl) (by rfl)) (@ya _ _ _ (@zn _ _ _ _ _ _ _ _ _ (@zZ _) (by rfl) T.isinstance_ boot_isinstance (@za _ _ _ _ _ (@pvx _ 0 _ _ rfl) (@ya _ _ _ (@zaU _ _ (.ref t.NoRow) _ _ rfl T.x_NoRow rfl (by decide)) (by rfl)) (by rfl)) (by decide) (by decide) (by rfl) (by rfl)) (by rfl)) (by rfl)) (by rfl)))) (by rfl) (by trivial)) (by exact (@ze _ _ _ _ _ (@zaO _ _ _ _ _ _ _ _ (@PW.pt _ _ _ (@ze4 _ _ _ _ _ _ _ (@zC _ _ _ _ _ _ _ _ (@zc1 _) (@zcd _ _ _ _ _ _ _ _ _ _ _ _ PySem.F.plainAttrs_list PySem.F.slot_list_count PySem.F.type_list_count (@ziN _) (@pvx _ 1 _ _ rfl) (@ya _ _ _ (@zci _ _ _ _) (by rfl)) (by rfl) (by rfl) (by rfl) (by rfl) (by rfl)) (@zf _ _ _ _) (zL _)) (@zfv _ _ _ _ (@zed _ _ _ _ (@zfu _ _ _ (@zn _ _ _ _ _ _ _ _ _ (@zZ _) (by rfl) T.isinstance_ boot_isinstance (@za _ _ _ _ _ (@pvx _ 0 _ _ rfl) (@ya _ _ _ (@zd4 _ _ (.ty "ValueError") _ _ rfl T.ValueError_ PyProof.Rows.Boot.ValueError rfl (by decide) (by decide)) (by rfl)) (by rfl)) (by decide) (by decide) (by rfl) (by rfl)) (by intro _; rfl)))))) (@zk _ _ _ (@zz _ _ _ _ (@zdu _ _ _ _))) (@z8 _)) (by exact (by exact (@zj1 _ 2 _ _ _ _ _ _ _ ["few","curve","paper","place","number","heard","not heard","nothing","text","row"] (by decide +kernel) zbY.nd rfl (Or.inl rfl) (by first | exact .inl rfl | exact .inr rfl) (by exact (@zk _ _ _ (@zz _ _ _ _ (@zy _ _ _ _ _ _ _ (@zu _) (@pvx _ 2 _ _ rfl) (@zcd _ _ _ _ _ _ _ _ _ _ _ _ PySem.F.plainAttrs_list PySem.F.slot_list_index PySem.F.type_list_index (@ziO _) (@pvx _ 1 _ _ rfl) (@ya _ _ _ (@zci _ _ _ _) (by rfl)) (by rfl) (by rfl) (by rfl) (by rfl) (by rfl)) (fun _ _=>rfl))))))))))))))),?_⟩
  have hsl:=sizeLine_eq
  have xc:=kw.xc
  refine⟨_,rfl,e,C,_,_,rfl,he,xc,.inl ⟨_,rfl,kw.i0⟩,_,rfl,e,C,_,_,rfl,he,xc,.inl ⟨_,rfl,kw.i1⟩,_,rfl,e,C,_,_,rfl,he,xc,.inl ⟨_,rfl,kw.i2⟩,_,rfl,e,C,_,_,rfl,he,xc,.inl ⟨_,rfl,kw.i3⟩,by show 4≤sizeLine; omega,fun l1 hl1=>?_⟩
  have s1:=zb (o:=.lst [.bl b0,.bl b1,.bl b2,.bl b3]) hl1
  have he1:=s1 _ _ he
  refine⟨_,rfl,_,rfl,e,C,_,_,rfl,he1,xc,.inl ⟨_,rfl,kw.i4⟩,_,rfl,e,C,_,_,rfl,he1,xc,.inl ⟨_,rfl,kw.i5⟩,_,rfl,e,C,_,_,rfl,he1,xc,.inl ⟨_,rfl,kw.i6⟩,by show 3≤sizeLine; omega,fun l2 hl2=>?_⟩
  have s2:=zb (o:=.lst [.bl b4,.bl b5,.bl b6]) hl2
  refine⟨l1,l2,_,_,rfl,rfl,s2 _ _ zc,zc,by show 7≤sizeLine; omega,fun l3 hl3=>?_⟩
  have s3:=zb (o:=.lst ([V.bl b0,.bl b1,.bl b2,.bl b3]++[.bl b4,.bl b5,.bl b6])) hl3
  have he3:=s3 _ _ (s2 _ _ he1)
  refine⟨_,rfl,_,rfl,e,C,_,_,rfl,he3,xc,.inl ⟨_,rfl,kw.i7⟩,_,rfl,e,C,_,_,rfl,he3,xc,.inl ⟨_,rfl,kw.i8⟩,_,rfl,e,C,_,_,rfl,he3,xc,.inl ⟨_,rfl,kw.i9⟩,by show 3≤sizeLine; omega,fun l4 hl4=>?_⟩
  have s4:=zb (o:=.lst [.bl b7,.bl b8,.bl b9]) hl4
  refine⟨l3,l4,_,_,rfl,rfl,s4 _ _ zc,zc,by show 10≤sizeLine; omega,fun l5 hl5=>?_⟩
  have s5:=zb (o:=.lst ([V.bl b0,.bl b1,.bl b2,.bl b3]++[.bl b4,.bl b5,.bl b6]++[.bl b7,.bl b8,.bl b9])) hl5
  have he5:=s5 _ _ (s4 _ _ he3)
  have sA:=s1.trans (s2.trans (s3.trans (s4.trans s5)))
  have h5:upd (upd (upd (upd (upd H l1 (.lst [.bl b0,.bl b1,.bl b2,.bl b3])) l2 (.lst [.bl b4,.bl b5,.bl b6])) l3 (.lst ([V.bl b0,.bl b1,.bl b2,.bl b3]++[.bl b4,.bl b5,.bl b6]))) l4 (.lst [.bl b7,.bl b8,.bl b9])) l5 (.lst ([V.bl b0,.bl b1,.bl b2,.bl b3]++[.bl b4,.bl b5,.bl b6]++[.bl b7,.bl b8,.bl b9])) l5=some (.lst ([b0,b1,b2,b3,b4,b5,b6,b7,b8,b9].map V.bl)):=zc
  generalize upd (upd (upd (upd (upd H l1 (.lst [.bl b0,.bl b1,.bl b2,.bl b3])) l2 (.lst [.bl b4,.bl b5,.bl b6])) l3 (.lst ([V.bl b0,.bl b1,.bl b2,.bl b3]++[.bl b4,.bl b5,.bl b6]))) l4 (.lst [.bl b7,.bl b8,.bl b9])) l5 (.lst ([V.bl b0,.bl b1,.bl b2,.bl b3]++[.bl b4,.bl b5,.bl b6]++[.bl b7,.bl b8,.bl b9]))=H5 at he5 sA h5 ⊢
  refine⟨_,rfl,.inl ⟨rfl,_,SqL.of h5⟩,l5,_,true,rfl,rfl,h5,?_⟩
  rw [hc]
  refine⟨rfl,_,rfl,?_⟩
  refine zeT ?_
  refine⟨_,rfl,e,C,_,_,rfl,he5,xc,.inr ⟨_,rfl,kw.iv⟩,_,rfl,?_⟩
  refine zeT ?_
  refine⟨by show 10≤sizeLine; omega,fun lw hlw=>?_⟩
  have s6:=zb (o:=.lst (zhP.map V.str)) hlw
  refine⟨_,rfl,_,rfl,.inl ⟨rfl,_,SqL.of (s6 _ _ h5)⟩,l5,_,true,j,rfl,rfl,s6 _ _ h5,hj,hm,by omega,?_⟩
  refine⟨lw,_,_,.str x,rfl,rfl,SqL.of zc,?_,q _ (sA.trans s6)⟩
  exact zM (xs:=zhP.map V.str) (by rw [List.getElem?_map,hx]; rfl)
def znV (p T:Int) (k:Nat) (pl:List Int) (rw:List (Option Int)) (H H':Hp) (v:V):Prop:=(k < 2∧v = .str "curve")∨(2≤k∧((v = .str "paper"∧∀ m,1≤m→m≤4→NSm p k (hps pl rw) T m)∨∃ (z r':Addr) (ls:List Addr) (m size:Nat) (g:Tm→Int),v = .ref z∧H z=none∧H' z=some (.tup [.int (m:Int),.ref r'])∧H' r'=some (.tup (ls.map V.ref))∧zbR H' ls (zat k size g)∧1≤m∧m≤4∧Lst p k (wpt m (hps pl rw)) size g∧size≤200∧(size:Int) < (m:Int)*T∧∀ m',1≤m'→m' < m→NSm p k (hps pl rw) T m'))
def zjn (t:Adr) (K:PySem.W.Frag):Sp:=fun vs H Q _=>∃ (c tt r:Addr) (p T:Int) (k:Nat) (pl:List Int) (rw:List (Option Int)),vs = [.ref c,.ref r,.int T]∧zbH H c tt p k pl∧H r=some (.lst (rw.map enc))∧rw.length=pl.length∧pl.length≤16∧p∈zJ∧pl.Nodup∧(∀ x∈pl,0≤x∧x < p)∧(∀ z,some z∈rw→0≤z∧z < p)∧1≤k∧k≤100∧0≤T∧T≤1000 ∧
 ∀ v H',zw H H'→znV p T k pl rw H H' v→Q v H'
theorem zbZ:FnScope ["code","row","t","found","e"] ["code","row","t"] (zh zdo):=⟨rfl,rfl,rfl,by decide +kernel,rfl,by decide +kernel,by decide +kernel⟩
theorem zjo {fd:FuncData} (T:Txt K mg t) (F:Fun K "_law_told" "_law_told" zdo t.l_told fd):FnOk P w K mg base CX0 9 t.l_told fd ["code","row","t"] (zjn t K):=by
 obtain⟨fd_paper_of,F_paper_of,b_paper_of⟩:=T.f_paper_of
 have G_paper_of:=zg5 (P:=P) (w:=w) (base:=base) T F_paper_of
 obtain⟨fd_l_word,F_l_word,b_l_word⟩:=T.f_l_word
 have G_l_word:=zjm (P:=P) (w:=w) (base:=base) T F_l_word
 refine F.ok zbZ (fun vs H Q E h=>?_) (fun cdv A outer s H vs Q E hr h=>?_)
 ·obtain⟨c,tt,r,p,T',k,pl,rw,rfl,_⟩:=h
  rfl
 ·obtain⟨c,tt,r,p,T',k,pl,rw,rfl,hc,hra,hrl,hn,hp,hnd,hpl,hrw,k0,k1,t0,t1,q⟩:=h
  refine⟨_,(@ze _ _ _ _ _ (@zm _ _ (3) _ _ _ _ zbZ.nd rfl (Or.inl rfl) (@zdt _ _ _) (by rfl) (by trivial)) (by exact (@ze _ _ _ _ _ (@zmU _ _ _ _ (4) _ _ _ _ _ _ _ _ rfl rfl rfl rfl T.x_SlipError T.sb zbZ.nd rfl rfl (fun xe pins σ E hp=>(@zhs _ _ _ _ _ (@ziL _ _ _ _ _ _ _ (3) _ zbZ.nd rfl (Or.inl rfl) (@zhr _ _ _ _ _ _ _ _ _ _ _ _ _ _ _ _ _ _ G_paper_of (hr.mono (by decide)) rfl T.m_paper_of F_paper_of.kp b_paper_of .nil hp (@za _ _ _ _ _ (@pvx _ 0 _ _ rfl) (@za _ _ _ _ _ (@pvx _ 1 _ _ rfl) (@ya _ _ _ (@pvx _ 2 _ _ rfl) (by rfl)) (by rfl)) (by rfl)) (by decide) (by rfl) (by rfl)) (by rfl) (by trivial)))) (fun e=>zk (@zm _ _ (3) _ _ _ _ zbZ.nd rfl (Or.inl rfl) (@zj0 _ _ _ _ _ _ _ _ _ _ _ _ G_l_word (RoomH.of (hr.mono (by decide))) rfl T.m_l_word F_l_word.kp b_l_word (@ya _ _ _ (@pvx _ 4 _ _ rfl) (by rfl)) (by decide) (by rfl) (by rfl)) (by rfl) (by trivial))) (by decide)) (by exact (@zk _ _ _ (@zz _ _ _ _ (@pvx _ 3 _ _ rfl))))))),?_⟩
  refine⟨_,rfl,_,rfl,_,rfl,c,tt,r,p,T',k,pl,rw,rfl,hc,hra,hrl,hn,hp,hnd,hpl,hrw,k0,k1,t0,t1,?_⟩
  by_cases h1:k < 2
  ·refine .inl ⟨h1,fun H1 s1=>⟨_,rfl,T.kw_NoCurve.sl,fun e he=>?_⟩⟩
   refine⟨_,rfl,e,_,_,_,_,_,_,_,_,_,_,_,1,"curve",rfl,zc,T.kw_NoCurve,rfl,rfl,by decide,by decide,rfl,fun H' s'=>?_⟩
   exact⟨_,rfl,q _ H' (s1.trans ((zb he).trans s')) (.inl ⟨h1,rfl⟩)⟩
  ·refine .inr ⟨by omega,fun H1 s1 hN=>⟨_,rfl,T.kw_NoPaper.sl,fun e he=>?_⟩,fun z r' ls m size g H' hz s' h1' h2' ht m1 m4 hL hs hlt hN=>?_⟩
   ·refine⟨_,rfl,e,_,_,_,_,_,_,_,_,_,_,_,2,"paper",rfl,zc,T.kw_NoPaper,rfl,rfl,by decide,by decide,rfl,fun H' s'=>?_⟩
    exact⟨_,rfl,q _ H' (s1.trans ((zb he).trans s')) (.inr ⟨by omega,.inl ⟨rfl,hN⟩⟩)⟩
   ·exact⟨_,rfl,q _ H' s' (.inr ⟨by omega,.inr ⟨z,r',ls,m,size,g,rfl,hz,h1',h2',ht,m1,m4,hL,hs,hlt,hN⟩⟩)⟩
end
end My
end
section
set_option maxHeartbeats 4000000
namespace My
open PySem L2 PyProof.Rows
section
variable {P:Program} {w:World} {K:PySem.W.Frag} {mg:Str→Option Value} {base:Heap} {t:Adr}
theorem znj {P:Program} {w:World} {X:Cx}:zem (CX1 P w) X E0:=by
 intro pins σ H s ev s' I hq
 obtain⟨e,C,H',B,_,_,_,_,q⟩:=hq
 exact q.elim
theorem zk1:∀ n,inV (.bl false) (List.replicate n (.bl true))=false
 | 0=>rfl
 | n+1=>by
  have ih:=zk1 n
  unfold inV at ih ⊢
  rw [List.replicate_succ,List.any_cons,ih]
  rfl
theorem zg6:∀ n,(List.replicate n (V.bl true)).all zck=true
 | 0=>rfl
 | n+1=>by rw [List.replicate_succ,List.all_cons,zg6 n]; rfl
theorem zoj {a b c d:Int} {i:Int} (h0:0≤i) (h1:i < 4) (lo hi:Int) (ha:lo≤a∧a≤hi) (hb:lo≤b∧b≤hi) (hc:lo≤c∧c≤hi) (hd:lo≤d∧d≤hi):∃ T:Int,atI [V.int a,V.int b,V.int c,V.int d] i=some (.int T)∧lo≤T∧T≤hi:=by
 have:i=0∨i=1∨i=2∨i=3:=by omega
 rcases this with e | e | e | e <;> subst e
 ·exact⟨a,rfl,ha⟩
 ·exact⟨b,rfl,hb⟩
 ·exact⟨c,rfl,hc⟩
 ·exact⟨d,rfl,hd⟩
theorem zok {i:Nat} {x:V} (h:[V.int 1,V.int 2,V.int 3,V.int 4][i]? = some x):x = .int ((1+i:Nat):Int)∧i < 4:=by
 match i,h with
 | 0,h=>cases h; exact⟨rfl,by decide⟩
 | 1,h=>cases h; exact⟨rfl,by decide⟩
 | 2,h=>cases h; exact⟨rfl,by decide⟩
 | 3,h=>cases h; exact⟨rfl,by decide⟩
 | _+4,h=>simp at h
theorem zl5 {K:PySem.W.Frag} {H:Hp} {PL:Addr} {us:List Addr} {hp:List (Int×Int)} {m:Nat} (hP:H PL=some (.lst (us.map V.ref))) (hus:PtB H us hp) (hl:us.length≤1000) {g:TG} {tt:TT} {te:TE} {σ0:L2.St} {Q:VK}
  (hs:∀ (b:Addr) (q:Int×Int) (H1:Hp) (R:VK) (B:L2.St→Hp→Prop),SqT K H1 b [.int q.1,.int q.2]→(∀ T,H1 T=none→R (.ref T) (upd H1 T (.tup [.int q.1,.int q.2,.int (m:Int)])))→g (.ref b) σ0 H1 fun σ2 H2=>tt σ2 H2 fun b H3=>if b=true then te σ2 H3 R else B σ2 H3)
  (hd:∀ D vs H1,zw H H1→H1 D=none→W3 (upd H1 D (.lst (vs.map V.ref))) vs (wpt m hp)→Q (.ref D) (upd H1 D (.lst (vs.map V.ref)))):cGo g tt te σ0 (Itl K PL) Q H:=by
 have hsl:=sizeLine_eq
 have hul:us.length=hp.length:=hus.length
 refine zI (n:=us.length) (fun i ys H'=>zw H H'∧∃ vs:List Addr,ys=vs.map V.ref∧W3 H' vs (wpt m (hp.take i))) ⟨fun _ _ e=>e,[],rfl,.nil⟩ ?_ ?_ ?_ ?_
 ·rintro i ys H4 hi ⟨s4,_⟩
  exact⟨_,.ref (us[i]'(by omega)),SqL.of (s4 _ _ hP),by rw [List.getElem?_map,List.getElem?_eq_getElem (by omega)]; rfl⟩
 ·rintro ys H4 ⟨s4,_⟩
  exact⟨_,SqL.of (s4 _ _ hP),by rw [List.length_map]; exact Nat.le_refl _⟩
 ·rintro i z' ys H4 H5 hi ⟨s4,vs,rfl,hvs⟩ ⟨rfl,hx⟩
  obtain⟨b,rfl,hbm⟩:=zU (hx _ (SqL.of (s4 _ _ hP)))
  obtain⟨q',hq',hT⟩:=Paired.get (hus.same s4) hbm
  have hz:vs.length=i:=by rw [Paired.length hvs]; unfold wpt; rw [List.length_map,List.length_take]; omega
  refine hs b q' H5 _ _ (SqT.of hT) fun T hT'=>⟨by rw [List.length_map]; omega,s4.trans (zb hT'),vs++[T],by simp,?_⟩
  rw [take_snoc hq']
  unfold wpt
  rw [List.map_append]
  exact Paired.snoc (hvs.same (zb hT')) zc
 ·rintro ys H4 D ⟨s4,vs,rfl,hvs⟩ hD
  rw [List.take_of_length_le (by omega)] at hvs
  exact hd D vs H4 s4 hD (hvs.same (zb hD))
theorem zk2 {p:Int} {hp:List (Int×Int)} {m:Nat} (hP:Pts p hp) (m1:1≤m) (m9:m≤9):zfo p (wpt m hp):=fun q' hq'=>by
 obtain⟨a',ha',rfl⟩:=List.mem_map.mp hq'
 obtain⟨g1,g2,g3,g4⟩:=hP.rg a' ha'
 exact⟨g1,g2,g3,g4,m1,m9⟩
theorem zbL:FnScope ["script","code","p","k","places","row","t","found","points","m"] ["script"] (zh zce):=⟨rfl,rfl,rfl,by decide +kernel,rfl,by decide +kernel,by decide +kernel⟩
theorem znk {fd:FuncData} (T:Txt K mg t) (F:Fun K "law" "law" zce t.law fd):FnOk P w K mg base CX0 10 t.law fd ["script"] (zfI K):=by
 obtain⟨fd_l_code,F_l_code,b_l_code⟩:=T.f_l_code
 have G_l_code:=zi3 (P:=P) (w:=w) (base:=base) T F_l_code
 obtain⟨fd_l_row,F_l_row,b_l_row⟩:=T.f_l_row
 have G_l_row:=zkG (P:=P) (w:=w) (base:=base) T F_l_row
 obtain⟨fd_l_draws,F_l_draws,b_l_draws⟩:=T.f_l_draws
 have G_l_draws:=zcZ (P:=P) (w:=w) (base:=base) T F_l_draws
 obtain⟨fd_l_told,F_l_told,b_l_told⟩:=T.f_l_told
 have G_l_told:=zjo (P:=P) (w:=w) (base:=base) T F_l_told
 obtain⟨fd_l_has_curve,F_l_has_curve,b_l_has_curve⟩:=T.f_l_has_curve
 have G_l_has_curve:=zeR (P:=P) (w:=w) (base:=base) T F_l_has_curve
 obtain⟨fd_l_whole,F_l_whole,b_l_whole⟩:=T.f_l_whole
 have G_l_whole:=zhF (P:=P) (w:=w) (base:=base) T F_l_whole
 obtain⟨fd_l_passes,F_l_passes,b_l_passes⟩:=T.f_l_passes
 have G_l_passes:=zg1 (P:=P) (w:=w) (base:=base) T F_l_passes
 obtain⟨fd_l_size,F_l_size,b_l_size⟩:=T.f_l_size
 have G_l_size:=zjg (P:=P) (w:=w) (base:=base) T F_l_size
 obtain⟨fd_paper_holds,F_paper_holds,b_paper_holds⟩:=T.f_paper_holds
 have G_paper_holds:=zeP (P:=P) (w:=w) (base:=base) T F_paper_holds
 refine F.ok zbL (fun vs H Q E h=>?_) (fun cdv A outer s H vs Q E hr h=>?_)
 ·obtain⟨a,ns,rfl,_⟩:=h
  rfl
 ·obtain⟨a,ns,rfl,hS,hlen,q⟩:=h
  refine⟨_,(@ze _ _ _ _ _ (@zm _ _ (1) _ _ _ _ zbL.nd rfl (Or.inl rfl) (@zp _ _ _ _ _ _ _ _ _ _ _ _ _ _ _ _ G_l_code (hr.mono (by decide)) rfl T.m_l_code F_l_code.kp b_l_code .nil (@zN _) (@za _ _ _ _ _ (@pvx _ 0 _ _ rfl) (by exact (@za _ _ _ _ _ (@zf _ _ _ _) (@za _ _ _ _ _ (@zf _ _ _ _) (@ya _ _ _ (@zf _ _ _ _) (by rfl)) (by rfl)) (by rfl))) (by rfl)) (by decide) (by rfl) (by rfl)) (by rfl) (by trivial)) (by exact (@ze _ _ _ _ _ (@zaX _ _ _ _ _ _ (@pvx _ 1 _ _ rfl) (@zaP _ _ _ _ _ _ rfl (@zj _ _ _ _ _ (@zg _ _ (2) _ zbL.nd rfl (Or.inr rfl) (by trivial)) (@zj _ _ _ _ _ (@zg _ _ (3) _ zbL.nd rfl (Or.inl rfl) (by trivial)) (@zj _ _ _ _ _ (@zg _ _ (4) _ zbL.nd rfl (Or.inr rfl) (by trivial)) (@zB _) (by rfl)) (by rfl)) (by rfl)) (by rfl) (by rfl)) (by rfl) (by rfl) (by rfl)) (by exact (@ze _ _ _ _ _ (@zm _ _ (5) _ _ _ _ zbL.nd rfl (Or.inl rfl) (@zp _ _ _ _ _ _ _ _ _ _ _ _ _ _ _ _ G_l_row (hr.mono (by decide)) rfl T.m_l_row F_l_row.kp b_l_row .nil (@zN _) (@za _ _ _ _ _ (@pvx _ 0 _ _ rfl) (@za _ _ _ _ _ (@zf _ _ _ _) (@ya _ _ _ (@pvx _ 1 _ _ rfl) (by rfl)) (by rfl)) (by rfl)) (by decide) (by rfl) (by rfl)) (by rfl) (by trivial)) (by exact (@ze _ _ _ _ _ (@zm _ _ (6) _ _ _ _ zbL.nd rfl (Or.inl rfl) (@zy _ _ _ _ _ _ _ (@zu _) (@zY _ _ _ _ (@za _ _ _ _ _ (@zi _ _ _ _ _ _ _ _ (@zG _) (@zf _ _ _ _) (@zi _ _ _ _ _ _ _ _ (@zE _) (@zy _ _ _ _ _ _ _ (@zu _) (@zp _ _ _ _ _ _ _ _ _ _ _ _ _ _ _ _ G_l_draws (hr.mono (by decide)) rfl T.m_l_draws F_l_draws.kp b_l_draws .nil (@zN _) (@za _ _ _ _ _ (@pvx _ 0 _ _ rfl) (by exact (@za _ _ _ _ _ (@zf _ _ _ _) (@za _ _ _ _ _ (@zf _ _ _ _) (@ya _ _ _ (@zf _ _ _ _) (by rfl)) (by rfl)) (by rfl))) (by rfl)) (by decide) (by rfl) (by rfl)) (@zf _ _ _ _) (fun _ _=>rfl)) (@zf _ _ _ _))) (by exact (@za _ _ _ _ _ (@zi _ _ _ _ _ _ _ _ (@zG _) (@pvx _ 3 _ _ rfl) (@zf _ _ _ _)) (@za _ _ _ _ _ (@zi _ _ _ _ _ _ _ _ (@zG _) (@pvx _ 3 _ _ rfl) (@zf _ _ _ _)) (@ya _ _ _ (@zn _ _ _ _ _ _ _ _ _ (@zx _) (by rfl) T.len_ boot_len (@ya _ _ _ (@pvx _ 4 _ _ rfl) (by rfl)) (by decide) (by decide) (by rfl) (by rfl)) (by rfl)) (by rfl)) (by rfl))) (by rfl))) (@zi _ _ _ _ _ _ _ _ (@zE _) (@zy _ _ _ _ _ _ _ (@zu _) (@zp _ _ _ _ _ _ _ _ _ _ _ _ _ _ _ _ G_l_draws (hr.mono (by decide)) rfl T.m_l_draws F_l_draws.kp b_l_draws .nil (@zN _) (@za _ _ _ _ _ (@pvx _ 0 _ _ rfl) (by exact (@za _ _ _ _ _ (@zf _ _ _ _) (@za _ _ _ _ _ (@zf _ _ _ _) (@ya _ _ _ (@zf _ _ _ _) (by rfl)) (by rfl)) (by rfl))) (by rfl)) (by decide) (by rfl) (by rfl)) (@zf _ _ _ _) (fun _ _=>rfl)) (@zf _ _ _ _)) (fun _ _=>rfl)) (by rfl) (by trivial)) (by exact (@ze _ _ _ _ _ (@zm _ _ (7) _ _ _ _ zbL.nd rfl (Or.inr rfl) (@zp _ _ _ _ _ _ _ _ _ _ _ _ _ _ _ _ G_l_told (hr.mono (by decide)) rfl T.m_l_told F_l_told.kp b_l_told .nil (@zN _) (@za _ _ _ _ _ (@pvx _ 1 _ _ rfl) (@za _ _ _ _ _ (@zam _ _ _ _ _ _ _ _ _ (@zb3 _) (by rfl) T.list_ boot_list (@ya _ _ _ (@pvx _ 5 _ _ rfl) (by rfl)) (by decide) (by decide) (by rfl) (by rfl)) (@ya _ _ _ (@pvx _ 6 _ _ rfl) (by rfl)) (by rfl)) (by rfl)) (by decide) (by rfl) (by rfl)) (by rfl) (by trivial)) (by exact (@ze _ _ _ _ _ (@zaO _ _ _ _ _ _ _ _ (@zC _ _ _ _ _ _ _ _ (@zdE _) (@pvx _ 3 _ _ rfl) (@zf _ _ _ _) (zL _)) (@zk _ _ _ (@zz _ _ _ _ (@zc2 _ _ _ _ _ _ _ _ (@zdE _) (@pvx _ 7 _ _ rfl) (@zdu _ _ _ _) (zL _)))) (@z8 _)) (by exact (@ze _ _ _ _ _ (@zaY _ _ _ _ _ _ _ _ _ _ _ _ _ (8) _ _ _ zbL.nd rfl (Or.inl rfl) (CompSc.of (N':=["number","entry","places"]) (ix:=[none,none,some 4]) (zh zce) ["script","code","p","k","places","row","t","found","points","m"] rfl rfl (by decide +kernel)) rfl (@zaz _ _ _ _ (@zt _ _ _ rfl (@zt _ _ _ rfl (@zah _)))) (@zgm _ _ _ _ _ _ _ _ rfl T.enumerate_ (@ya _ _ _ (@pvx _ 5 _ _ rfl) (by rfl)) (by rfl)) (fun _ _ _ _=>(@zac _ (K) _ _ _ (2) _ rfl rfl (@zj _ _ _ _ _ (@zg _ _ (0) _ (show (["number","entry","places"]:List Str).Nodup by decide +kernel) rfl (Or.inl rfl) (by trivial)) (@zj _ _ _ _ _ (@zg _ _ (1) _ (show (["number","entry","places"]:List Str).Nodup by decide +kernel) rfl (Or.inl rfl) (by trivial)) (@zB _) (by rfl)) (by rfl)) (by rfl) (by rfl))) (fun _ _ _ _=>(@zbP _ _ _ (@zC _ _ _ _ _ _ _ _ (@zhW _) (@pvx _ 1 _ _ rfl) (@zdt _ _ _) (zL _)))) (fun _ _ _ _=>(@za4 _ _ _ _ _ (@za _ _ _ _ _ (@zy _ _ _ _ _ _ _ (@zh3 _ (K) rfl) (@pvx _ 2 _ _ rfl) (@pvx _ 0 _ _ rfl) (fun _ _=>rfl)) (@ya _ _ _ (@pvx _ 1 _ _ rfl) (by rfl)) (by rfl)))) (by rfl) (by intro _; rfl) (by trivial)) (by exact (@ze _ _ _ _ _ (@zal _ _ _ _ _ _ _ _ PassesOwn.never rfl (@z9 _ _ _ _ (@zY _ _ _ _ (@zcp _ _ _ _ _ _ (by exact (@za _ _ _ _ _ (@zf _ _ _ _) (@za _ _ _ _ _ (@zf _ _ _ _) (@ya _ _ _ (@zf _ _ _ _) (by rfl)) (by rfl)) (by rfl)))))) (@zg _ _ (9) _ zbL.nd rfl (Or.inr rfl) (by trivial)) (@zk _ _ _ (@zaO _ _ _ _ _ _ _ _ (@zfu _ _ _ (@zp _ _ _ _ _ _ _ _ _ _ _ _ _ _ _ _ G_l_has_curve (hr.mono (by decide)) rfl T.m_l_has_curve F_l_has_curve.kp b_l_has_curve .nil (@zN _) (@za _ _ _ _ _ (@pvx _ 2 _ _ rfl) (by exact (@za _ _ _ _ _ (@pvx _ 3 _ _ rfl) (@za _ _ _ _ _ (@zA _ _ _ _ _ _ _ _ _ _ _ _ _ (CompSc.of (N':=["x","y","m"]) (ix:=[none,none,some 9]) (zh zce) ["script","code","p","k","places","row","t","found","points","m"] rfl rfl (by decide +kernel)) rfl (@zaz _ _ _ _ (@zt _ _ _ rfl (@zt _ _ _ rfl (@zah _)))) (@z9 _ _ _ _ (@pvx _ 8 _ _ rfl)) (fun _ _ _ _=>(@zac _ (K) _ _ _ (2) _ rfl rfl (@zj _ _ _ _ _ (@zg _ _ (0) _ (show (["x","y","m"]:List Str).Nodup by decide +kernel) rfl (Or.inl rfl) (by trivial)) (@zj _ _ _ _ _ (@zg _ _ (1) _ (show (["x","y","m"]:List Str).Nodup by decide +kernel) rfl (Or.inl rfl) (by trivial)) (@zB _) (by rfl)) (by rfl)) (by rfl) (by rfl))) (fun _ _ _ _=>(@zr _)) (fun _ _ _ _=>(@za4 _ _ _ _ _ (@za _ _ _ _ _ (@pvx _ 0 _ _ rfl) (@za _ _ _ _ _ (@pvx _ 1 _ _ rfl) (@ya _ _ _ (@pvx _ 2 _ _ rfl) (by rfl)) (by rfl)) (by rfl)))) (by intro _; rfl)) (@ya _ _ _ (@zi _ _ _ _ _ _ _ _ (@zR _) (@zi _ _ _ _ _ _ _ _ (@zD _) (@pvx _ 9 _ _ rfl) (@pvx _ 6 _ _ rfl)) (@zf _ _ _ _)) (by rfl)) (by rfl)) (by rfl))) (by rfl)) (by decide) (by rfl) (by rfl)) (by intro _; rfl)) (@ze _ _ _ _ _ (@zaO _ _ _ _ _ _ _ _ (@PW.pt _ _ _ (@ze4 _ _ _ _ _ _ _ (@zed _ _ _ _ (@zfu _ _ _ (@zn _ _ _ _ _ _ _ _ _ (@zco _) (by rfl) T.isinstance_ boot_isinstance (@za _ _ _ _ _ (@pvx _ 7 _ _ rfl) (@ya _ _ _ (@zd4 _ _ (.ty "tuple") _ _ rfl T.tuple_ boot_tuple rfl (by decide) (by decide)) (by rfl)) (by rfl)) (by decide) (by decide) (by rfl) (by rfl)) (by intro _; rfl))) (@ze4 _ _ _ _ _ _ _ (@zC _ _ _ _ _ _ _ _ (@zc1 _) (@zn _ _ _ _ _ _ _ _ _ (@zx _) (by rfl) T.len_ boot_len (@ya _ _ _ (@pvx _ 7 _ _ rfl) (by rfl)) (by decide) (by decide) (by rfl) (by rfl)) (@zf _ _ _ _) (zL _)) (@ze4 _ _ _ _ _ _ _ (@zC _ _ _ _ _ _ _ _ (@zc1 _) (@zy _ _ _ _ _ _ _ (@zb2 _) (@pvx _ 7 _ _ rfl) (@zf _ _ _ _) (fun _ _=>rfl)) (@pvx _ 9 _ _ rfl) (zL _)) (@zfv _ _ _ _ (@zed _ _ _ _ (@zfu _ _ _ (@zp _ _ _ _ _ _ _ _ _ _ _ _ _ _ _ _ G_l_whole (hr.mono (by decide)) rfl T.m_l_whole F_l_whole.kp b_l_whole .nil (@zN _) (@ya _ _ _ (@zy _ _ _ _ _ _ _ (@zb2 _) (@pvx _ 7 _ _ rfl) (@zf _ _ _ _) (fun _ _=>rfl)) (by rfl)) (by decide) (by rfl) (by rfl)) (by intro _; rfl)))))))) (@zk _ _ _ (@zz _ _ _ _ (@zci _ _ _ _))) (@z8 _)) (by exact (@ze _ _ _ _ _ (@zaO _ _ _ _ _ _ _ _ (@PW.pt _ _ _ (@ze4 _ _ _ _ _ _ _ (@zC _ _ _ _ _ _ _ _ (@zej _) (@zp _ _ _ _ _ _ _ _ _ _ _ _ _ _ _ _ G_l_size (hr.mono (by decide)) rfl T.m_l_size F_l_size.kp b_l_size .nil (@zN _) (@za _ _ _ _ _ (@pvx _ 3 _ _ rfl) (@ya _ _ _ (@zy _ _ _ _ _ _ _ (@zb2 _) (@pvx _ 7 _ _ rfl) (@zf _ _ _ _) (fun _ _=>rfl)) (by rfl)) (by rfl)) (by decide) (by rfl) (by rfl)) (@zi _ _ _ _ _ _ _ _ (@zD _) (@pvx _ 9 _ _ rfl) (@pvx _ 6 _ _ rfl)) (zL _)) (@zfv _ _ _ _ (@zC _ _ _ _ _ _ _ _ (@ziu _) (@zci _ _ _ _) (@zA _ _ _ _ _ _ _ _ _ _ _ _ _ (CompSc.of (N':=["one","p","found","m"]) (ix:=[none,some 2,some 7,some 9]) (zh zce) ["script","code","p","k","places","row","t","found","points","m"] rfl rfl (by decide +kernel)) rfl (@zT _ _ rfl) (@z9 _ _ _ _ (@pvx _ 8 _ _ rfl)) (fun _ _ _ _=>(@zg _ _ (0) _ (show (["one","p","found","m"]:List Str).Nodup by decide +kernel) rfl (Or.inl rfl) (by trivial))) (fun _ _ _ _=>(@zr _)) (fun _ _ _ _=>(@zp _ _ _ _ _ _ _ _ _ _ _ _ _ _ _ _ G_l_passes (hr.mono (by decide)) rfl T.m_l_passes F_l_passes.kp b_l_passes .nil (@zN _) (@za _ _ _ _ _ (@pvx _ 1 _ _ rfl) (by exact (@za _ _ _ _ _ (@zy _ _ _ _ _ _ _ (@zh3 _ (K) rfl) (@pvx _ 2 _ _ rfl) (@zf _ _ _ _) (fun _ _=>rfl)) (@za _ _ _ _ _ (@pvx _ 0 _ _ rfl) (@ya _ _ _ (@pvx _ 3 _ _ rfl) (by rfl)) (by rfl)) (by rfl))) (by rfl)) (by decide) (by rfl) (by rfl))) (by intro _; rfl)) (by with_unfolding_all rfl))))) (@zk _ _ _ (@zz _ _ _ _ (@zci _ _ _ _))) (@z8 _)) (by exact (@zk _ _ _ (@zz _ _ _ _ (@zc2 _ _ _ _ _ _ _ _ zm4 (@zp _ _ _ _ _ _ _ _ _ _ _ _ _ _ _ _ G_paper_holds (hr.mono (by decide)) rfl T.m_paper_holds F_paper_holds.kp b_paper_holds .nil (@znj _ _ _) (@za _ _ _ _ _ (@pvx _ 1 _ _ rfl) (by exact (@za _ _ _ _ _ (@zam _ _ _ _ _ _ _ _ _ (@zb3 _) (by rfl) T.list_ boot_list (@ya _ _ _ (@pvx _ 5 _ _ rfl) (by rfl)) (by decide) (by decide) (by rfl) (by rfl)) (@za _ _ _ _ _ (@pvx _ 6 _ _ rfl) (@ya _ _ _ (@pvx _ 7 _ _ rfl) (by rfl)) (by rfl)) (by rfl))) (by rfl)) (by decide) (by rfl) (by rfl)) (@zci _ _ _ _) (zL _)))))))) (@z8 _))) (by intro _; rfl)) (by exact (@zk _ _ _ (@zz _ _ _ _ (@zc2 _ _ _ _ _ _ _ _ (@zdE _) (@pvx _ 7 _ _ rfl) (@zdu _ _ _ _) (zL _)))))))))))))))))))),?_⟩
  have hsl:=sizeLine_eq
  refine⟨_,rfl,a,ns,0,5,8,rfl,hS,hlen,by decide,by decide,by decide,by decide,by decide,by decide,fun c tt p kI pl H1 hc1 s1 co h1c h1t=>?_⟩
  have rp:=zV co.pr
  have k1:=co.k1
  have kk:=co.kk
  have kn:=co.kl
  have ln:=co.ln
  have p0:0 < p:=by omega
  obtain⟨k,rfl⟩:∃ k:Nat,kI=k:=⟨kI.toNat,by omega⟩
  have hcA:zbH H1 c tt p k pl:=⟨h1c,h1t⟩
  refine⟨_,rfl,c,_,rfl,SqT.of h1c,rfl,_,_,rfl,_,_,rfl,_,_,rfl,rfl,?_⟩
  refine⟨_,rfl,_,rfl,a,c,tt,ns,1,p,k,pl,rfl,s1.seq hS,hlen,by decide,by decide,hcA,by omega,by omega,co.rg,by omega,fun r rw H2 hr2 s2 hrl hrw h2r=>?_⟩
  have hcB:=hcA.same s2
  have s12:=s1.trans s2
  refine⟨_,rfl,a,ns,3,2,27720,rfl,s12.seq hS,hlen,by decide,by decide,by decide,by decide,by decide,by decide,fun dl ds H3 hdl s3 ok h3=>?_⟩
  obtain⟨d0,hd0,r0⟩:=zml (i:=0) ok (by decide) (by decide)
  have dm0:=Int.emod_nonneg d0 (show (16:Int)≠0 by decide)
  have dm1:=Int.emod_lt_of_pos d0 (show 0 < (16:Int) by decide)
  have s13:=s12.trans s3
  have hcC:=hcB.same s3
  refine⟨dl,_,_,_,rfl,rfl,SqL.of h3,hd0,_,_,rfl,rfl,by show (0:Int) < 16; decide,_,_,rfl,rfl,_,rfl,_,_,rfl,rfl,_,rfl,_,_,rfl,rfl,_,rfl,tt,_,rfl,.inr (SqT.of hcC.2),by show 4≤sizeLine; omega,fun TL hTL=>?_⟩
  rw [List.length_map]
  have wT:=zb (o:=.lst [V.int (1+d0 % 16),V.int ((k:Int)+1),V.int ((k:Int)+2),V.int (pl.length:Int)]) hTL
  have hT:upd H3 TL (.lst [V.int (1+d0 % 16),V.int ((k:Int)+1),V.int ((k:Int)+2),V.int (pl.length:Int)]) TL=some (.lst [V.int (1+d0 % 16),V.int ((k:Int)+1),V.int ((k:Int)+2),V.int (pl.length:Int)]):=zc
  generalize upd H3 TL (.lst [V.int (1+d0 % 16),V.int ((k:Int)+1),V.int ((k:Int)+2),V.int (pl.length:Int)])=H4 at wT hT ⊢
  have s14:=s13.trans wT
  refine⟨_,rfl,a,ns,3,2,27720,rfl,s14.seq hS,hlen,by decide,by decide,by decide,by decide,by decide,by decide,fun dl' ds' H5 hdl' s5 ok' h5=>?_⟩
  obtain⟨d1,hd1,r1⟩:=zml (i:=1) ok' (by decide) (by decide)
  have dm2:=Int.emod_nonneg d1 (show (4:Int)≠0 by decide)
  have dm3:=Int.emod_lt_of_pos d1 (show 0 < (4:Int) by decide)
  refine (zoj (a:=1+d0 % 16) (b:=(k:Int)+1) (c:=(k:Int)+2) (d:=(pl.length:Int)) dm2 dm3 1 16 ⟨by omega,by omega⟩ ⟨by omega,by omega⟩ ⟨by omega,by omega⟩ ⟨by omega,by omega⟩).elim fun T' hT'=>?_
  obtain⟨hat,t1,t16⟩:=hT'
  refine⟨dl',_,_,_,rfl,rfl,SqL.of h5,hd1,_,_,rfl,rfl,by show (0:Int) < 4; decide,TL,_,_,.int T',rfl,rfl,SqL.of (s5 _ _ hT),hat,?_⟩
  have s25:=s3.trans (wT.trans s5)
  have h5r:=s25 _ _ h2r
  refine⟨_,rfl,_,rfl,r,_,rfl,.inl (SqL.of h5r),fun hn hhn=>?_⟩
  have wh:=zb (o:=.lst (rw.map enc)) hhn
  have hh:upd H5 hn (.lst (rw.map enc)) hn=some (.lst (rw.map enc)):=zc
  generalize upd H5 hn (.lst (rw.map enc))=H6 at wh hh ⊢
  have s26:=s25.trans wh
  have hc6:=hcB.same s26
  refine⟨_,rfl,c,tt,hn,p,T',k,pl,rw,rfl,hc6,hh,hrl,by omega,co.pr,co.nd,co.rg,hrw,by omega,by omega,by omega,by omega,fun fv H7 s7 hTd=>?_⟩
  have s27:=s26.trans s7
  have h7r:=s27 _ _ h2r
  have hc7:=hcB.same s27
  refine⟨_,rfl,rfl,_,rfl,?_⟩
  refine zaq (fun hk1=>?_) (fun hk1=>?_)
  ·have hk1:(k:Int)=1:=by simpa [eqV] using hk1
   obtain rfl:k=1:=by omega
   rcases hTd with ⟨_,rfl⟩ | ⟨h,_⟩
   ·exact⟨_,rfl,rfl,q _⟩
   ·omega
  have hk2:2≤k:=by
   have:(k:Int)≠1:=by simpa [eqV] using hk1
   omega
  have hTd:∃ n0:Nat,1≤n0∧(∀ m,1≤m→m≤4→m < n0→NSm p k (hps pl rw) T' m)∧((n0=5∧fv = .str "paper")∨∃ (z r':Addr) (ls:List Addr) (size:Nat) (g:Tm→Int),fv = .ref z∧H7 z=some (.tup [.int (n0:Int),.ref r'])∧H7 r'=some (.tup (ls.map V.ref))∧zbR H7 ls (zat k size g)∧n0≤4∧Lst p k (wpt n0 (hps pl rw)) size g∧size≤200∧(size:Int) < (n0:Int)*T'):=by
   rcases (hTd.resolve_left fun h=>by omega).2 with ⟨e,hN⟩ | ⟨z,r',ls,m,size,g,e,_,hz,hr',ht,m1,m4,L,hs,hl,hN⟩
   ·exact⟨5,by decide,fun m h1 h2 _=>hN m h1 h2,.inl ⟨rfl,e⟩⟩
   ·exact⟨m,m1,fun m' h1 _ h3=>hN m' h1 h3,.inr ⟨z,r',ls,size,g,e,hz,hr',ht,m4,L,hs,hl⟩⟩
  obtain⟨n0,n1,hN,hF⟩:=hTd
  refine⟨_,rfl,r,_,rfl,SqL.of h7r,zI (n:=pl.length) (fun i ys H'=>zw H7 H'∧∃ us:List Addr,ys=us.map V.ref∧PtB H' us (hps (pl.take i) (rw.take i))) ⟨fun _ _ e=>e,[],rfl,.nil⟩ ?_ ?_ ?_ ?_⟩
  ·rintro i ys H3 hi ⟨s3,_⟩
   obtain⟨o,ho⟩:∃ o,rw[i]? = some o:=⟨rw[i]'(by omega),by simp⟩
   exact⟨_,enc o,SqL.of (s3 _ _ h7r),by rw [List.getElem?_map,ho]; rfl⟩
  ·rintro ys H3 ⟨s3,_⟩
   exact⟨_,SqL.of (s3 _ _ h7r),by rw [List.length_map]; omega⟩
  ·rintro i xx ys H3 H4 hi ⟨s3,us,rfl,hus⟩ ⟨T,v,hT,rfl,rfl,hv⟩
   obtain⟨o,rfl,ho⟩:=zh8 (hv _ (SqL.of (s3 _ _ h7r)))
   have hx:pl[i]? = some (pl[i]'hi):=List.getElem?_eq_getElem hi
   have v4:=zb (o:=.tup [.int (i:Int),enc o]) hT
   have s4:=s3.trans v4
   have hs:=zez hx ho
   have hul:=hus.length
   have hb:=zbA (pl.take i) (rw.take i)
   rw [List.length_take] at hb
   refine⟨T,_,rfl,SqT.of zc,rfl,_,_,rfl,_,_,rfl,rfl,?_⟩
   refine⟨_,rfl,rfl,_,rfl,?_⟩
   cases o with
   | none =>
    refine zeT ⟨s4,us,rfl,?_⟩
    rw [hs,List.append_nil]
    exact hus.same v4
   | some z =>
    refine zld ⟨_,rfl,_,rfl,tt,_,_,.int (pl[i]'hi),rfl,rfl,SqT.of (s4 _ _ hc7.2),zM (by rw [List.getElem?_map,hx]; rfl),_,rfl,by show 2≤sizeLine; omega,fun T2 hT2=>⟨by rw [List.length_map]; omega,s4.trans (zb hT2),us++[T2],by rw [List.map_append]; rfl,?_⟩⟩
    rw [hs]
    exact Paired.snoc (hus.same (v4.trans (zb hT2))) zc
  rintro ys H8 PL ⟨s8,us,rfl,hus⟩ hPL
  rw [List.take_length,List.take_of_length_le (by omega)] at hus
  have wP:=zb (o:=.lst (us.map V.ref)) hPL
  have hP:upd H8 PL (.lst (us.map V.ref)) PL=some (.lst (us.map V.ref)):=zc
  have hus:=hus.same wP
  have s79:=s8.trans wP
  generalize upd H8 PL (.lst (us.map V.ref))=H9 at wP hP hus s79 ⊢
  have hul:us.length=(hps pl rw).length:=hus.length
  have hhl:=zbA pl rw
  have hPt:=zfM co.nd co.rg hrw
  refine⟨by show 4≤sizeLine; omega,fun GL hGL=>?_⟩
  have wG:=zb (o:=.lst [V.int 1,V.int 2,V.int 3,V.int 4]) hGL
  have hG:upd H9 GL (.lst [V.int 1,V.int 2,V.int 3,V.int 4]) GL=some (.lst [V.int 1,V.int 2,V.int 3,V.int 4]):=zc
  generalize upd H9 GL (.lst [V.int 1,V.int 2,V.int 3,V.int 4])=HA at wG hG ⊢
  have s7A:=s79.trans wG
  have hAP:=wG _ _ hP
  have husA:=hus.same wG
  have hcA':=hc7.same s7A
  have hAr:=s7A _ _ h7r
  refine⟨GL,rfl,⟨_,SqL.of hG⟩,?_⟩
  refine zbN (K:=K) (a:=GL) (xs:=[V.int 1,V.int 2,V.int 3,V.int 4]) (fun i σ H'=>∃ e9:Option V,σ = [some (.ref a),some (.ref c),some (.int p),some (.int (k:Int)),some (.ref tt),some (.ref r),some (.int T'),some fv,some (.ref PL),e9]∧zw HA H'∧i < n0) ⟨_,rfl,fun _ _ e=>e,n1⟩ ?_ ?_ ?_
  ·rintro i σ H' _ ⟨_,_,s',_⟩
   exact SqL.of (s' _ _ hG)
  ·rintro i xv σ HB hxv ⟨e9,rfl,sB,hi⟩
   obtain⟨rfl,i4⟩:=zok hxv
   have hmm:∃ (size:Nat) (g:Tm→Int),Lst p k (wpt (1+i) (hps pl rw)) size g∧size≤200∧((size:Int)≤((1+i:Nat):Int)*T' - 1↔n0=1+i):=by
    by_cases hlt:1+i < n0
    ·obtain⟨sz,g,L,hs,hn⟩:=hN (1+i) (by omega) (by omega) hlt
     exact⟨sz,g,L,hs,by constructor <;> intro h <;> omega⟩
    ·obtain rfl:n0=1+i:=by omega
     rcases hF with ⟨h,_⟩ | ⟨z,r',ls,sz,g,_,_,_,_,_,L,hs,hl⟩
     ·omega
     ·exact⟨sz,g,L,hs,by constructor <;> intro h <;> omega⟩
   obtain⟨sz,gz,Lz,hsz,hiff⟩:=hmm
   have hBP:=sB _ _ hAP
   have husB:=husA.same sB
   have hmT:((1+i:Nat):Int)*T'≤4*16:=Int.mul_le_mul (by omega) t16 (by omega) (by decide)
   have hmT0:(1:Int)*1≤((1+i:Nat):Int)*T':=Int.mul_le_mul (by omega) t1 (by decide) (by omega)
   have hco:(cos (wpt (1+i) (hps pl rw))).length≤199:=by
    rw [zcI,zeN]
    have:tri (1+i)≤10:=by
     match i,i4 with
     | 0,_=>decide
     | 1,_=>decide
     | 2,_=>decide
     | 3,_=>decide
     | _+4,h=>omega
    have:(hps pl rw).length*tri (1+i)≤8*10:=Nat.mul_le_mul (by omega) this
    omega
   refine⟨_,rfl,_,rfl,_,rfl,PL,rfl,⟨_,SqL.of hBP⟩,zl5 (m:=1+i) hBP husB (by omega) (fun b q' H1 R B hT hR=>?_) fun D vs H1 sC hD hvs=>?_⟩
   ·refine gY2 hT ?_
    exact⟨_,rfl,_,rfl,_,rfl,by show 3≤sizeLine; omega,fun T hT'=>hR T hT'⟩
   have wD:=zb (o:=.lst (vs.map V.ref)) hD
   have sC:=sC.trans wD
   have hDs:upd H1 D (.lst (vs.map V.ref)) D=some (.lst (vs.map V.ref)):=zc
   generalize upd H1 D (.lst (vs.map V.ref))=HC at wD sC hDs hvs ⊢
   refine⟨_,rfl,_,rfl,_,_,rfl,rfl,.inr ⟨by omega,by omega⟩,_,_,rfl,rfl,p,((1+i:Nat):Int)*T' - 1,k,sz,D,vs,wpt (1+i) (hps pl rw),gz,rfl,by omega,by omega,co.pr,hk2,by omega,hsz,hDs,hvs,zk2 hPt (by omega) (by omega),fun q' hq'=>?_,by unfold wpt; rw [List.length_map]; omega,hco,Lz,fun HD sD=>⟨_,rfl,?_⟩⟩
   ·obtain⟨a',ha',rfl⟩:=List.mem_map.mp hq'
    show 1+i≤4
    omega
   have sBD:=sC.trans sD
   refine zaq (fun hc=>?_) (fun hc=>?_)
   ·have hn0:=hiff.mp (of_decide_eq_true hc)
    subst hn0
    rcases hF with ⟨h,_⟩ | ⟨z,r',ls,size,g,rfl,h7z,h7r',h7t,n4,LS,hsz',hlt⟩
    ·omega
    have s7D:=s7A.trans (sB.trans sBD)
    have hDz:=s7D _ _ h7z
    have hDr:=s7D _ _ h7r'
    have hDT:=h7t.same s7D
    have rg:=zim (k:=k) (s:=size) LS.rg
    have rg1:∀ r∈zat k size g,1≤r.length∧r.length≤201∧∀ v∈r,0≤v∧v < p:=fun r hr=>by
     obtain⟨h1,h2,h3⟩:=rg r hr
     exact⟨h1,by omega,h3⟩
    have hqs:size / (k - 1)≤size:=Nat.div_le_self _ _
    have cln:(zat k size g).length≤201:=by rw [zbk]; exact Nat.succ_le_succ (Nat.le_trans hqs hsz')
    have cl1:1≤(zat k size g).length:=by rw [zbk]; exact Nat.le_add_left _ _
    refine⟨_,rfl,_,_,_,_,rfl,.tup hDz,rfl,_,rfl,zeT ?_⟩
    refine⟨_,rfl,z,_,rfl,.inr (SqT.of hDz),rfl,_,rfl,zeT ?_⟩
    refine⟨_,rfl,z,_,_,_,rfl,rfl,SqT.of hDz,rfl,_,rfl,rfl,_,rfl,?_⟩
    refine zaq (fun hc=>absurd hc (by simp [eqV])) (fun _=>?_)
    refine⟨_,rfl,z,_,_,_,rfl,rfl,SqT.of hDz,rfl,((1+i:Nat):Int),rfl,_,rfl,zeT ?_⟩
    refine⟨_,rfl,_,rfl,z,_,_,_,rfl,rfl,SqT.of hDz,rfl,(k:Int),r',ls,zat k size g,rfl,by omega,by omega,hDr,hDT,by omega,fun r hr=>Nat.le_trans (rg1 r hr).2.1 (by decide),?_,fun M HE sE hM1 hM2=>?_⟩
    ·obtain⟨t',ht',hne'⟩:=LS.top
     exact fun e=>by have:=zgb hk2 (show tz k t'≤size by omega) hne'; rw [e] at this; cases this
    have eM:=zfq hk2 LS hM1 hM2
    subst eM
    refine⟨_,rfl,_,rfl,_,_,rfl,rfl,.inr ⟨by omega,by omega⟩,_,_,rfl,rfl,_,rfl,?_⟩
    refine zaq (fun hc=>absurd (of_decide_eq_true hc) (by omega)) (fun _=>?_)
    have s7E:=s7D.trans sE
    have sBE:=sBD.trans sE
    have hEz:=sE _ _ hDz
    have hEr:=sE _ _ hDr
    have hET:=hDT.same sE
    have hEP:=sBE _ _ hBP
    have husE:=husB.same sBE
    refine⟨_,rfl,PL,rfl,⟨_,SqL.of hEP⟩,zI (n:=us.length) (fun j ys H'=>zw HE H'∧ys=List.replicate j (V.bl true)) ⟨fun _ _ e=>e,rfl⟩ ?_ ?_ ?_ ?_⟩
    ·rintro j ys H4 hj ⟨s4,_⟩
     exact⟨_,.ref (us[j]'(by omega)),SqL.of (s4 _ _ hEP),by rw [List.getElem?_map,List.getElem?_eq_getElem (by omega)]; rfl⟩
    ·rintro ys H4 ⟨s4,_⟩
     exact⟨_,SqL.of (s4 _ _ hEP),by rw [List.length_map]; exact Nat.le_refl _⟩
    ·rintro j z' ys H4 H5 hj ⟨s4,rfl⟩ ⟨rfl,hx⟩
     obtain⟨b,rfl,hbm⟩:=zU (hx _ (SqL.of (s4 _ _ hEP)))
     obtain⟨q',hq',hqb⟩:=Paired.get (husE.same s4) hbm
     have hqm:=List.mem_of_getElem? hq'
     obtain⟨g1,g2,g3,g4⟩:=hPt.rg q' hqm
     refine gY ?_
     refine⟨_,rfl,_,rfl,z,_,_,_,rfl,rfl,SqT.of (s4 _ _ hEz),rfl,_,rfl,_,rfl,p,r',b,q'.1,q'.2,1+i,ls,zat k size g,rfl,by omega,by omega,g1,g2,g3,g4,n4,s4 _ _ hEr,hET.same s4,hqb,cl1,cln,rg1,zfr hk2 LS hqm,fun HI sI=>⟨by rw [List.length_replicate]; omega,s4.trans sI,?_⟩⟩
     rw [List.replicate_succ']
    ·rintro ys H4 D2 ⟨s4,rfl⟩ hD2
     have w4:=s4.trans (zb (o:=.lst (List.replicate us.length (V.bl true))) hD2)
     refine⟨D2,_,rfl,.inl (SqL.of zc),rfl,zg6 _,_,rfl,?_⟩
     generalize upd H4 D2 (.lst (List.replicate us.length (V.bl true)))=HF at w4 ⊢
     refine zaq (fun hc=>absurd hc (by simp [zk1])) (fun _=>?_)
     have s7F:=s7E.trans w4
     refine⟨_,rfl,_,rfl,r,_,rfl,.inl (SqL.of (s7F _ _ h7r)),fun rn hrn=>?_⟩
     have wr:=s7F.trans (zb (o:=.lst (rw.map enc)) hrn)
     refine⟨_,rfl,_,rfl,c,tt,rn,z,r',p,T',k,1+i,size,pl,rw,ls,g,rfl,hc7.same wr,zc,hrl,by omega,co.pr,co.nd,co.rg,hrw,hk2,by omega,by omega,by omega,wr _ _ h7z,wr _ _ h7r',h7t.same wr,by omega,n4,LS,by omega,hlt,fun HG sG=>?_⟩
     exact⟨_,_,rfl,rfl,q _⟩
   ·have hne:¬ n0=1+i:=fun h=>hc (decide_eq_true (hiff.mpr h))
    exact⟨_,rfl,sB.trans sBD,by omega⟩
  ·rintro σ H' ⟨e9,rfl,s',hi⟩
   rcases hF with ⟨_,rfl⟩ | ⟨_,_,_,_,_,_,_,_,_,h,_⟩
   ·exact⟨_,rfl,rfl,q _⟩
   ·exact absurd (show 4 < n0 from hi) (by omega)
end
end My
end
section
set_option maxHeartbeats 4000000
namespace My
open PySem L2 PyProof.Rows
structure Dn (K:PySem.W.Frag) (x:Str) (st:Stmt) (f:Addr) (fd:FuncData):Prop where
 a:PySem.W.nsIn K mainGlobals x=some (some (.ref f))
 f:Fun K x x st f fd
theorem znW {K:PySem.W.Frag} {x:Str} {i:Int} {u:Value} (y:PySem.W.nsIn K mainGlobals x=some (some u)) (r:RelV (.int i) u):∃ u,PySem.W.nsIn K mainGlobals x=some (some u)∧RelV (.int i) u:=⟨u,y,r⟩
theorem z7 {K:PySem.W.Frag} {x:Str} {st:Stmt} {f:Addr} {od an:Option Addr} {sl:Array (Option Value)} {oc kV dc pm cd ct:Value} (a:PySem.W.nsIn K mainGlobals x=some (some (.ref f))) (l:K.lookup f=some ⟨oc,od,.func (PySem.W.fnOf x x (zbz st) (za5 st) (zh st) .none kV dc pm an cd ct),sl⟩) (c:PySem.W.codeIn K cd x=true) (k:PySem.W.keepIn K (.ref f)=true):Dn K x st f (PySem.W.fnOf x x (zbz st) (za5 st) (zh st) .none kV dc pm an cd ct):=⟨a,zjE l c k⟩
theorem el1 {us:List Value} (e:us.length=1):∃ a,us = [a]:=match us,e with | [a],_=>⟨a,rfl⟩
theorem el2 {us:List Value} (e:us.length=2):∃ a b,us = [a,b]:=match us,e with | [a,b],_=>⟨a,b,rfl⟩
theorem el3 {us:List Value} (e:us.length=3):∃ a b c,us = [a,b,c]:=match us,e with | [a,b,c],_=>⟨a,b,c,rfl⟩
theorem el4 {us:List Value} (e:us.length=4):∃ a b c d,us = [a,b,c,d]:=match us,e with | [a,b,c,d],_=>⟨a,b,c,d,rfl⟩
theorem znl {l:PySem.W.OpenLaw} {w:World} {K:PySem.W.Frag} {h:Heap} {mg:Str→Option Value} {fa fl A_SlipError A_TooFew A_NoCurve A_NoPaper A_NoPlace A_NoNumber A_Heard A_NotHeard A_NothingLeft A_NoText A_NoRow:Addr} (X:K.In h) (G:h.Ns mainGlobals mg) (hfa:mg "law" = some (.ref fa))
  {od an:Option Addr} {sl:Array (Option Value)} {oc kV dc pm cd ct:Value} (a_SlipError:PySem.W.nsIn K mainGlobals "SlipError" = some (some (.ref A_SlipError))) (a_TooFew:PySem.W.nsIn K mainGlobals "TooFew" = some (some (.ref A_TooFew))) (a_NoCurve:PySem.W.nsIn K mainGlobals "NoCurve" = some (some (.ref A_NoCurve))) (a_NoPaper:PySem.W.nsIn K mainGlobals "NoPaper" = some (some (.ref A_NoPaper))) (a_NoPlace:PySem.W.nsIn K mainGlobals "NoPlace" = some (some (.ref A_NoPlace))) (a_NoNumber:PySem.W.nsIn K mainGlobals "NoNumber" = some (some (.ref A_NoNumber))) (a_Heard:PySem.W.nsIn K mainGlobals "Heard" = some (some (.ref A_Heard))) (a_NotHeard:PySem.W.nsIn K mainGlobals "NotHeard" = some (some (.ref A_NotHeard))) (a_NothingLeft:PySem.W.nsIn K mainGlobals "NothingLeft" = some (some (.ref A_NothingLeft))) (a_NoText:PySem.W.nsIn K mainGlobals "NoText" = some (some (.ref A_NoText))) (a_NoRow:PySem.W.nsIn K mainGlobals "NoRow" = some (some (.ref A_NoRow))) (d_inverse:∃ f fd,Dn K "inverse" zcK f fd) (d_times_root:∃ f fd,Dn K "times_root" za6 f fd) (d_moved_powers:∃ f fd,Dn K "moved_powers" za7 f fd) (d_numbers_at:∃ f fd,Dn K "numbers_at" zaA f fd) (d_vectors_of:∃ f fd,Dn K "vectors_of" zaM f fd) (d_without:∃ f fd,Dn K "without" zbV f fd) (d_first_relation:∃ f fd,Dn K "first_relation" zak f fd) (d_first_sum:∃ f fd,Dn K "first_sum" zbl f fd) (d_heard_points:∃ f fd,Dn K "heard_points" zaH f fd) (d_width_of:∃ f fd,Dn K "width_of" zbw f fd) (d_filled:∃ f fd,Dn K "filled" zcr f fd) (d_terms_of:∃ f fd,Dn K "terms_of" zbx f fd) (d_turned:∃ f fd,Dn K "turned" zcs f fd) (d_raised:∃ f fd,Dn K "raised" zct f fd) (d_size_of:∃ f fd,Dn K "size_of" zbW f fd) (d_moved:∃ f fd,Dn K "moved" zdk f fd) (d_weight_at:∃ f fd,Dn K "weight_at" zbm f fd) (d_first_terms:∃ f fd,Dn K "first_terms" zaS f fd) (d_least_curve:∃ f fd,Dn K "least_curve" zai f fd) (d_check_curves:∃ f fd,Dn K "check_curves" za8 f fd) (d_curve_for:∃ f fd,Dn K "curve_for" zbn f fd) (d_paper_of:∃ f fd,Dn K "paper_of" zb9 f fd) (d_paper_holds:∃ f fd,Dn K "paper_holds" zaT f fd) (d_l_cell:∃ f fd,Dn K "_law_cell" zdl f fd) (d_l_draws:∃ f fd,Dn K "_law_draws" zcL f fd) (d_l_whole:∃ f fd,Dn K "_law_whole" zcM f fd) (d_l_code:∃ f fd,Dn K "_law_code" zcu f fd) (d_l_value:∃ f fd,Dn K "_law_value" zcN f fd) (d_l_polynomial:∃ f fd,Dn K "_law_polynomial" zaI f fd) (d_l_row:∃ f fd,Dn K "_law_row" zdm f fd) (d_l_rank:∃ f fd,Dn K "_law_rank" zbo f fd) (d_l_powers:∃ f fd,Dn K "_law_powers" zca f fd) (d_l_choose:∃ f fd,Dn K "_law_choose" zcb f fd) (d_l_passes:∃ f fd,Dn K "_law_passes" zaJ f fd) (d_l_asked:∃ f fd,Dn K "_law_asked" zbX f fd) (d_l_has_curve:∃ f fd,Dn K "_law_has_curve" zaD f fd) (d_l_word:∃ f fd,Dn K "_law_word" zdn f fd) (d_l_told:∃ f fd,Dn K "_law_told" zdo f fd) (d_l_size:∃ f fd,Dn K "_law_size" zcv f fd)  (xi_NoCurve:PySem.W.excIn K A_NoCurve zhq "ValueError.__new__" = true) (xi_NoPaper:PySem.W.excIn K A_NoPaper zhq "ValueError.__new__" = true) (k_NoCurve_TooFew:PySem.W.kitOne K (.ref A_NoCurve) (.ref A_TooFew)=some false) (k_NoCurve_NoCurve:PySem.W.kitOne K (.ref A_NoCurve) (.ref A_NoCurve)=some true) (k_NoCurve_NoPaper:PySem.W.kitOne K (.ref A_NoCurve) (.ref A_NoPaper)=some false) (k_NoCurve_NoPlace:PySem.W.kitOne K (.ref A_NoCurve) (.ref A_NoPlace)=some false) (k_NoCurve_NoNumber:PySem.W.kitOne K (.ref A_NoCurve) (.ref A_NoNumber)=some false) (k_NoCurve_Heard:PySem.W.kitOne K (.ref A_NoCurve) (.ref A_Heard)=some false) (k_NoCurve_NotHeard:PySem.W.kitOne K (.ref A_NoCurve) (.ref A_NotHeard)=some false) (k_NoCurve_NothingLeft:PySem.W.kitOne K (.ref A_NoCurve) (.ref A_NothingLeft)=some false) (k_NoCurve_NoText:PySem.W.kitOne K (.ref A_NoCurve) (.ref A_NoText)=some false) (k_NoCurve_NoRow:PySem.W.kitOne K (.ref A_NoCurve) (.ref A_NoRow)=some false) (v_NoCurve:PySem.W.kitOne K (.ref A_NoCurve) (.type "ValueError")=some true) (s_NoCurve:PySem.W.kitCls K (.ref A_NoCurve) (.ref A_SlipError)=some true) (e1_NoCurve:PySem.W.findIn K (.ref A_NoCurve) "__getattribute__" = some (some (.builtin "BaseException.__getattribute__"))) (e2_NoCurve:PySem.W.findIn K (.ref A_NoCurve) "__getattr__" = some none) (e3_NoCurve:PySem.W.findIn K (.ref A_NoCurve) "__class__" = some (some (.builtin "object.__class__"))) (e4_NoCurve:PySem.W.mroIn K A_NoCurve (.type "object")=some true) (e5_NoCurve:PySem.W.mroIn K A_NoCurve (.type "BaseException")=some true) (e6_NoCurve:PySem.W.kitCls K (.ref A_NoCurve) (.ref A_NoCurve)=some true) (k_NoPaper_TooFew:PySem.W.kitOne K (.ref A_NoPaper) (.ref A_TooFew)=some false) (k_NoPaper_NoCurve:PySem.W.kitOne K (.ref A_NoPaper) (.ref A_NoCurve)=some false) (k_NoPaper_NoPaper:PySem.W.kitOne K (.ref A_NoPaper) (.ref A_NoPaper)=some true) (k_NoPaper_NoPlace:PySem.W.kitOne K (.ref A_NoPaper) (.ref A_NoPlace)=some false) (k_NoPaper_NoNumber:PySem.W.kitOne K (.ref A_NoPaper) (.ref A_NoNumber)=some false) (k_NoPaper_Heard:PySem.W.kitOne K (.ref A_NoPaper) (.ref A_Heard)=some false) (k_NoPaper_NotHeard:PySem.W.kitOne K (.ref A_NoPaper) (.ref A_NotHeard)=some false) (k_NoPaper_NothingLeft:PySem.W.kitOne K (.ref A_NoPaper) (.ref A_NothingLeft)=some false) (k_NoPaper_NoText:PySem.W.kitOne K (.ref A_NoPaper) (.ref A_NoText)=some false) (k_NoPaper_NoRow:PySem.W.kitOne K (.ref A_NoPaper) (.ref A_NoRow)=some false) (v_NoPaper:PySem.W.kitOne K (.ref A_NoPaper) (.type "ValueError")=some true) (s_NoPaper:PySem.W.kitCls K (.ref A_NoPaper) (.ref A_SlipError)=some true) (e1_NoPaper:PySem.W.findIn K (.ref A_NoPaper) "__getattribute__" = some (some (.builtin "BaseException.__getattribute__"))) (e2_NoPaper:PySem.W.findIn K (.ref A_NoPaper) "__getattr__" = some none) (e3_NoPaper:PySem.W.findIn K (.ref A_NoPaper) "__class__" = some (some (.builtin "object.__class__"))) (e4_NoPaper:PySem.W.mroIn K A_NoPaper (.type "object")=some true) (e5_NoPaper:PySem.W.mroIn K A_NoPaper (.type "BaseException")=some true) (e6_NoPaper:PySem.W.kitCls K (.ref A_NoPaper) (.ref A_NoPaper)=some true) (sb:PySem.W.mroIn K A_SlipError (.type "BaseException")=some true)
  (al:PySem.W.nsIn K mainGlobals "law" = some (some (.ref fl))) (ll:K.lookup fl=some ⟨oc,od,.func (PySem.W.fnOf "law" "law" (zbz zce) (za5 zce) (zh zce) .none kV dc pm an cd ct),sl⟩) (cl:PySem.W.codeIn K cd "law" = true) (kl:PySem.W.keepIn K (.ref fl)=true) (z_len:PySem.W.nsIn K mainGlobals "len" = some none) (z_range:PySem.W.nsIn K mainGlobals "range" = some none) (z_list:PySem.W.nsIn K mainGlobals "list" = some none) (z_tuple:PySem.W.nsIn K mainGlobals "tuple" = some none) (z_min:PySem.W.nsIn K mainGlobals "min" = some none) (z_max:PySem.W.nsIn K mainGlobals "max" = some none) (z_int:PySem.W.nsIn K mainGlobals "int" = some none) (z_bool:PySem.W.nsIn K mainGlobals "bool" = some none) (z_isinstance:PySem.W.nsIn K mainGlobals "isinstance" = some none) (z_zip:PySem.W.nsIn K mainGlobals "zip" = some none) (z_enumerate:PySem.W.nsIn K mainGlobals "enumerate" = some none) (z_sum:PySem.W.nsIn K mainGlobals "sum" = some none) (z_dict:PySem.W.nsIn K mainGlobals "dict" = some none) (z_reversed:PySem.W.nsIn K mainGlobals "reversed" = some none) (z_all:PySem.W.nsIn K mainGlobals "all" = some none) (z_ValueError:PySem.W.nsIn K mainGlobals "ValueError" = some none) (y_MOST_PAPER_WEIGHT:∃ u,PySem.W.nsIn K mainGlobals "MOST_PAPER_WEIGHT" = some (some u)∧RelV (.int 4) u) :
  ∃ fd:FuncData,(∀ (s:Shared) (v:Value),BindsTo s fd ⟨[v],[]⟩ [("script",v)])∧∀ base:Heap,K.In base→base.Ns mainGlobals mg→FnOk l.prog w K mg base CX0 10 fa fd ["script"] (zfI K):=by
 cases hfa.symm.trans (PySem.W.mg_of X G al)
 obtain⟨f_inverse,fd_inverse,D_inverse⟩:=d_inverse
 have b_inverse:=D_inverse.f.binds (ps:=["p","number"]) fun _ _ _ _ _ _ _ h=>by obtain⟨_,_,rfl⟩:=el2 h; exact rfl
 obtain⟨f_times_root,fd_times_root,D_times_root⟩:=d_times_root
 have b_times_root:=D_times_root.f.binds (ps:=["p","polynomial","root"]) fun _ _ _ _ _ _ _ h=>by obtain⟨_,_,_,rfl⟩:=el3 h; exact rfl
 obtain⟨f_moved_powers,fd_moved_powers,D_moved_powers⟩:=d_moved_powers
 have b_moved_powers:=D_moved_powers.f.binds (ps:=["p","by","most","kept"]) fun _ _ _ _ _ _ _ h=>by obtain⟨_,_,_,_,rfl⟩:=el4 h; exact rfl
 obtain⟨f_numbers_at,fd_numbers_at,D_numbers_at⟩:=d_numbers_at
 have b_numbers_at:=D_numbers_at.f.binds (ps:=["p","terms","point"]) fun _ _ _ _ _ _ _ h=>by obtain⟨_,_,_,rfl⟩:=el3 h; exact rfl
 obtain⟨f_vectors_of,fd_vectors_of,D_vectors_of⟩:=d_vectors_of
 have b_vectors_of:=D_vectors_of.f.binds (ps:=["p","terms","points"]) fun _ _ _ _ _ _ _ h=>by obtain⟨_,_,_,rfl⟩:=el3 h; exact rfl
 obtain⟨f_without,fd_without,D_without⟩:=d_without
 have b_without:=D_without.f.binds (ps:=["p","vector","times","other"]) fun _ _ _ _ _ _ _ h=>by obtain⟨_,_,_,_,rfl⟩:=el4 h; exact rfl
 obtain⟨f_first_relation,fd_first_relation,D_first_relation⟩:=d_first_relation
 have b_first_relation:=D_first_relation.f.binds (ps:=["p","vectors"]) fun _ _ _ _ _ _ _ h=>by obtain⟨_,_,rfl⟩:=el2 h; exact rfl
 obtain⟨f_first_sum,fd_first_sum,D_first_sum⟩:=d_first_sum
 have b_first_sum:=D_first_sum.f.binds (ps:=["p","terms","points"]) fun _ _ _ _ _ _ _ h=>by obtain⟨_,_,_,rfl⟩:=el3 h; exact rfl
 obtain⟨f_heard_points,fd_heard_points,D_heard_points⟩:=d_heard_points
 have b_heard_points:=D_heard_points.f.binds (ps:=["code","row"]) fun _ _ _ _ _ _ _ h=>by obtain⟨_,_,rfl⟩:=el2 h; exact rfl
 obtain⟨f_width_of,fd_width_of,D_width_of⟩:=d_width_of
 have b_width_of:=D_width_of.f.binds (ps:=["curve"]) fun _ _ _ _ _ _ _ h=>by obtain⟨_,rfl⟩:=el1 h; exact rfl
 obtain⟨f_filled,fd_filled,D_filled⟩:=d_filled
 have b_filled:=D_filled.f.binds (ps:=["p","curve"]) fun _ _ _ _ _ _ _ h=>by obtain⟨_,_,rfl⟩:=el2 h; exact rfl
 obtain⟨f_terms_of,fd_terms_of,D_terms_of⟩:=d_terms_of
 have b_terms_of:=D_terms_of.f.binds (ps:=["curve"]) fun _ _ _ _ _ _ _ h=>by obtain⟨_,rfl⟩:=el1 h; exact rfl
 obtain⟨f_turned,fd_turned,D_turned⟩:=d_turned
 have b_turned:=D_turned.f.binds (ps:=["lines","width"]) fun _ _ _ _ _ _ _ h=>by obtain⟨_,_,rfl⟩:=el2 h; exact rfl
 obtain⟨f_raised,fd_raised,D_raised⟩:=d_raised
 have b_raised:=D_raised.f.binds (ps:=["p","lines","by"]) fun _ _ _ _ _ _ _ h=>by obtain⟨_,_,_,rfl⟩:=el3 h; exact rfl
 obtain⟨f_size_of,fd_size_of,D_size_of⟩:=d_size_of
 have b_size_of:=D_size_of.f.binds (ps:=["k","curve"]) fun _ _ _ _ _ _ _ h=>by obtain⟨_,_,rfl⟩:=el2 h; exact rfl
 obtain⟨f_moved,fd_moved,D_moved⟩:=d_moved
 have b_moved:=D_moved.f.binds (ps:=["p","curve","point"]) fun _ _ _ _ _ _ _ h=>by obtain⟨_,_,_,rfl⟩:=el3 h; exact rfl
 obtain⟨f_weight_at,fd_weight_at,D_weight_at⟩:=d_weight_at
 have b_weight_at:=D_weight_at.f.binds (ps:=["p","curve","point"]) fun _ _ _ _ _ _ _ h=>by obtain⟨_,_,_,rfl⟩:=el3 h; exact rfl
 obtain⟨f_first_terms,fd_first_terms,D_first_terms⟩:=d_first_terms
 have b_first_terms:=D_first_terms.f.binds (ps:=["k","many"]) fun _ _ _ _ _ _ _ h=>by obtain⟨_,_,rfl⟩:=el2 h; exact rfl
 obtain⟨f_least_curve,fd_least_curve,D_least_curve⟩:=d_least_curve
 have b_least_curve:=D_least_curve.f.binds (ps:=["p","k","points"]) fun _ _ _ _ _ _ _ h=>by obtain⟨_,_,_,rfl⟩:=el3 h; exact rfl
 obtain⟨f_check_curves,fd_check_curves,D_check_curves⟩:=d_check_curves
 have b_check_curves:=D_check_curves.f.binds (ps:=["k"]) fun _ _ _ _ _ _ _ h=>by obtain⟨_,rfl⟩:=el1 h; exact rfl
 obtain⟨f_curve_for,fd_curve_for,D_curve_for⟩:=d_curve_for
 have b_curve_for:=D_curve_for.f.binds (ps:=["code","row","m"]) fun _ _ _ _ _ _ _ h=>by obtain⟨_,_,_,rfl⟩:=el3 h; exact rfl
 obtain⟨f_paper_of,fd_paper_of,D_paper_of⟩:=d_paper_of
 have b_paper_of:=D_paper_of.f.binds (ps:=["code","row","t"]) fun _ _ _ _ _ _ _ h=>by obtain⟨_,_,_,rfl⟩:=el3 h; exact rfl
 obtain⟨f_paper_holds,fd_paper_holds,D_paper_holds⟩:=d_paper_holds
 have b_paper_holds:=D_paper_holds.f.binds (ps:=["code","row","t","paper"]) fun _ _ _ _ _ _ _ h=>by obtain⟨_,_,_,_,rfl⟩:=el4 h; exact rfl
 obtain⟨f_l_cell,fd_l_cell,D_l_cell⟩:=d_l_cell
 have b_l_cell:=D_l_cell.f.binds (ps:=["script","k"]) fun _ _ _ _ _ _ _ h=>by obtain⟨_,_,rfl⟩:=el2 h; exact rfl
 obtain⟨f_l_draws,fd_l_draws,D_l_draws⟩:=d_l_draws
 have b_l_draws:=D_l_draws.f.binds (ps:=["script","k","many","base"]) fun _ _ _ _ _ _ _ h=>by obtain⟨_,_,_,_,rfl⟩:=el4 h; exact rfl
 obtain⟨f_l_whole,fd_l_whole,D_l_whole⟩:=d_l_whole
 have b_l_whole:=D_l_whole.f.binds (ps:=["found"]) fun _ _ _ _ _ _ _ h=>by obtain⟨_,rfl⟩:=el1 h; exact rfl
 obtain⟨f_l_code,fd_l_code,D_l_code⟩:=d_l_code
 have b_l_code:=D_l_code.f.binds (ps:=["script","at","most_k","most_n"]) fun _ _ _ _ _ _ _ h=>by obtain⟨_,_,_,_,rfl⟩:=el4 h; exact rfl
 obtain⟨f_l_value,fd_l_value,D_l_value⟩:=d_l_value
 have b_l_value:=D_l_value.f.binds (ps:=["p","polynomial","x"]) fun _ _ _ _ _ _ _ h=>by obtain⟨_,_,_,rfl⟩:=el3 h; exact rfl
 obtain⟨f_l_polynomial,fd_l_polynomial,D_l_polynomial⟩:=d_l_polynomial
 have b_l_polynomial:=D_l_polynomial.f.binds (ps:=["draws","p","k"]) fun _ _ _ _ _ _ _ h=>by obtain⟨_,_,_,rfl⟩:=el3 h; exact rfl
 obtain⟨f_l_row,fd_l_row,D_l_row⟩:=d_l_row
 have b_l_row:=D_l_row.f.binds (ps:=["script","at","code"]) fun _ _ _ _ _ _ _ h=>by obtain⟨_,_,_,rfl⟩:=el3 h; exact rfl
 obtain⟨f_l_rank,fd_l_rank,D_l_rank⟩:=d_l_rank
 have b_l_rank:=D_l_rank.f.binds (ps:=["p","rows"]) fun _ _ _ _ _ _ _ h=>by obtain⟨_,_,rfl⟩:=el2 h; exact rfl
 obtain⟨f_l_powers,fd_l_powers,D_l_powers⟩:=d_l_powers
 have b_l_powers:=D_l_powers.f.binds (ps:=["p","x","many"]) fun _ _ _ _ _ _ _ h=>by obtain⟨_,_,_,rfl⟩:=el3 h; exact rfl
 obtain⟨f_l_choose,fd_l_choose,D_l_choose⟩:=d_l_choose
 have b_l_choose:=D_l_choose.f.binds (ps:=["many","few"]) fun _ _ _ _ _ _ _ h=>by obtain⟨_,_,rfl⟩:=el2 h; exact rfl
 obtain⟨f_l_passes,fd_l_passes,D_l_passes⟩:=d_l_passes
 have b_l_passes:=D_l_passes.f.binds (ps:=["p","curve","point","m"]) fun _ _ _ _ _ _ _ h=>by obtain⟨_,_,_,_,rfl⟩:=el4 h; exact rfl
 obtain⟨f_l_asked,fd_l_asked,D_l_asked⟩:=d_l_asked
 have b_l_asked:=D_l_asked.f.binds (ps:=["p","k","weighed","size"]) fun _ _ _ _ _ _ _ h=>by obtain⟨_,_,_,_,rfl⟩:=el4 h; exact rfl
 obtain⟨f_l_has_curve,fd_l_has_curve,D_l_has_curve⟩:=d_l_has_curve
 have b_l_has_curve:=D_l_has_curve.f.binds (ps:=["p","k","weighed","size"]) fun _ _ _ _ _ _ _ h=>by obtain⟨_,_,_,_,rfl⟩:=el4 h; exact rfl
 obtain⟨f_l_word,fd_l_word,D_l_word⟩:=d_l_word
 have b_l_word:=D_l_word.f.binds (ps:=["e"]) fun _ _ _ _ _ _ _ h=>by obtain⟨_,rfl⟩:=el1 h; exact rfl
 obtain⟨f_l_told,fd_l_told,D_l_told⟩:=d_l_told
 have b_l_told:=D_l_told.f.binds (ps:=["code","row","t"]) fun _ _ _ _ _ _ _ h=>by obtain⟨_,_,_,rfl⟩:=el3 h; exact rfl
 obtain⟨f_l_size,fd_l_size,D_l_size⟩:=d_l_size
 have b_l_size:=D_l_size.f.binds (ps:=["k","curve"]) fun _ _ _ _ _ _ _ h=>by obtain⟨_,_,rfl⟩:=el2 h; exact rfl
 let t:Adr:=⟨A_SlipError,A_TooFew,A_NoCurve,A_NoPaper,A_NoPlace,A_NoNumber,A_Heard,A_NotHeard,A_NothingLeft,A_NoText,A_NoRow,f_inverse,f_times_root,f_moved_powers,f_numbers_at,f_vectors_of,f_without,f_first_relation,f_first_sum,f_heard_points,f_width_of,f_filled,f_terms_of,f_turned,f_raised,f_size_of,f_moved,f_weight_at,f_first_terms,f_least_curve,f_check_curves,f_curve_for,f_paper_of,f_paper_holds,f_l_cell,f_l_draws,f_l_whole,f_l_code,f_l_value,f_l_polynomial,f_l_row,f_l_rank,f_l_powers,f_l_choose,f_l_passes,f_l_asked,f_l_has_curve,f_l_word,f_l_told,f_l_size,fa⟩
 have T:Txt K mg t:=⟨PySem.W.mg_none_of X G z_len,PySem.W.mg_none_of X G z_range,PySem.W.mg_none_of X G z_list,PySem.W.mg_none_of X G z_tuple,PySem.W.mg_none_of X G z_min,PySem.W.mg_none_of X G z_max,PySem.W.mg_none_of X G z_int,PySem.W.mg_none_of X G z_bool,PySem.W.mg_none_of X G z_isinstance,PySem.W.mg_none_of X G z_zip,PySem.W.mg_none_of X G z_enumerate,PySem.W.mg_none_of X G z_sum,PySem.W.mg_none_of X G z_dict,PySem.W.mg_none_of X G z_reversed,PySem.W.mg_none_of X G z_all,PySem.W.mg_none_of X G z_ValueError,(by obtain⟨u,e,q,r⟩:=y_MOST_PAPER_WEIGHT; subst r; exact⟨q,PySem.W.mg_of X G e⟩),PySem.W.mg_of X G a_SlipError,PySem.W.mg_of X G a_TooFew,PySem.W.mg_of X G a_NoCurve,PySem.W.mg_of X G a_NoPaper,PySem.W.mg_of X G a_NoPlace,PySem.W.mg_of X G a_NoNumber,PySem.W.mg_of X G a_Heard,PySem.W.mg_of X G a_NotHeard,PySem.W.mg_of X G a_NothingLeft,PySem.W.mg_of X G a_NoText,PySem.W.mg_of X G a_NoRow,xi_NoCurve,xi_NoPaper,⟨k_NoCurve_TooFew,k_NoCurve_NoCurve,k_NoCurve_NoPaper,k_NoCurve_NoPlace,k_NoCurve_NoNumber,k_NoCurve_Heard,k_NoCurve_NotHeard,k_NoCurve_NothingLeft,k_NoCurve_NoText,k_NoCurve_NoRow,v_NoCurve,⟨e1_NoCurve,e2_NoCurve,e3_NoCurve,e4_NoCurve,e5_NoCurve,e6_NoCurve⟩,s_NoCurve⟩,⟨k_NoPaper_TooFew,k_NoPaper_NoCurve,k_NoPaper_NoPaper,k_NoPaper_NoPlace,k_NoPaper_NoNumber,k_NoPaper_Heard,k_NoPaper_NotHeard,k_NoPaper_NothingLeft,k_NoPaper_NoText,k_NoPaper_NoRow,v_NoPaper,⟨e1_NoPaper,e2_NoPaper,e3_NoPaper,e4_NoPaper,e5_NoPaper,e6_NoPaper⟩,s_NoPaper⟩,sb,PySem.W.mg_of X G D_inverse.a,PySem.W.mg_of X G D_times_root.a,PySem.W.mg_of X G D_moved_powers.a,PySem.W.mg_of X G D_numbers_at.a,PySem.W.mg_of X G D_vectors_of.a,PySem.W.mg_of X G D_without.a,PySem.W.mg_of X G D_first_relation.a,PySem.W.mg_of X G D_first_sum.a,PySem.W.mg_of X G D_heard_points.a,PySem.W.mg_of X G D_width_of.a,PySem.W.mg_of X G D_filled.a,PySem.W.mg_of X G D_terms_of.a,PySem.W.mg_of X G D_turned.a,PySem.W.mg_of X G D_raised.a,PySem.W.mg_of X G D_size_of.a,PySem.W.mg_of X G D_moved.a,PySem.W.mg_of X G D_weight_at.a,PySem.W.mg_of X G D_first_terms.a,PySem.W.mg_of X G D_least_curve.a,PySem.W.mg_of X G D_check_curves.a,PySem.W.mg_of X G D_curve_for.a,PySem.W.mg_of X G D_paper_of.a,PySem.W.mg_of X G D_paper_holds.a,PySem.W.mg_of X G D_l_cell.a,PySem.W.mg_of X G D_l_draws.a,PySem.W.mg_of X G D_l_whole.a,PySem.W.mg_of X G D_l_code.a,PySem.W.mg_of X G D_l_value.a,PySem.W.mg_of X G D_l_polynomial.a,PySem.W.mg_of X G D_l_row.a,PySem.W.mg_of X G D_l_rank.a,PySem.W.mg_of X G D_l_powers.a,PySem.W.mg_of X G D_l_choose.a,PySem.W.mg_of X G D_l_passes.a,PySem.W.mg_of X G D_l_asked.a,PySem.W.mg_of X G D_l_has_curve.a,PySem.W.mg_of X G D_l_word.a,PySem.W.mg_of X G D_l_told.a,PySem.W.mg_of X G D_l_size.a,⟨_,D_inverse.f,b_inverse⟩,⟨_,D_times_root.f,b_times_root⟩,⟨_,D_moved_powers.f,b_moved_powers⟩,⟨_,D_numbers_at.f,b_numbers_at⟩,⟨_,D_vectors_of.f,b_vectors_of⟩,⟨_,D_without.f,b_without⟩,⟨_,D_first_relation.f,b_first_relation⟩,⟨_,D_first_sum.f,b_first_sum⟩,⟨_,D_heard_points.f,b_heard_points⟩,⟨_,D_width_of.f,b_width_of⟩,⟨_,D_filled.f,b_filled⟩,⟨_,D_terms_of.f,b_terms_of⟩,⟨_,D_turned.f,b_turned⟩,⟨_,D_raised.f,b_raised⟩,⟨_,D_size_of.f,b_size_of⟩,⟨_,D_moved.f,b_moved⟩,⟨_,D_weight_at.f,b_weight_at⟩,⟨_,D_first_terms.f,b_first_terms⟩,⟨_,D_least_curve.f,b_least_curve⟩,⟨_,D_check_curves.f,b_check_curves⟩,⟨_,D_curve_for.f,b_curve_for⟩,⟨_,D_paper_of.f,b_paper_of⟩,⟨_,D_paper_holds.f,b_paper_holds⟩,⟨_,D_l_cell.f,b_l_cell⟩,⟨_,D_l_draws.f,b_l_draws⟩,⟨_,D_l_whole.f,b_l_whole⟩,⟨_,D_l_code.f,b_l_code⟩,⟨_,D_l_value.f,b_l_value⟩,⟨_,D_l_polynomial.f,b_l_polynomial⟩,⟨_,D_l_row.f,b_l_row⟩,⟨_,D_l_rank.f,b_l_rank⟩,⟨_,D_l_powers.f,b_l_powers⟩,⟨_,D_l_choose.f,b_l_choose⟩,⟨_,D_l_passes.f,b_l_passes⟩,⟨_,D_l_asked.f,b_l_asked⟩,⟨_,D_l_has_curve.f,b_l_has_curve⟩,⟨_,D_l_word.f,b_l_word⟩,⟨_,D_l_told.f,b_l_told⟩,⟨_,D_l_size.f,b_l_size⟩⟩
 have FL:=zjE (st:=zce) ll cl kl
 exact⟨PySem.W.fnOf "law" "law" (zbz zce) (za5 zce) (zh zce) .none kV dc pm an cd ct,fun s v=>.of_eq rfl,fun base _ _=>znk (t:=t) T FL⟩
theorem walk {l:PySem.W.OpenLaw} {q:Program} {loose:List Str} {XP:(Str→Option Value)→Heap→Prop} {YP:World→Heap→Prop} {d:DefRec} {K:Params→PySem.W.Frag} (hn:l.most=some 63) (hdf:d.params.defaults = []) (hY:∀ (w:World) (h:Heap),YP w h→(K w.params).In h)
  (F:∀ (w:World) (mg:Str→Option Value) (fa:Addr) (h:Heap),(K w.params).In h→h.Ns mainGlobals mg→mg d.name=some (.ref fa)→∃ fd:FuncData,(∀ (s:Shared) (u:Value),BindsTo s fd ⟨[u],[]⟩ [("script",u)])∧∀ base:Heap,(K w.params).In base→base.Ns mainGlobals mg→FnOk l.prog w (K w.params) mg base CX0 10 fa fd ["script"] (zfI (K w.params))):PySem.W.WalkO q loose XP YP l.row.toRowW d [] (fun f vs=>PySem.call f vs) :=
 L2.zlc (n:=63) (k:=10) (x:="script") (CX:=fun _=>CX0) (sp:=fun w=>zfI (K w.params)) hn (by decide) hdf ⟨rfl,by decide,by decide⟩ hY F (fun _ _ a ns hl _ hS=>⟨a,ns,rfl,hS,hl,fun _=>rfl⟩) fun _ _ _ _ _ z=>z
end My
namespace PySem.W.Fast
def tw30268764850710265:Unit:=()
def tw6369058653982416608:Unit:=()
def tw7249109932580490676:Unit:=()
def tw14389232590343944130:Unit:=()
def tw594575742464648765:Unit:=()
def tw5010257684093982293:Unit:=()
def tw7938596472335155242:Unit:=()
def tw8233417123443588603:Unit:=()
def tw5842590285331562242:Unit:=()
def tw13188398107824727254:Unit:=()
def tw12297083054309178013:Unit:=()
def tw13917327624927673659:Unit:=()
def tw1855668856597922759:Unit:=()
def tw11512737005099933553:Unit:=()
def tw7750028630585730681:Unit:=()
def tw2634038342781374644:Unit:=()
def tw3618362436380271841:Unit:=()
def tw9243716545088208207:Unit:=()
def tw2347097899616244388:Unit:=()
def tw16019585251661291172:Unit:=()
def tw11374021749750306748:Unit:=()
def tw6381457794893526841:Unit:=()
def tw14095463213428751041:Unit:=()
def tw6212401045695132591:Unit:=()
def tw13586561509390583815:Unit:=()
def tw18375235359390747713:Unit:=()
def tw9955906880034637370:Unit:=()
def tw3338385065651009491:Unit:=()
def tw10009670389739515178:Unit:=()
def tw99953560861785895:Unit:=()
def tw16452485725056224578:Unit:=()
def tw15990425440706697018:Unit:=()
def tw15720881838794524868:Unit:=()
def tw18056760666002572290:Unit:=()
def tw10704495284571670454:Unit:=()
def tw14622506708743122868:Unit:=()
def tw148582935964054179:Unit:=()
def tw2601722616293068736:Unit:=()
def tw312880924594431542:Unit:=()
def tw454422912581928222:Unit:=()
def tw15804879997496189156:Unit:=()
def tw3694473594551020335:Unit:=()
def tw14620406932803913670:Unit:=()
def tw1490340571313203988:Unit:=()
def tw14970240773526042733:Unit:=()
def tw2697443062864436959:Unit:=()
def tw15149947054522251422:Unit:=()
def tw5164478806334944936:Unit:=()
def tw7623383632221783413:Unit:=()
def tw4742439273110236633:Unit:=()
def tw8910487515707613185:Unit:=()
def tw12512219082671259421:Unit:=()
def tw16326908961308432408:Unit:=()
def tw13392647539947265385:Unit:=()
def tw3145014584456425510:Unit:=()
def tw3062341265759977726:Unit:=()
def tw16494506659777128824:Unit:=()
def tw16530989533492663644:Unit:=()
def tw1274395770789462536:Unit:=()
def tw14279145970255269147:Unit:=()
def tw4457652609398373008:Unit:=()
def tw14956898635384878659:Unit:=()
def tw9163927716837103057:Unit:=()
def tw4311677702695981013:Unit:=()
def tw14430225814986333030:Unit:=()
def tw18289872779820717156:Unit:=()
def tw16664112543115089616:Unit:=()
def tw8807180580059722451:Unit:=()
def tw2627690781579331723:Unit:=()
def tw3897959834434658257:Unit:=()
def tw3547955322506459191:Unit:=()
def tw6351471300890815382:Unit:=()
def tw10970779956747038153:Unit:=()
def tw3064092492974478379:Unit:=()
def tw6086979587979410583:Unit:=()
def tw695453484860022716:Unit:=()
def tw4853726430936175539:Unit:=()
def tw6587392783079300499:Unit:=()
def tw18191992257507844006:Unit:=()
def tw3114184564133110566:Unit:=()
def tw5225297606236109490:Unit:=()
def tw2172674389989190922:Unit:=()
def tw13717000622177111849:Unit:=()
def tw11574501535601261286:Unit:=()
def tw5681890507369929962:Unit:=()
def tw2090102030431055236:Unit:=()
def tw9336009331908879571:Unit:=()
def tw10982194325569292379:Unit:=()
def tw10784599450073049141:Unit:=()
def tw10196681124041451660:Unit:=()
end PySem.W.Fast
open PySem PySem.W
open PyProof.Rows
set_option maxHeartbeats 0 in
theorem PySem.Challenge.cw_slipcurve_k17_papers_found_holds : PySem.Challenge.rw_slipcurve_k17_papers_found.Holds := by
 w_on; o_law; k_head; (case hw=>w_witness2)
 k_fill
 refine My.walk (l:=PySem.Challenge.rw_slipcurve_k17_papers_found) rfl rfl (fun w h Y=>PySem.W.kIn_of Y) ?F
 case F =>
  intro w mg fa h KX G hmg
  refine' My.znl KX G hmg ?a_SlipError ?a_TooFew ?a_NoCurve ?a_NoPaper ?a_NoPlace ?a_NoNumber ?a_Heard ?a_NotHeard ?a_NothingLeft ?a_NoText ?a_NoRow ⟨_,_,My.z7 ?da_inverse ?dl_inverse ?dc_inverse ?dk_inverse⟩ ⟨_,_,My.z7 ?da_times_root ?dl_times_root ?dc_times_root ?dk_times_root⟩ ⟨_,_,My.z7 ?da_moved_powers ?dl_moved_powers ?dc_moved_powers ?dk_moved_powers⟩ ⟨_,_,My.z7 ?da_numbers_at ?dl_numbers_at ?dc_numbers_at ?dk_numbers_at⟩ ⟨_,_,My.z7 ?da_vectors_of ?dl_vectors_of ?dc_vectors_of ?dk_vectors_of⟩ ⟨_,_,My.z7 ?da_without ?dl_without ?dc_without ?dk_without⟩ ⟨_,_,My.z7 ?da_first_relation ?dl_first_relation ?dc_first_relation ?dk_first_relation⟩ ⟨_,_,My.z7 ?da_first_sum ?dl_first_sum ?dc_first_sum ?dk_first_sum⟩ ⟨_,_,My.z7 ?da_heard_points ?dl_heard_points ?dc_heard_points ?dk_heard_points⟩ ⟨_,_,My.z7 ?da_width_of ?dl_width_of ?dc_width_of ?dk_width_of⟩ ⟨_,_,My.z7 ?da_filled ?dl_filled ?dc_filled ?dk_filled⟩ ⟨_,_,My.z7 ?da_terms_of ?dl_terms_of ?dc_terms_of ?dk_terms_of⟩ ⟨_,_,My.z7 ?da_turned ?dl_turned ?dc_turned ?dk_turned⟩ ⟨_,_,My.z7 ?da_raised ?dl_raised ?dc_raised ?dk_raised⟩ ⟨_,_,My.z7 ?da_size_of ?dl_size_of ?dc_size_of ?dk_size_of⟩ ⟨_,_,My.z7 ?da_moved ?dl_moved ?dc_moved ?dk_moved⟩ ⟨_,_,My.z7 ?da_weight_at ?dl_weight_at ?dc_weight_at ?dk_weight_at⟩ ⟨_,_,My.z7 ?da_first_terms ?dl_first_terms ?dc_first_terms ?dk_first_terms⟩ ⟨_,_,My.z7 ?da_least_curve ?dl_least_curve ?dc_least_curve ?dk_least_curve⟩ ⟨_,_,My.z7 ?da_check_curves ?dl_check_curves ?dc_check_curves ?dk_check_curves⟩ ⟨_,_,My.z7 ?da_curve_for ?dl_curve_for ?dc_curve_for ?dk_curve_for⟩ ⟨_,_,My.z7 ?da_paper_of ?dl_paper_of ?dc_paper_of ?dk_paper_of⟩ ⟨_,_,My.z7 ?da_paper_holds ?dl_paper_holds ?dc_paper_holds ?dk_paper_holds⟩ ⟨_,_,My.z7 ?da_l_cell ?dl_l_cell ?dc_l_cell ?dk_l_cell⟩ ⟨_,_,My.z7 ?da_l_draws ?dl_l_draws ?dc_l_draws ?dk_l_draws⟩ ⟨_,_,My.z7 ?da_l_whole ?dl_l_whole ?dc_l_whole ?dk_l_whole⟩ ⟨_,_,My.z7 ?da_l_code ?dl_l_code ?dc_l_code ?dk_l_code⟩ ⟨_,_,My.z7 ?da_l_value ?dl_l_value ?dc_l_value ?dk_l_value⟩ ⟨_,_,My.z7 ?da_l_polynomial ?dl_l_polynomial ?dc_l_polynomial ?dk_l_polynomial⟩ ⟨_,_,My.z7 ?da_l_row ?dl_l_row ?dc_l_row ?dk_l_row⟩ ⟨_,_,My.z7 ?da_l_rank ?dl_l_rank ?dc_l_rank ?dk_l_rank⟩ ⟨_,_,My.z7 ?da_l_powers ?dl_l_powers ?dc_l_powers ?dk_l_powers⟩ ⟨_,_,My.z7 ?da_l_choose ?dl_l_choose ?dc_l_choose ?dk_l_choose⟩ ⟨_,_,My.z7 ?da_l_passes ?dl_l_passes ?dc_l_passes ?dk_l_passes⟩ ⟨_,_,My.z7 ?da_l_asked ?dl_l_asked ?dc_l_asked ?dk_l_asked⟩ ⟨_,_,My.z7 ?da_l_has_curve ?dl_l_has_curve ?dc_l_has_curve ?dk_l_has_curve⟩ ⟨_,_,My.z7 ?da_l_word ?dl_l_word ?dc_l_word ?dk_l_word⟩ ⟨_,_,My.z7 ?da_l_told ?dl_l_told ?dc_l_told ?dk_l_told⟩ ⟨_,_,My.z7 ?da_l_size ?dl_l_size ?dc_l_size ?dk_l_size⟩ ?xi_NoCurve ?xi_NoPaper ?k_NoCurve_TooFew ?k_NoCurve_NoCurve ?k_NoCurve_NoPaper ?k_NoCurve_NoPlace ?k_NoCurve_NoNumber ?k_NoCurve_Heard ?k_NoCurve_NotHeard ?k_NoCurve_NothingLeft ?k_NoCurve_NoText ?k_NoCurve_NoRow ?v_NoCurve ?s_NoCurve ?e1_NoCurve ?e2_NoCurve ?e3_NoCurve ?e4_NoCurve ?e5_NoCurve ?e6_NoCurve ?k_NoPaper_TooFew ?k_NoPaper_NoCurve ?k_NoPaper_NoPaper ?k_NoPaper_NoPlace ?k_NoPaper_NoNumber ?k_NoPaper_Heard ?k_NoPaper_NotHeard ?k_NoPaper_NothingLeft ?k_NoPaper_NoText ?k_NoPaper_NoRow ?v_NoPaper ?s_NoPaper ?e1_NoPaper ?e2_NoPaper ?e3_NoPaper ?e4_NoPaper ?e5_NoPaper ?e6_NoPaper ?sb ?al ?ll ?cl ?kl ?z_len ?z_range ?z_list ?z_tuple ?z_min ?z_max ?z_int ?z_bool ?z_isinstance ?z_zip ?z_enumerate ?z_sum ?z_dict ?z_reversed ?z_all ?z_ValueError (My.znW ?y_MOST_PAPER_WEIGHT ?x_MOST_PAPER_WEIGHT)
  (case a_SlipError=>k_is)
  (case a_TooFew=>k_is)
  (case a_NoCurve=>k_is)
  (case a_NoPaper=>k_is)
  (case a_NoPlace=>k_is)
  (case a_NoNumber=>k_is)
  (case a_Heard=>k_is)
  (case a_NotHeard=>k_is)
  (case a_NothingLeft=>k_is)
  (case a_NoText=>k_is)
  (case a_NoRow=>k_is)
  (case da_inverse=>k_is)
  (case dl_inverse=>k_is)
  (case dc_inverse=>k_is)
  (case dk_inverse=>k_is)
  (case da_times_root=>k_is)
  (case dl_times_root=>k_is)
  (case dc_times_root=>k_is)
  (case dk_times_root=>k_is)
  (case da_moved_powers=>k_is)
  (case dl_moved_powers=>k_is)
  (case dc_moved_powers=>k_is)
  (case dk_moved_powers=>k_is)
  (case da_numbers_at=>k_is)
  (case dl_numbers_at=>k_is)
  (case dc_numbers_at=>k_is)
  (case dk_numbers_at=>k_is)
  (case da_vectors_of=>k_is)
  (case dl_vectors_of=>k_is)
  (case dc_vectors_of=>k_is)
  (case dk_vectors_of=>k_is)
  (case da_without=>k_is)
  (case dl_without=>k_is)
  (case dc_without=>k_is)
  (case dk_without=>k_is)
  (case da_first_relation=>k_is)
  (case dl_first_relation=>k_is)
  (case dc_first_relation=>k_is)
  (case dk_first_relation=>k_is)
  (case da_first_sum=>k_is)
  (case dl_first_sum=>k_is)
  (case dc_first_sum=>k_is)
  (case dk_first_sum=>k_is)
  (case da_heard_points=>k_is)
  (case dl_heard_points=>k_is)
  (case dc_heard_points=>k_is)
  (case dk_heard_points=>k_is)
  (case da_width_of=>k_is)
  (case dl_width_of=>k_is)
  (case dc_width_of=>k_is)
  (case dk_width_of=>k_is)
  (case da_filled=>k_is)
  (case dl_filled=>k_is)
  (case dc_filled=>k_is)
  (case dk_filled=>k_is)
  (case da_terms_of=>k_is)
  (case dl_terms_of=>k_is)
  (case dc_terms_of=>k_is)
  (case dk_terms_of=>k_is)
  (case da_turned=>k_is)
  (case dl_turned=>k_is)
  (case dc_turned=>k_is)
  (case dk_turned=>k_is)
  (case da_raised=>k_is)
  (case dl_raised=>k_is)
  (case dc_raised=>k_is)
  (case dk_raised=>k_is)
  (case da_size_of=>k_is)
  (case dl_size_of=>k_is)
  (case dc_size_of=>k_is)
  (case dk_size_of=>k_is)
  (case da_moved=>k_is)
  (case dl_moved=>k_is)
  (case dc_moved=>k_is)
  (case dk_moved=>k_is)
  (case da_weight_at=>k_is)
  (case dl_weight_at=>k_is)
  (case dc_weight_at=>k_is)
  (case dk_weight_at=>k_is)
  (case da_first_terms=>k_is)
  (case dl_first_terms=>k_is)
  (case dc_first_terms=>k_is)
  (case dk_first_terms=>k_is)
  (case da_least_curve=>k_is)
  (case dl_least_curve=>k_is)
  (case dc_least_curve=>k_is)
  (case dk_least_curve=>k_is)
  (case da_check_curves=>k_is)
  (case dl_check_curves=>k_is)
  (case dc_check_curves=>k_is)
  (case dk_check_curves=>k_is)
  (case da_curve_for=>k_is)
  (case dl_curve_for=>k_is)
  (case dc_curve_for=>k_is)
  (case dk_curve_for=>k_is)
  (case da_paper_of=>k_is)
  (case dl_paper_of=>k_is)
  (case dc_paper_of=>k_is)
  (case dk_paper_of=>k_is)
  (case da_paper_holds=>k_is)
  (case dl_paper_holds=>k_is)
  (case dc_paper_holds=>k_is)
  (case dk_paper_holds=>k_is)
  (case da_l_cell=>k_is)
  (case dl_l_cell=>k_is)
  (case dc_l_cell=>k_is)
  (case dk_l_cell=>k_is)
  (case da_l_draws=>k_is)
  (case dl_l_draws=>k_is)
  (case dc_l_draws=>k_is)
  (case dk_l_draws=>k_is)
  (case da_l_whole=>k_is)
  (case dl_l_whole=>k_is)
  (case dc_l_whole=>k_is)
  (case dk_l_whole=>k_is)
  (case da_l_code=>k_is)
  (case dl_l_code=>k_is)
  (case dc_l_code=>k_is)
  (case dk_l_code=>k_is)
  (case da_l_value=>k_is)
  (case dl_l_value=>k_is)
  (case dc_l_value=>k_is)
  (case dk_l_value=>k_is)
  (case da_l_polynomial=>k_is)
  (case dl_l_polynomial=>k_is)
  (case dc_l_polynomial=>k_is)
  (case dk_l_polynomial=>k_is)
  (case da_l_row=>k_is)
  (case dl_l_row=>k_is)
  (case dc_l_row=>k_is)
  (case dk_l_row=>k_is)
  (case da_l_rank=>k_is)
  (case dl_l_rank=>k_is)
  (case dc_l_rank=>k_is)
  (case dk_l_rank=>k_is)
  (case da_l_powers=>k_is)
  (case dl_l_powers=>k_is)
  (case dc_l_powers=>k_is)
  (case dk_l_powers=>k_is)
  (case da_l_choose=>k_is)
  (case dl_l_choose=>k_is)
  (case dc_l_choose=>k_is)
  (case dk_l_choose=>k_is)
  (case da_l_passes=>k_is)
  (case dl_l_passes=>k_is)
  (case dc_l_passes=>k_is)
  (case dk_l_passes=>k_is)
  (case da_l_asked=>k_is)
  (case dl_l_asked=>k_is)
  (case dc_l_asked=>k_is)
  (case dk_l_asked=>k_is)
  (case da_l_has_curve=>k_is)
  (case dl_l_has_curve=>k_is)
  (case dc_l_has_curve=>k_is)
  (case dk_l_has_curve=>k_is)
  (case da_l_word=>k_is)
  (case dl_l_word=>k_is)
  (case dc_l_word=>k_is)
  (case dk_l_word=>k_is)
  (case da_l_told=>k_is)
  (case dl_l_told=>k_is)
  (case dc_l_told=>k_is)
  (case dk_l_told=>k_is)
  (case da_l_size=>k_is)
  (case dl_l_size=>k_is)
  (case dc_l_size=>k_is)
  (case dk_l_size=>k_is)
  (case xi_NoCurve=>with_unfolding_all rfl)
  (case xi_NoPaper=>with_unfolding_all rfl)
  (case k_NoCurve_TooFew=>rfl)
  (case k_NoCurve_NoCurve=>rfl)
  (case k_NoCurve_NoPaper=>rfl)
  (case k_NoCurve_NoPlace=>rfl)
  (case k_NoCurve_NoNumber=>rfl)
  (case k_NoCurve_Heard=>rfl)
  (case k_NoCurve_NotHeard=>rfl)
  (case k_NoCurve_NothingLeft=>rfl)
  (case k_NoCurve_NoText=>rfl)
  (case k_NoCurve_NoRow=>rfl)
  (case v_NoCurve=>rfl)
  (case s_NoCurve=>rfl)
  (case e1_NoCurve=>k_is)
  (case e2_NoCurve=>k_is)
  (case e3_NoCurve=>k_is)
  (case e4_NoCurve=>k_is)
  (case e5_NoCurve=>k_is)
  (case e6_NoCurve=>rfl)
  (case k_NoPaper_TooFew=>rfl)
  (case k_NoPaper_NoCurve=>rfl)
  (case k_NoPaper_NoPaper=>rfl)
  (case k_NoPaper_NoPlace=>rfl)
  (case k_NoPaper_NoNumber=>rfl)
  (case k_NoPaper_Heard=>rfl)
  (case k_NoPaper_NotHeard=>rfl)
  (case k_NoPaper_NothingLeft=>rfl)
  (case k_NoPaper_NoText=>rfl)
  (case k_NoPaper_NoRow=>rfl)
  (case v_NoPaper=>rfl)
  (case s_NoPaper=>rfl)
  (case e1_NoPaper=>k_is)
  (case e2_NoPaper=>k_is)
  (case e3_NoPaper=>k_is)
  (case e4_NoPaper=>k_is)
  (case e5_NoPaper=>k_is)
  (case e6_NoPaper=>rfl)
  (case sb=>k_is)
  (case al=>k_is)
  (case ll=>k_is)
  (case cl=>k_is)
  (case kl=>k_is)
  (case z_len=>k_is)
  (case z_range=>k_is)
  (case z_list=>k_is)
  (case z_tuple=>k_is)
  (case z_min=>k_is)
  (case z_max=>k_is)
  (case z_int=>k_is)
  (case z_bool=>k_is)
  (case z_isinstance=>k_is)
  (case z_zip=>k_is)
  (case z_enumerate=>k_is)
  (case z_sum=>k_is)
  (case z_dict=>k_is)
  (case z_reversed=>k_is)
  (case z_all=>k_is)
  (case z_ValueError=>k_is)
  (case y_MOST_PAPER_WEIGHT=>k_is)
  (case x_MOST_PAPER_WEIGHT=>exact⟨_,rfl⟩)
#print axioms PySem.Challenge.cw_slipcurve_k17_papers_found_holds
end