import PyProof.Rows.All
import Wide.All
import OpenK.AllK
import Wide.FinOn
import Lean
import PyProof.EqAt
import PyProof.EqKinds
import KE.KDictOf
import PyProof.AttrMissHeap
import PyProof.Rows.MinMaxN
import PyProof.ListMulRoad
import KE.KUnpackStar
import KE.KIntText
import PyProof.CallStr
import KE.KDictSum
import KE.KSortTup
import PyProof.Walk
import PyProof.Rows.SortRuns
import PyProof.Rows.ChunkEnd
import PyProof.Rows.Range3
import PyProof.Rows.SeqGen
import PyProof.ConsumeWalk
import PyProof.ListRange
import PyProof.NeKinds
import PyProof.TupleCall
import PySem.Challenge.RW_slipcurve_k11_whole_least_curves
local macro_rules | `(tactic| trivial)=>`(tactic| first | exact .inl rfl | exact .inr rfl | assumption)
set_option Elab.async false
set_option linter.all false
set_option maxRecDepth 100000
namespace L2
open PySem PySem.Spec PyProof.Rows
abbrev Key:=Sum Int Str
def zei:Key→Value→Bool
 | .inl k,v=>Value.isInt k v
 | .inr x,v=>Value.isStrOf x v
def zmg (w:World):Key→Int
 | .inl k=>hashInt k
 | .inr x=>hashStr w x
theorem zag:∀ {k:Key} {v:Value},zei k v=true→(∃ i t,k=Sum.inl i∧v=Value.int i t)∨(∃ x t,k=Sum.inr x∧v=Value.str x t)
 | .inl i,v,h=>by
  obtain⟨t,e⟩:=Value.isInt_shape (k:=i) (v:=v) h
  exact .inl ⟨i,t,rfl,e⟩
 | .inr x,v,h=>by
  obtain⟨t,e⟩:=Value.isStrOf_shape (x:=x) (v:=v) h
  exact .inr ⟨x,t,rfl,e⟩
theorem zhs (i:Int) (t:Tok):zei (.inl i) (.int i t)=true:=by simp [zei,Value.isInt]
theorem zht (x:Str) (t:Tok):zei (.inr x) (.str x t)=true:=by simp [zei,Value.isStrOf]
theorem zkQ (a b:Int):decide ((Sum.inl a:Key)=Sum.inl b)=(a == b):=by
 by_cases e:a=b
 ·subst e; simp
 ·have h:¬ (Sum.inl a:Key)=Sum.inl b:=fun q=>e (Sum.inl.inj q)
  rw [decide_eq_false h]
  exact (beq_eq_false_iff_ne.mpr e).symm
theorem zkR (a b:Str):decide ((Sum.inr a:Key)=Sum.inr b)=decide (a=b):=by
 by_cases e:a=b
 ·subst e; simp
 ·have h:¬ (Sum.inr a:Key)=Sum.inr b:=fun q=>e (Sum.inr.inj q)
  rw [decide_eq_false h,decide_eq_false e]
theorem zkS (a:Int) (b:Str):decide ((Sum.inl a:Key)=Sum.inr b)=false:=decide_eq_false (fun q=>nomatch q)
theorem zkT (a:Str) (b:Int):decide ((Sum.inr a:Key)=Sum.inl b)=false:=decide_eq_false (fun q=>nomatch q)
def zan (prog:Program) (w:World):PySem.KeyKind prog w Key where
 is:=zei
 hash:=zmg w
 inj:=fun v a b ha hb=>by
  rcases zag ha with ⟨i,t,rfl,rfl⟩ | ⟨x,t,rfl,rfl⟩
  ·rcases zag hb with ⟨j,u,rfl,e⟩ | ⟨y,u,rfl,e⟩
   ·injection e with e1 _; rw [e1]
   ·exact nomatch e
  ·rcases zag hb with ⟨j,u,rfl,e⟩ | ⟨y,u,rfl,e⟩
   ·exact nomatch e
   ·injection e with e1 _; rw [e1]
 byValue:=fun k v h=>by
  rcases zag h with ⟨i,t,rfl,rfl⟩ | ⟨x,t,rfl,rfl⟩ <;> rfl
 pyHash:=fun hv h=>by
  rcases zag hv with ⟨i,t,rfl,rfl⟩ | ⟨x,t,rfl,rfl⟩
  ·exact wpAny_pyHash_int h
  ·exact wpAny_pyHash_str h
 eqBool:=fun hu hv h=>by
  rcases zag hu with ⟨i,t,rfl,rfl⟩ | ⟨x,t,rfl,rfl⟩
  ·rcases zag hv with ⟨j,u,rfl,rfl⟩ | ⟨y,u,rfl,rfl⟩
   ·rw [zkQ] at h; exact wpAny_eqBool_int h
   ·rw [zkS] at h; exact SeqAt.EqAt.int_str i t y u _ _ _ _ h
  ·rcases zag hv with ⟨j,u,rfl,rfl⟩ | ⟨y,u,rfl,rfl⟩
   ·rw [zkT] at h; exact SeqAt.EqAt.str_int x t j u _ _ _ _ h
   ·rw [zkR] at h; exact wpAny_eqBool_str h
 «strs»:=fun k x t v h=>by
  rcases zag h with ⟨i,u,rfl,e⟩ | ⟨y,u,rfl,e⟩
  ·exact nomatch e
  ·injection e with e1 _
   subst e1
   cases v <;> rfl
theorem zfo (prog:Program) (w:World) (i:Int) (t:Tok):(zan prog w).is (.inl i) (.int i t)=true:=zhs i t
theorem zfp (prog:Program) (w:World) (x:Str) (t:Tok):(zan prog w).is (.inr x) (.str x t)=true:=zht x t
end L2
namespace L2
open PySem PySem.Spec PyProof.Rows
inductive V where
 | non | bl (b:Bool) | int (i:Int) | str (x:Str) | byt (b:Array UInt8) | flt (b:UInt64) | ref (a:Addr) | ty (n:String)
 deriving DecidableEq
def RelV:V→Value→Prop
 | .non,u=>u=Value.none
 | .bl b,u=>u=Value.bool b
 | .int i,u=>∃ t,u=Value.int i t
 | .str x,u=>∃ t,u=Value.str x t
 | .byt b,u=>∃ t,u=Value.bytes b t
 | .flt b,u=>∃ t,u=Value.float b t
 | .ref a,u=>u=Value.ref a
 | .ty n,u=>u=Value.type n
abbrev zE:List V→List Value→Prop:=Paired RelV
theorem zE.length {xs:List V} {us:List Value} (r:zE xs us):xs.length=us.length:=Paired.length r
theorem zE.get:∀ {xs:List V} {us:List Value} {i:Nat} {x:V},zE xs us→xs[i]? = some x→∃ u,us[i]? = some u∧RelV x u
 | _,_,_,_,.nil,e=>by simp at e
 | _,_,0,_,.cons r _,e=>by simp at e; subst e; exact⟨_,rfl,r⟩
 | _,_,i+1,x,.cons _ t,e=>by
  obtain⟨u,h1,h2⟩:=zE.get (i:=i) (x:=x) t (by simpa using e)
  exact⟨u,by simpa using h1,h2⟩
theorem zE.set {x:V} {u:Value} (r:RelV x u):∀ {xs:List V} {us:List Value} (i:Nat),zE xs us→zE (xs.set i x) (us.set i u)
 | _,_,_,.nil=>.nil
 | _,_,0,.cons _ t=>.cons r t
 | _,_,i+1,.cons q t=>.cons q (zE.set r i t)
theorem zE.append:∀ {xs ys:List V} {us ws:List Value},zE xs us→zE ys ws→zE (xs++ys) (us++ws)
 | _,_,_,_,.nil,s=>s
 | _,_,_,_,.cons r t,s=>.cons r (zE.append t s)
theorem zE.take:∀ {xs:List V} {us:List Value} (n:Nat),zE xs us→zE (xs.take n) (us.take n)
 | _,_,0,_=>.nil
 | _,_,_+1,.nil=>.nil
 | _,_,n+1,.cons r t=>.cons r (zE.take n t)
theorem zE.drop:∀ {xs:List V} {us:List Value} (n:Nat),zE xs us→zE (xs.drop n) (us.drop n)
 | _,_,0,r=>r
 | _,_,_+1,.nil=>.nil
 | _,_,n+1,.cons _ t=>zE.drop n t
def zeJ:Option V→Option Value→Prop
 | some v,some u=>RelV v u
 | none,none=>True
 | _,_=>False
def KV {κ:Type}:List (κ×V)→List (κ×Value)→Prop:=Paired fun (p:κ×V) (q:κ×Value)=>p.1=q.1∧RelV p.2 q.2
def kV:Key→V
 | .inl i=>.int i
 | .inr x=>.str x
inductive HO where
 | lst (xs:List V)
 | tup (xs:List V)
 | dK (kvs:List (Key×V)) | dT (kvs:List (List Key×V))
 | set (S:Int→Bool) (n:Nat)
 | ins (C dx:Addr) (fs:List (Str×V))
 | own (x:Addr)
 | xd (fs:List (Str×V))
 | met (f x:Addr)
 | rng (lo hi:Int)
 | frz (o:Obj) (u:HO)
 | tbl (ps:Array Value)
 | ext (φ:Heap→Prop)
abbrev Hp:=Addr→Option HO
def upd (H:Hp) (a:Addr) (o:HO):Hp:=fun b=>if b=a then some o else H b
theorem zc {H:Hp} {a:Addr} {o:HO}:upd H a o a=some o:=by unfold upd; rw [if_pos rfl]
theorem zl {H:Hp} {a b:Addr} {o:HO} (h:b≠a):upd H a o b=H b:=by unfold upd; rw [if_neg h]
theorem zgU {H:Hp} {a:Addr} {o u:HO}:upd (upd H a o) a u=upd H a u:=by
 funext b; unfold upd; split <;> rfl
theorem zlH {H:Hp} {a b:Addr} {o u:HO} (h:H a=some o) (h':H b=some u) (d:o≠u):a≠b:=by
 intro e; subst e; rw [h] at h'; exact d (Option.some.inj h')
theorem zp {H:Hp} {a b:Addr} {o:HO} (h:H a=some o) (h':H b=none):a≠b:=by
 intro e; subst e; rw [h] at h'; cases h'
section
variable (P:Program) (w:World)
def z7 (H:Hp) (h:Heap) (a:Addr):HO→Prop
 | .lst xs=>xs.length≤sizeLine∧∃ (its:List Value) (n:Nat),zE xs its∧h.get? a=some { cls:=.type "list",data:=.seq its.toArray n }
 | .tup xs=>xs.length≤sizeLine∧∃ its:List Value,zE xs its∧IsTup h a its.toArray
 | .dK kvs=>kvs.length≤sizeLine∧(a == sysModules)=false∧∃ vs,KV kvs vs∧h.DictOf (zan P w) a vs
 | .dT kvs=>kvs.length≤sizeLine∧(a == sysModules)=false∧∃ xs:List (List Key×Addr×Value),
   Paired (fun (p:List Key×V) (q:List Key×Addr×Value)=>p.1=q.1∧H q.2.1=some (.tup (p.1.map kV))∧RelV p.2 q.2.2) kvs xs ∧
   ∃ o es ep,h.get? a=some o∧o.ExactDict∧o.data = .dict es ep∧es.toList=xs.map (entryOfKey (tupleKind (zan P w)))∧(xs.map (·.1)).Nodup
 | .set S n=>h.SetOf (intKind P w) a S n
 | .ins C dx fs=>H dx=some (.own a)∧fs.length≤1000∧dx≠a∧h.get? a=some (PySem.W.instObj C dx) ∧
   ∃ mA,h.Ns1 dx mA∧(∀ f,zeJ (fs.lookup f) (mA f))∧PySem.Within mA (fs.map (·.1))
 | .own _=>∃ o,h.get? a=some o
 | .xd fs=>∃ mA,h.Ns1 a mA∧∀ f,zeJ (fs.lookup f) (mA f)
 | .rng lo hi=>∃ t u v,h.get? a=some { cls:=.type "range",data:=.fields #[.int lo t,.int hi u,.int 1 v] }
 | .frz o u=>h.get? a=some o∧z7 H h a u
 | .tbl ps=>h.get? a=some { cls:=.none,data:=.fields ps }
 | .met f x=>h.get? a=some (PySem.W.methodObj (.ref f) (.ref x))
 | .ext φ=>φ h∧(∃ o,h.get? a=some o)∧∀ h1 h2:Heap,φ h1→(∀ o,h1.get? a=some o→h2.get? a=some o)→φ h2
def HOk (H:Hp) (h:Heap):Prop:=∀ a o,H a=some o→z7 P w H h a o
end
section
variable {P:Program} {w:World} {H H':Hp} {h h':Heap} {a:Addr} {o:HO}
theorem z7.lt (x:z7 P w H h a o):a < h.objs.size:=by
 cases o with
 | lst xs=>obtain⟨_,_,_,_,e⟩:=x; exact Heap.lt_size e
 | tup xs=>obtain⟨_,_,_,p⟩:=x; exact p.lt
 | dK kvs=>obtain⟨_,_,_,_,o,_,_,e,_⟩:=x; exact Heap.lt_size e
 | dT kvs=>obtain⟨_,_,_,_,o,_,_,e,_⟩:=x; exact Heap.lt_size e
 | set S n=>obtain⟨o,_,_,_,e,_⟩:=x; exact Heap.lt_size e
 | ins C dx fs=>obtain⟨_,_,_,e,_⟩:=x; exact Heap.lt_size e
 | own y=>obtain⟨_,e⟩:=x; exact Heap.lt_size e
 | xd fs=>obtain⟨_,⟨_,_,_,e,_⟩,_⟩:=x; exact Heap.lt_size e
 | rng lo hi=>obtain⟨_,_,_,e⟩:=x; exact Heap.lt_size e
 | frz ob u=>obtain⟨e,_⟩:=x; exact Heap.lt_size e
 | tbl ps=>exact Heap.lt_size (show h.get? a=some _ from x)
 | met f y=>exact Heap.lt_size (show h.get? a=some _ from x)
 | ext φ=>obtain⟨_,⟨_,e⟩,_⟩:=x; exact Heap.lt_size e
theorem Paired.mapP {α β:Type} {F G:α→β→Prop}:∀ {l₁:List α} {l₂:List β},Paired F l₁ l₂→(∀ a b,F a b→G a b)→Paired G l₁ l₂
 | _,_,.nil,_=>.nil
 | _,_,.cons r t,f=>.cons (f _ _ r) (Paired.mapP t f)
theorem z7.stay (x:z7 P w H h a o) (k:∀ b u,(b=a∨H b=some (.own a))→h.get? b=some u→h'.get? b=some u)
  (ho:∀ b,H b=some (.own a)→H' b=some (.own a)) (ht:∀ b xs,H b=some (.tup xs)→H' b=some (.tup xs)):z7 P w H' h' a o:=by
 induction o with
 | lst xs=>obtain⟨z,its,n,r,e⟩:=x; exact⟨z,its,n,r,k _ _ (.inl rfl) e⟩
 | tup xs=>obtain⟨z,its,r,ob,e,c⟩:=x; exact⟨z,its,r,ob,k _ _ (.inl rfl) e,c⟩
 | dK kvs=>obtain⟨z,y,vs,r,ob,es,ep,e,c⟩:=x; exact⟨z,y,vs,r,ob,es,ep,k _ _ (.inl rfl) e,c⟩
 | dT kvs =>
  obtain⟨z,y,xs,r,ob,es,ep,e,c⟩:=x
  exact⟨z,y,xs,Paired.mapP r fun p q z=>⟨z.1,ht _ _ z.2.1,z.2.2⟩,ob,es,ep,k _ _ (.inl rfl) e,c⟩
 | set S n=>obtain⟨ob,es,ep,t,e,c⟩:=x; exact⟨ob,es,ep,t,k _ _ (.inl rfl) e,c⟩
 | ins C dx fs =>
  obtain⟨d,z,ne,e,mA,⟨od,es,ep,e2,c⟩,r⟩:=x
  exact⟨ho _ d,z,ne,k _ _ (.inl rfl) e,mA,⟨od,es,ep,k _ _ (.inr d) e2,c⟩,r⟩
 | own y=>obtain⟨ob,e⟩:=x; exact⟨ob,k _ _ (.inl rfl) e⟩
 | xd fs=>obtain⟨mA,⟨od,es,ep,e,c⟩,r⟩:=x; exact⟨mA,⟨od,es,ep,k _ _ (.inl rfl) e,c⟩,r⟩
 | rng lo hi=>obtain⟨t,u,v,e⟩:=x; exact⟨t,u,v,k _ _ (.inl rfl) e⟩
 | frz ob u ih=>obtain⟨e,q⟩:=x; exact⟨k _ _ (.inl rfl) e,ih q⟩
 | tbl ps =>
  have e:h.get? a=some { cls:=.none,data:=.fields ps }:=x
  show h'.get? a=some { cls:=.none,data:=.fields ps }
  exact k a _ (.inl rfl) e
 | met f y =>
  have e:h.get? a=some (PySem.W.methodObj (.ref f) (.ref y)):=x
  show h'.get? a=some (PySem.W.methodObj (.ref f) (.ref y))
  exact k a _ (.inl rfl) e
 | ext φ=>obtain⟨p,⟨o,e⟩,st⟩:=x; exact⟨st _ _ p fun o q=>k _ _ (.inl rfl) q,⟨o,k _ _ (.inl rfl) e⟩,st⟩
theorem HOk.lt (x:HOk P w H h) (e:H a=some o):a < h.objs.size:=(x a o e).lt
theorem HOk.fresh (x:HOk P w H h) (e:h.objs.size≤a):H a=none:=by
 cases q:H a with
 | none=>rfl
 | some u=>exact absurd (Nat.lt_of_lt_of_le (x.lt q) e) (Nat.lt_irrefl _)
theorem HOk.kept (x:HOk P w H h) (k:∀ b u,h.get? b=some u→h'.get? b=some u):HOk P w H h':=fun a o e =>
 (x a o e).stay (fun b u _ q=>k b u q) (fun _ q=>q) fun _ _ q=>q
theorem HOk.laid (x:HOk P w H h) (k:∀ b u,h.get? b=some u→h'.get? b=some u) (hp:h.objs.size≤a) (new:z7 P w (upd H a o) h' a o):HOk P w (upd H a o) h':=fun b u e=>by
 have hn:=x.fresh hp
 by_cases hb:b=a
 ·subst hb; rw [zc] at e; cases e; exact new
 ·rw [zl hb] at e
  exact (x b u e).stay (fun c v _ q=>k c v q) (fun c q=>by rw [zl (zp q hn)]; exact q) fun c xs q=>by rw [zl (zp q hn)]; exact q
end
def Rd (H:Hp) (a:Addr) (u:HO):Prop:=H a=some u∨∃ o,H a=some (.frz o u)
theorem Rd.ok {P:Program} {w:World} {H:Hp} {h:Heap} {a:Addr} {u:HO} (r:Rd H a u) (x:HOk P w H h):z7 P w H h a u:=by
 rcases r with r | ⟨o,r⟩
 ·exact x a u r
 ·obtain⟨_,q⟩:=x a _ r
  exact q
def Mut:Option HO→Prop
 | some (.lst _)=>True
 | some (.dK _)=>True
 | some (.dT _)=>True
 | some (.set _ _)=>True
 | some (.ins _ _ _)=>True
 | some (.ext _)=>True
 | _=>False
section
variable {P:Program} {w:World} {H:Hp} {h h':Heap} {x e:Addr} {o':HO}
theorem HOk.write (ok:HOk P w H h) (mu:Mut (H x)) (he:e=x∨H e=some (.own x)) (k:∀ b u,b≠e→h.get? b=some u→h'.get? b=some u) (heo:∃ u,h'.get? e=some u)
  (new:z7 P w (upd H x o') h' x o'):HOk P w (upd H x o') h':=fun b u q=>by
 have nown:∀ c y,H c=some (.own y)→c≠x:=fun c y r z=>by subst z; rw [r] at mu; exact mu
 have ntup:∀ c xs,H c=some (.tup xs)→c≠x:=fun c xs r z=>by subst z; rw [r] at mu; exact mu
 by_cases hb:b=x
 ·subst hb; rw [zc] at q; cases q; exact new
 ·rw [zl hb] at q
  by_cases hbe:b=e
  ·have q':H b=some (.own x):=by
    rcases he with z | z
    ·exact absurd (hbe.trans z) hb
    ·rw [hbe]; exact z
   rw [q] at q'; cases q'
   obtain⟨v,hv⟩:=heo
   exact⟨v,by rw [hbe]; exact hv⟩
  ·refine (ok b u q).stay (fun c v hc r=>k c v ?_ r) (fun c r=>by rw [zl (nown c b r)]; exact r) fun c xs r=>by rw [zl (ntup c xs r)]; exact r
   rcases hc with rfl | hc
   ·exact hbe
   ·rintro rfl
    rcases he with z | z
    ·exact nown c b hc z
    ·rw [hc] at z; cases z; exact hb rfl
end
structure Un (fs ex:List Addr) (H H':Hp) (h h':Heap):Prop where
 keep:∀ b o,h.get? b=some o→H b=none→b∉fs→b∉ex→h'.get? b=some o
 slot:∀ b o,h.get? b=some o→H b=none→b∈fs→b∉ex→∃ sl,h'.get? b=some { o with slots:=sl }
 free:∀ b o,h.get? b=some o→H b=none→b∉ex→H' b=none
 there:∀ b o,h.get? b=some o→b∉ex→∃ o',h'.get? b=some o'
 tups:∀ b xs,H b=some (.tup xs)→H' b=some (.tup xs)
 frzs:∀ b o u,H b=some (.frz o u)→H' b=some (.frz o u)
 tbls:∀ b ps,H b=some (.tbl ps)→∃ more,H' b=some (.tbl (ps++more))
section
variable {fs fs' ex ex':List Addr} {H H1 H2:Hp} {h h1 h2 h':Heap} {a x e:Addr} {o:HO}
theorem Un.any (u:Un fs ex H H1 h h1) {b:Addr} {ob:Obj} (q:h.get? b=some ob) (n:H b=none) (hx:b∉ex):∃ sl,h1.get? b=some { ob with slots:=sl }:=by
 by_cases hb:b∈fs
 ·exact u.slot b ob q n hb hx
 ·exact⟨ob.slots,u.keep b ob q n hb hx⟩
theorem Un.kept (k:∀ b u,h.get? b=some u→h'.get? b=some u):Un fs ex H H h h' :=
 ⟨fun b ob q _ _ _=>k b ob q,fun b ob q _ _ _=>⟨ob.slots,k b ob q⟩,fun _ _ _ n _=>n,fun b ob q _=>⟨ob,k b ob q⟩,fun _ _ q=>q,fun _ _ _ q=>q,fun _ ps q=>⟨#[],by rw [q]; simp⟩⟩
theorem Un.refl:Un fs ex H H h h:=Un.kept fun _ _ q=>q
theorem Un.laid (k:∀ b u,h.get? b=some u→h'.get? b=some u) (hp:h.objs.size≤a) (hn:H a=none):Un fs ex H (upd H a o) h h' where
 keep:=fun b u q _ _ _=>k b u q
 slot:=fun b u q _ _ _=>⟨u.slots,k b u q⟩
 free:=fun b u q n _=>by rw [zl (Nat.ne_of_lt (Nat.lt_of_lt_of_le (Heap.lt_size q) hp))]; exact n
 there:=fun b u q _=>⟨u,k b u q⟩
 tups:=fun b xs q=>by rw [zl (zp q hn)]; exact q
 frzs:=fun b u xs q=>by rw [zl (zp q hn)]; exact q
 tbls:=fun b ps q=>⟨#[],by rw [zl (zp q hn),q]; simp⟩
theorem Un.write (mu:Mut (H x)) (he:e=x∨H e=some (.own x)) (k:∀ b u,b≠e→h.get? b=some u→h'.get? b=some u) (heo:∃ u,h'.get? e=some u):Un fs ex H (upd H x o) h h':=by
 have hx:∀ b,H b=none→b≠x:=fun b n z=>by subst z; rw [n] at mu; exact mu
 have hb:∀ b,H b=none→b≠e:=fun b n z=>by
  subst z
  rcases he with r | r
  ·exact hx b n r
  ·rw [n] at r; cases r
 have hm:∀ b u,H b=some u→¬ Mut (some u)→b≠x:=fun b u q nm z=>by subst z; rw [q] at mu; exact nm mu
 refine⟨fun b u q n _ _=>k b u (hb b n) q,fun b u q n _ _=>⟨u.slots,k b u (hb b n) q⟩,fun b u q n _=>by rw [zl (hx b n)]; exact n,fun b u q _=>?_,
  fun b xs q=>by rw [zl (hm b _ q fun z=>z)]; exact q,fun b u xs q=>by rw [zl (hm b _ q fun z=>z)]; exact q,fun b ps q=>⟨#[],by rw [zl (hm b _ q fun z=>z),q]; simp⟩⟩
 by_cases hbe:b=e
 ·subst hbe; exact heo
 ·exact⟨u,k b u hbe q⟩
end
def trk (h:Heap) (H:Hp):List Addr:=(List.range h.objs.size).filter fun a=>(H a).isSome
def zeK (h:Heap) (H:Hp):Heap:=PySem.W.hideAll h (trk h H)
theorem zhu (h:Heap) (H:Hp):(zeK h H).objs.size=h.objs.size:=PySem.W.hideAll_size _ _
theorem zik {h:Heap} {H:Hp} {b:Addr} {o:Obj} (e:h.get? b=some o) (n:H b=none):(zeK h H).get? b=some o :=
 PySem.W.hideAll_get _ e fun hm=>by
  have q:(H b).isSome=true:=(List.mem_filter.mp hm).2
  rw [n] at q; simp at q
theorem zjK {h:Heap} {H:Hp} {b:Addr} {o:Obj} (e:(zeK h H).get? b=some o):h.get? b=some o∧H b=none:=by
 have e':h.get? b=some o:=PySem.W.of_hideAll (trk h H) e
 refine⟨e',?_⟩
 cases q:H b with
 | none=>rfl
 | some x =>
  have hm:b∈trk h H:=List.mem_filter.mpr ⟨List.mem_range.mpr (Heap.lt_size e'),by simp [q]⟩
  have z:(zeK h H).get? b=none:=PySem.W.hideAll_none (trk h H) hm
  rw [z] at e; cases e
end L2
namespace L2
open PySem PySem.Spec PyProof.Rows
structure Mod (K:PySem.W.Frag) (mg:Str→Option Value) (base:Heap):Prop where
 kin:K.In base
 glob:base.Ns mainGlobals mg
 blt:∃ mb,base.Ns builtinsNs mb∧∀ x:Str,x≠"__name__"→mb x=bootBuiltins x
 nolimit:base.NoLimit
structure Cx where
 prog:Program
 w:World
 K:PySem.W.Frag
 mg:Str→Option Value
 base:Heap
 A:Around
 N:List Str
 s₀:Shared
 H₀:Hp
 env:Env
 outer:List Env
 stack:List Env
 ex:List Addr
 fn:Str→Bool
 calm:Bool
 pn:List (Addr×Obj)
 xe:Value→Shared→Prop
def frs (l:List Env):List Addr:=l.filterMap (·.frame)
abbrev Cx.fs (X:Cx):List Addr:=frs X.outer
def Vis (sc:Scope) (x:Str):Prop:=sc.names.lookup x=some .local∨sc.names.lookup x=some .cell∨sc.names.lookup x=some .free
def Loc (sc:Scope) (x:Str):Prop:=sc.names.lookup x=some .local∨sc.names.lookup x=some .cell
def Look (env:Env) (h:Heap) (m:Str→Option Value) (x:Str) (u:Value):Prop :=
 (env.kindOf x=some .local∧m x=some u)∨((env.kindOf x=some .cell∨env.kindOf x=some .free)∧∃ c,env.cells.lookup x=some c∧h.IsCell c (some u))
structure Cx.Ok (X:Cx):Prop where
 mod:Mod X.K X.mg X.base
 kind:X.env.scope.kind = .function
 glob:X.env.globals=mainGlobals
 blt:X.env.builtins=builtinsNs
 above:X.s₀.heap.objs.size≤X.env.locals
 inj:∀ x y c,X.env.cells.lookup x=some c→X.env.cells.lookup y=some c→x=y
 has:∀ x,(X.env.kindOf x=some .cell∨X.env.kindOf x=some .free)→∃ c,X.env.cells.lookup x=some c
 cab:∀ x c,X.fn x=true→X.env.cells.lookup x=some c→X.s₀.heap.objs.size≤c
 hd:X.calm=true→X.A.handled=none
 frames:X.A.frames=some X.stack
 stk:X.stack=X.outer∨(X.stack=X.env :: X.outer∧X.env.frame=some X.env.locals)
 exf:∀ b∈X.ex,b≠X.env.locals∧∀ x c,X.env.cells.lookup x=some c→c≠b
 bs:∀ b o,X.base.get? b=some o→X.s₀.heap.get? b=some o∧X.H₀ b=none
 bsz:X.base.objs.size≤X.s₀.heap.objs.size
 noex:∀ b o,X.base.get? b=some o→b∉X.ex
 exfs:∀ b∈X.ex,b∉X.fs
 funs:X.s₀.heap.FunFrames X.base X.outer
 frf:∀ b∈X.fs,X.H₀ b=none
structure Inv (X:Cx) (pins:List (Addr×Obj)) (σ:List (Option V)) (H:Hp) (s:Shared):Prop where
 ok:X.Ok
 os:s.os=X.s₀.os
 bare:AllBare s.gens
 base:Un X.fs X.ex X.H₀ H X.s₀.heap s.heap
 loc:∃ m,s.heap.Ns X.env.locals m∧∀ (i:Nat) (x:Str) (v:V),X.N[i]? = some x→σ[i]? = some (some v)→Vis X.env.scope x→∃ u,RelV v u∧Look X.env s.heap m x u
 cell:∀ x c,X.env.cells.lookup x=some c→∃ v,s.heap.IsCell c v
 free:H X.env.locals=none
 freeC:∀ x c,X.env.cells.lookup x=some c→H c=none
 pin:∀ p∈X.pn++pins,s.heap.get? p.1=some p.2∧H p.1=none∧p.1≠X.env.locals∧p.1∉X.fs∧∀ v,p.2.data≠.cell v
 hok:HOk X.prog X.w H s.heap
 len:σ.length=X.N.length
section
variable {X:Cx} {pins:List (Addr×Obj)} {σ:List (Option V)} {H H':Hp} {s:Shared} {h':Heap}
theorem Cx.Ok.nofr (ok:X.Ok) {b:Addr} {o:Obj} (e:X.base.get? b=some o):b∉X.fs:=fun hb=>by
 have:=(ok.funs.mem hb).1
 rw [e] at this; cases this
theorem Inv.bs (I:Inv X pins σ H s):∀ b o,X.base.get? b=some o→s.heap.get? b=some o∧H b=none:=fun b o e =>
 ⟨I.base.keep b o (I.ok.bs b o e).1 (I.ok.bs b o e).2 (I.ok.nofr e) (I.ok.noex b o e),I.base.free b o (I.ok.bs b o e).1 (I.ok.bs b o e).2 (I.ok.noex b o e)⟩
theorem Inv.bk (I:Inv X pins σ H s):∀ b o,X.base.get? b=some o→s.heap.get? b=some o:=fun b o e=>(I.bs b o e).1
theorem Inv.mod (I:Inv X pins σ H s):Mod X.K X.mg X.base:=I.ok.mod
theorem Inv.kIn (I:Inv X pins σ H s):X.K.In s.heap:=I.ok.mod.kin.keeps I.bk
theorem Inv.lt (I:Inv X pins σ H s):X.env.locals < s.heap.objs.size:=let ⟨_,hn,_⟩:=I.loc; hn.lt
theorem Inv.sz (I:Inv X pins σ H s):X.s₀.heap.objs.size≤s.heap.objs.size:=Nat.le_trans I.ok.above (Nat.le_of_lt I.lt)
theorem Inv.nofs (I:Inv X pins σ H s) {a:Addr} (h:s.heap.objs.size≤a):a∉X.fs:=fun hb=>by
 obtain⟨_,o,ho,_⟩:=I.ok.funs.mem hb
 exact absurd (Nat.lt_of_lt_of_le (Heap.lt_size ho) (Nat.le_trans I.sz h)) (Nat.lt_irrefl _)
theorem Inv.cne (I:Inv X pins σ H s):∀ x c,X.env.cells.lookup x=some c→c≠X.env.locals:=fun x c e z=>by
 obtain⟨v,o,ho,hd⟩:=I.cell x c e
 obtain⟨m,⟨o',es,ep,ho',hd',_⟩,_⟩:=I.loc
 rw [z,ho'] at ho; cases ho; rw [hd'] at hd; cases hd
theorem Inv.funs (I:Inv X pins σ H s):s.heap.FunFrames X.base X.outer:=by
 have all:∀ (l:List Env),(∀ b∈frs l,b∈X.fs)→X.s₀.heap.FunFrames X.base l→s.heap.FunFrames X.base l:=by
  intro l
  induction l with
  | nil=>intro _ _; trivial
  | cons env r ih =>
   intro hs hl
   obtain⟨hk,⟨L,o,hf,hn,ho,hd⟩,hr⟩:=hl
   have hL:L∈X.fs:=hs L (by unfold frs; rw [List.filterMap_cons,hf]; exact List.mem_cons_self)
   obtain⟨sl,e⟩:=I.base.slot L o ho (I.ok.frf L hL) hL fun z=>I.ok.exfs L z hL
   exact⟨hk,⟨L,_,hf,hn,e,hd⟩,ih (fun b hb=>hs b (by unfold frs; rw [List.filterMap_cons,hf]; exact List.mem_cons_of_mem _ hb)) hr⟩
 exact all X.outer (fun _ hb=>hb) I.ok.funs
theorem Inv.stack (I:Inv X pins σ H s):s.heap.FunFrames X.base X.stack:=by
 rcases I.ok.stk with e | ⟨e,hf⟩
 ·rw [e]; exact I.funs
 ·rw [e]
  obtain⟨m,hn,_⟩:=I.loc
  refine .cons (by rw [I.ok.kind]; decide) hf hn ?_ I.funs
  exact Heap.get?_none_of_le (Nat.le_trans I.ok.bsz I.ok.above)
theorem Inv.stkSub (I:Inv X pins σ H s):∀ b∈frs X.stack,b∈X.env.locals :: X.fs:=fun b hb=>by
 rcases I.ok.stk with e | ⟨e,hf⟩
 ·rw [e] at hb; exact List.mem_cons_of_mem _ hb
 ·rw [e] at hb
  unfold frs at hb
  rw [List.filterMap_cons,hf] at hb
  exact hb
theorem Inv.stkFree (I:Inv X pins σ H s):∀ b∈frs X.stack,H b=none:=fun b hb=>by
 rcases List.mem_cons.mp (I.stkSub b hb) with e | hb
 ·rw [e]; exact I.free
 ·obtain⟨_,o,ho,_⟩:=I.ok.funs.mem hb
  exact I.base.free b o ho (I.ok.frf b hb) fun z=>I.ok.exfs b z hb
theorem Inv.step {g':Array GenState} {t':Nat} {d':Drawn} {ch:List Addr} (I:Inv X pins σ H s)
  (hch:∀ b∈ch,(b∈X.ex∨X.s₀.heap.objs.size≤b)∧b≠X.env.locals∧(∀ x c,X.env.cells.lookup x=some c→c≠b)∧∀ p∈X.pn++pins,p.1≠b)
  (keep:∀ b o,b≠X.env.locals→b∉X.fs→b∉ch→s.heap.get? b=some o→H b=none→h'.get? b=some o)
  (slot:∀ b o,b≠X.env.locals→b∈X.fs→b∉ch→s.heap.get? b=some o→H b=none→∃ sl,h'.get? b=some { o with slots:=sl }) (free:∀ b o,b∉ch→s.heap.get? b=some o→H b=none→H' b=none)
  (there:∀ b o,b∉ch→s.heap.get? b=some o→∃ o',h'.get? b=some o')
  (tups:∀ b xs,H b=some (.tup xs)→H' b=some (.tup xs)) (frzs:∀ b o u,H b=some (.frz o u)→H' b=some (.frz o u)) (tbls:∀ b ps,H b=some (.tbl ps)→∃ more,H' b=some (.tbl (ps++more)))
  (ns:∀ m,s.heap.Ns X.env.locals m→h'.Ns X.env.locals m) (hok:HOk X.prog X.w H' h') (hg:AllBare g') :
  Inv X pins σ H' { s with heap:=h',gens:=g',drawn:=d',toks:=t' }:=by
 have neL:∀ b o,X.s₀.heap.get? b=some o→b≠X.env.locals:=fun b o e=>Nat.ne_of_lt (Nat.lt_of_lt_of_le (Heap.lt_size e) I.ok.above)
 have neC:∀ b o,X.s₀.heap.get? b=some o→b∉X.ex→b∉ch:=fun b o e hx hb=>by
  rcases (hch b hb).1 with z | z
  ·exact hx z
  ·exact absurd (Nat.lt_of_lt_of_le (Heap.lt_size e) z) (Nat.lt_irrefl _)
 have cellK:∀ x c,X.env.cells.lookup x=some c→∀ v,s.heap.IsCell c v→h'.IsCell c v:=fun x c e v ⟨o,ho,hd⟩=>by
  have nch:c∉ch:=fun z=>(hch c z).2.2.1 x c e rfl
  by_cases hc:c∈X.fs
  ·obtain⟨sl,q⟩:=slot c o (I.cne x c e) hc nch ho (I.freeC x c e)
   exact⟨_,q,hd⟩
  ·exact⟨o,keep c o (I.cne x c e) hc nch ho (I.freeC x c e),hd⟩
 refine⟨I.ok,I.os,hg,⟨fun b o e n hb hx=>?_,fun b o e n hb hx=>?_,fun b o e n hx=>?_,fun b o e hx=>?_,fun b xs e=>tups b xs (I.base.tups b xs e),fun b o xs e=>frzs b o xs (I.base.frzs b o xs e),fun b ps e=>?_⟩,?_,fun x c e=>?_,?_,fun x c e=>?_,fun p hp=>?_,hok,I.len⟩
 ·exact keep b o (neL b o e) hb (neC b o e hx) (I.base.keep b o e n hb hx) (I.base.free b o e n hx)
 ·obtain⟨sl,e1⟩:=I.base.slot b o e n hb hx
  obtain⟨sl',e2⟩:=slot b _ (neL b o e) hb (neC b o e hx) e1 (I.base.free b o e n hx)
  exact⟨sl',e2⟩
 ·obtain⟨o',e1⟩:=I.base.there b o e hx
  exact free b o' (neC b o e hx) e1 (I.base.free b o e n hx)
 ·obtain⟨o',e1⟩:=I.base.there b o e hx
  exact there b o' (neC b o e hx) e1
 ·obtain⟨m1,e1⟩:=I.base.tbls b ps e
  obtain⟨m2,e2⟩:=tbls b _ e1
  exact⟨m1++m2,by rw [e2,Array.append_assoc]⟩
 ·obtain⟨m,hn,hl⟩:=I.loc
  refine⟨m,ns m hn,fun i x v e1 e2 e3=>?_⟩
  obtain⟨u,r,l⟩:=hl i x v e1 e2 e3
  refine⟨u,r,?_⟩
  rcases l with l | ⟨k,c,e,z⟩
  ·exact .inl l
  ·exact .inr ⟨k,c,e,cellK x c e _ z⟩
 ·obtain⟨v,z⟩:=I.cell x c e
  exact⟨v,cellK x c e v z⟩
 ·obtain⟨m,⟨o,_,_,ho,_⟩,_⟩:=I.loc
  exact free _ o (fun z=>(hch _ z).2.1 rfl) ho I.free
 ·obtain⟨v,o,ho,hd⟩:=I.cell x c e
  exact free c o (fun z=>(hch c z).2.2.1 x c e rfl) ho (I.freeC x c e)
 ·obtain⟨e,n,ne,nf,d⟩:=I.pin p hp
  have nch:p.1∉ch:=fun z=>(hch p.1 z).2.2.2 p hp rfl
  exact⟨keep p.1 p.2 ne nf nch e n,free p.1 p.2 nch e n,ne,nf,d⟩
theorem Inv.un {t':Nat} (I:Inv X pins σ H s) (u:Un X.fs [] H H' s.heap h') (hok:HOk X.prog X.w H' h'):Inv X pins σ H' { s with heap:=h',toks:=t' }:=by
 obtain⟨m,⟨o,es,ep,ho,r⟩,_⟩:=id I.loc
 obtain⟨sl,hL⟩:=u.any ho I.free (by simp)
 exact I.step (g':=s.gens) (d':=s.drawn) (ch:=[]) (fun _ z=>nomatch z) (fun b o _ hb _ e n=>u.keep b o e n hb (by simp)) (fun b o _ hb _ e n=>u.slot b o e n hb (by simp)) (fun b o _ e n=>u.free b o e n (by simp)) (fun b o _ e=>u.there b o e (by simp)) u.tups u.frzs u.tbls (fun m' hm=>by
  obtain⟨o',es',ep',ho',r'⟩:=hm
  rw [ho] at ho'; cases ho'
  exact⟨_,es',ep',hL,r'⟩) hok I.bare
theorem Inv.call {g':Array GenState} {t':Nat} {d':Drawn} {ch:List Addr} (I:Inv X pins σ H s) (u:Un (frs X.stack) ch H H' s.heap h') (hok:HOk X.prog X.w H' h') (hg:AllBare g')
  (hch:∀ b∈ch,(b∈X.ex∨X.s₀.heap.objs.size≤b)∧b≠X.env.locals∧(∀ x c,X.env.cells.lookup x=some c→c≠b)∧∀ p∈X.pn++pins,p.1≠b) :
  Inv X pins σ H' { s with heap:=h',gens:=g',drawn:=d',toks:=t' }:=by
 obtain⟨m,⟨o,es,ep,ho,r⟩,_⟩:=id I.loc
 obtain⟨sl,hL⟩:=u.any ho I.free fun z=>(hch _ z).2.1 rfl
 exact I.step (ch:=ch) hch (fun b o hL hb hc e n=>u.keep b o e n (fun z=>(List.mem_cons.mp (I.stkSub b z)).elim hL hb) hc) (fun b o _ _ hc e n=>u.any e n hc) (fun b o hc e n=>u.free b o e n hc) (fun b o hc e=>u.there b o e hc) u.tups u.frzs u.tbls (fun m' hm=>by
  obtain⟨o',es',ep',ho',r'⟩:=hm
  rw [ho] at ho'; cases ho'
  exact⟨_,es',ep',hL,r'⟩) hok hg
theorem Inv.turned {t':Nat} {it:Addr} (I:Inv X pins σ H s) (k:∀ b o,b≠it→s.heap.get? b=some o→h'.get? b=some o) (hn:H it=none) (hL:it≠X.env.locals)
  (h1:it∈X.ex∨X.s₀.heap.objs.size≤it) (h2:∀ x c,X.env.cells.lookup x=some c→c≠it) (h3:∀ p∈X.pn++pins,p.1≠it):Inv X pins σ H { s with heap:=h',toks:=t' }:=by
 have nit:∀ b u,H b=some u→b≠it:=fun b u e z=>by rw [z,hn] at e; cases e
 refine I.step (g':=s.gens) (d':=s.drawn) (ch:=[it]) (fun b hb=>?_) (fun b o _ _ hc e _=>k b o (fun z=>hc (by simp [z])) e) (fun b o _ _ hc e _=>⟨o.slots,k b o (fun z=>hc (by simp [z])) e⟩) (fun _ _ _ _ n=>n)
  (fun b o hc e=>⟨o,k b o (fun z=>hc (by simp [z])) e⟩) (fun _ _ e=>e) (fun _ _ _ e=>e) (fun b ps e=>⟨#[],by rw [e]; simp⟩) (fun m hm=>?_) (fun b u e=>?_) I.bare
 ·have e:b=it:=by simpa using hb
  subst e
  exact⟨h1,hL,h2,h3⟩
 ·obtain⟨o,es,ep,ho,r⟩:=hm
  exact⟨o,es,ep,k _ o (Ne.symm hL) ho,r⟩
 ·refine (I.hok b u e).stay (fun c v hc q=>k c v ?_ q) (fun _ q=>q) fun _ _ q=>q
  rcases hc with z | z
  ·rw [z]; exact nit b u e
  ·exact nit c _ z
theorem Inv.tok (I:Inv X pins σ H s) (t:Nat):Inv X pins σ H { s with toks:=t }:=I.un (h':=s.heap) (t':=t) Un.refl I.hok
theorem Inv.kept {t':Nat} (I:Inv X pins σ H s) (k:∀ b u,s.heap.get? b=some u→h'.get? b=some u):Inv X pins σ H { s with heap:=h',toks:=t' }:=I.un (Un.kept k) (I.hok.kept k)
theorem Inv.laid {a:Addr} {o:HO} {t':Nat} (I:Inv X pins σ H s) (k:∀ b u,s.heap.get? b=some u→h'.get? b=some u) (hp:s.heap.objs.size≤a) (new:z7 X.prog X.w (upd H a o) h' a o) :
  Inv X pins σ (upd H a o) { s with heap:=h',toks:=t' }:=I.un (Un.laid k hp (I.hok.fresh hp)) (I.hok.laid k hp new)
theorem Inv.write {x e:Addr} {o:HO} {t':Nat} (I:Inv X pins σ H s) (mu:Mut (H x)) (he:e=x∨H e=some (.own x)) (k:∀ b u,b≠e→s.heap.get? b=some u→h'.get? b=some u) (heo:∃ u,h'.get? e=some u)
  (new:z7 X.prog X.w (upd H x o) h' x o):Inv X pins σ (upd H x o) { s with heap:=h',toks:=t' }:=I.un (Un.write mu he k heo) (I.hok.write mu he k heo new)
theorem Inv.weak {σ':List (Option V)} (I:Inv X pins σ H s) (hl:σ'.length=σ.length) (w:∀ (i:Nat) v,σ'[i]? = some (some v)→σ[i]? = some (some v)):Inv X pins σ' H s :=
 ⟨I.ok,I.os,I.bare,I.base,let ⟨m,hn,hl'⟩:=I.loc; ⟨m,hn,fun i x v e1 e2 e3=>hl' i x v e1 (w i v e2) e3⟩,I.cell,I.free,I.freeC,I.pin,I.hok,hl.trans I.len⟩
theorem Inv.pins_of {pins':List (Addr×Obj)} (I:Inv X pins σ H s) (h:∀ p∈pins',s.heap.get? p.1=some p.2∧H p.1=none∧p.1≠X.env.locals∧p.1∉X.fs∧∀ v,p.2.data≠.cell v):Inv X pins' σ H s :=
 ⟨I.ok,I.os,I.bare,I.base,I.loc,I.cell,I.free,I.freeC,fun p hp=>(List.mem_append.mp hp).elim (fun z=>I.pin p (List.mem_append_left _ z)) (h p),I.hok,I.len⟩
theorem zdC {N:List Str} (hN:N.Nodup) {i j:Nat} {x:Str} (a:N[i]? = some x) (b:N[j]? = some x):i=j:=by
 obtain⟨h1,e1⟩:=List.getElem?_eq_some_iff.mp a
 obtain⟨h2,e2⟩:=List.getElem?_eq_some_iff.mp b
 exact (List.getElem_inj hN).mp (e1.trans e2.symm)
theorem zej {M:Model} {A:Around} {E:Value→Shared→Prop} {i:Nat} {x:Str} {v:V} {u:Value} {Q:Unit→Shared→Prop} (I:Inv X pins σ H s) (hN:X.N.Nodup) (hi:X.N[i]? = some x) (hx:Loc X.env.scope x) (r:RelV v u)
  (h:∀ s',Inv X pins (σ.set i (some v)) H s'→(∃ a,Heap.SameBut a s.heap s'.heap∧(a=X.env.locals∨X.env.cells.lookup x=some a))→Q () s') (hf:X.fn x=true∨X.env.scope.names.lookup x=some .local:=by first | exact .inl rfl | exact .inr rfl | assumption):wpAny M A (storeName X.env x u) Q E s:=by
 obtain⟨m,hn,hl⟩:=id I.loc
 have hcls:(X.env.scope.kind == .class || (X.env.scope.kind == .module && X.env.locals != X.env.globals))=false:=by rw [I.ok.kind]; rfl
 have hiσ:i < σ.length:=by rw [I.len]; exact (List.getElem?_eq_some_iff.mp hi).1
 have cne:=I.cne
 have tracked:∀ {a:Addr} {h':Heap},(∃ o,s.heap.get? a=some o∧H a=none)→Heap.SameBut a s.heap h'→HOk X.prog X.w H h':=fun {a h'} ha hs b ob e=>by
  obtain⟨_,_,hfree⟩:=ha
  refine (I.hok b ob e).stay (fun c w' hc q=>(hs.2 c ?_).trans q) (fun _ q=>q) fun _ _ q=>q
  rintro rfl
  rcases hc with rfl | hc
  ·rw [hfree] at e; cases e
  ·rw [hfree] at hc; cases hc
 rcases hx with hk | hk
 ·refine wpAny_storeName_local hk hn (fun h' hn' hs=>?_) hcls
  obtain⟨oL,_,_,hoL,_⟩:=id hn
  refine h _ ⟨I.ok,I.os,I.bare,⟨fun b o e n hb hx=>?_,fun b o e n hb hx=>?_,I.base.free,fun b o e hx=>?_,I.base.tups,I.base.frzs,I.base.tbls⟩,⟨_,hn',fun j y v' e1 e2 e3=>?_⟩,fun y c e=>?_,I.free,I.freeC,fun p hp=>?_,tracked ⟨oL,hoL,I.free⟩ hs,by simpa using I.len⟩ ⟨_,hs,.inl rfl⟩
  ·exact (hs.2 b (Nat.ne_of_lt (Nat.lt_of_lt_of_le (Heap.lt_size e) I.ok.above))).trans (I.base.keep b o e n hb hx)
  ·obtain⟨sl,e1⟩:=I.base.slot b o e n hb hx
   exact⟨sl,(hs.2 b (Nat.ne_of_lt (Nat.lt_of_lt_of_le (Heap.lt_size e) I.ok.above))).trans e1⟩
  ·obtain⟨o',e1⟩:=I.base.there b o e hx
   exact⟨o',(hs.2 b (Nat.ne_of_lt (Nat.lt_of_lt_of_le (Heap.lt_size e) I.ok.above))).trans e1⟩
  ·by_cases hj:j=i
   ·subst hj
    rw [hi] at e1; cases e1
    rw [List.getElem?_set_self hiσ] at e2
    cases e2
    exact⟨u,r,.inl ⟨hk,by simp⟩⟩
   ·rw [List.getElem?_set_ne (Ne.symm hj)] at e2
    obtain⟨u',r',q⟩:=hl j y v' e1 e2 e3
    refine⟨u',r',?_⟩
    rcases q with ⟨k,e⟩ | ⟨k,c,e,z⟩
    ·refine .inl ⟨k,?_⟩
     have:y≠x:=fun e=>hj (zdC hN e1 (e ▸ hi))
     simp [this,e]
    ·exact .inr ⟨k,c,e,z.sameBut hs (cne y c e)⟩
  ·obtain⟨w',z⟩:=I.cell y c e
   exact⟨w',z.sameBut hs (cne y c e)⟩
  ·obtain⟨e,n,ne,nf,d⟩:=I.pin p hp
   exact⟨(hs.2 p.1 ne).trans e,n,ne,nf,d⟩
 ·have hfn:X.fn x=true:=by
   rcases hf with z | z
   ·exact z
   ·rw [z] at hk; cases hk
  obtain⟨c,hc⟩:=I.ok.has x (.inl hk)
  obtain⟨w',z⟩:=I.cell x c hc
  refine wpAny_storeName_cell I.ok.kind hk hc z (fun h' hc' hs=>?_)
  obtain⟨oc,hoc,hocd⟩:=id z
  refine h { s with heap:=h' } ⟨I.ok,I.os,I.bare,⟨fun b o e n hb hx=>?_,fun b o e n hb hx=>?_,I.base.free,fun b o e hx=>?_,I.base.tups,I.base.frzs,I.base.tbls⟩,⟨m,hn.sameBut hs (Ne.symm (cne x c hc)),fun j y v' e1 e2 e3=>?_⟩,fun y c' e=>?_,I.free,I.freeC,fun p hp=>?_,tracked ⟨oc,hoc,I.freeC x c hc⟩ hs,by simpa using I.len⟩ ⟨c,hs,.inr hc⟩
  ·exact (hs.2 b (Nat.ne_of_lt (Nat.lt_of_lt_of_le (Heap.lt_size e) (I.ok.cab x c hfn hc)))).trans (I.base.keep b o e n hb hx)
  ·obtain⟨sl,e1⟩:=I.base.slot b o e n hb hx
   exact⟨sl,(hs.2 b (Nat.ne_of_lt (Nat.lt_of_lt_of_le (Heap.lt_size e) (I.ok.cab x c hfn hc)))).trans e1⟩
  ·obtain⟨o',e1⟩:=I.base.there b o e hx
   exact⟨o',(hs.2 b (Nat.ne_of_lt (Nat.lt_of_lt_of_le (Heap.lt_size e) (I.ok.cab x c hfn hc)))).trans e1⟩
  ·by_cases hj:j=i
   ·subst hj
    rw [hi] at e1; cases e1
    rw [List.getElem?_set_self hiσ] at e2
    cases e2
    exact⟨u,r,.inr ⟨.inl hk,c,hc,hc'⟩⟩
   ·rw [List.getElem?_set_ne (Ne.symm hj)] at e2
    obtain⟨u',r',q⟩:=hl j y v' e1 e2 e3
    refine⟨u',r',?_⟩
    rcases q with q | ⟨k,c',e,z'⟩
    ·exact .inl q
    ·refine .inr ⟨k,c',e,z'.sameBut hs ?_⟩
     rintro rfl
     exact hj (zdC hN e1 (I.ok.inj _ _ _ e hc ▸ hi))
  ·by_cases hcc:c'=c
   ·subst hcc; exact⟨_,hc'⟩
   ·obtain⟨w2,z2⟩:=I.cell y c' e
    exact⟨w2,z2.sameBut hs hcc⟩
  ·obtain⟨e,n,ne,nf,d⟩:=I.pin p hp
   refine⟨(hs.2 p.1 ?_).trans e,n,ne,nf,d⟩
   intro q
   rw [q,hoc] at e
   have q':oc=p.2:=Option.some.inj e
   exact d w' (by rw [← q']; exact hocd)
theorem zbE {M:Model} {A:Around} {E:Value→Shared→Prop} {i:Nat} {x:Str} {v:V} {u:Value} {Q:Unit→Shared→Prop} (I:Inv X pins σ H s) (hN:X.N.Nodup) (hi:X.N[i]? = some x) (hx:Loc X.env.scope x) (r:RelV v u)
  (h:∀ s',Inv X pins (σ.set i (some v)) H s'→Q () s') (hf:X.fn x=true∨X.env.scope.names.lookup x=some .local:=by first | exact .inl rfl | exact .inr rfl | assumption):wpAny M A (storeName X.env x u) Q E s :=
 zej I hN hi hx r (fun s' I' _=>h s' I') hf
theorem Inv.call' {s':Shared} {ch:List Addr} (I:Inv X pins σ H s) (ho:s'.os=s.os) (u:Un (frs X.stack) ch H H' s.heap s'.heap) (hok:HOk X.prog X.w H' s'.heap) (hg:AllBare s'.gens)
  (hch:∀ b∈ch,(b∈X.ex∨X.s₀.heap.objs.size≤b)∧b≠X.env.locals∧(∀ x c,X.env.cells.lookup x=some c→c≠b)∧∀ p∈X.pn++pins,p.1≠b):Inv X pins σ H' s':=by
 obtain⟨h',g',d',t',o'⟩:=s'
 have e:o'=s.os:=ho
 subst e
 exact I.call (g':=g') (t':=t') (d':=d') u hok hg hch
end
abbrev XK:=Value→Option Addr→Hp→Prop
abbrev St:=List (Option V)
abbrev VK:=V→Hp→Prop
abbrev TE:=St→Hp→VK→Prop
abbrev TT:=St→Hp→(Bool→Hp→Prop)→Prop
abbrev TA:=St→Hp→(List V→Hp→Prop)→Prop
structure Ends where
 nx:St→Hp→Prop
 rt:VK
 bk:St→Hp→Prop:=fun _ _=>False
 ct:St→Hp→Prop:=fun _ _=>False
abbrev TS:=Ends→St→Hp→Prop
def EP (X:Cx) (pins:List (Addr×Obj)) (σ:St) (Q:VK) (u:Value) (s':Shared):Prop:=∃ v H',Inv X pins σ H' s'∧RelV v u∧Q v H'
def TP (X:Cx) (pins:List (Addr×Obj)) (σ:St) (Q:Bool→Hp→Prop) (b:Bool) (s':Shared):Prop:=∃ H',Inv X pins σ H' s'∧Q b H'
def AP (X:Cx) (pins:List (Addr×Obj)) (σ:St) (Q:List V→Hp→Prop) (us:List Value) (s':Shared):Prop:=∃ vs H',Inv X pins σ H' s'∧zE vs us∧Q vs H'
def SP (X:Cx) (pins:List (Addr×Obj)) (D:Ends) (f:Flow) (s':Shared):Prop :=
 match f with
 | .next=>∃ σ' H',Inv X pins σ' H' s'∧D.nx σ' H'
 | .brk=>∃ σ' H',Inv X pins σ' H' s'∧D.bk σ' H'
 | .cont=>∃ σ' H',Inv X pins σ' H' s'∧D.ct σ' H'
 | .ret u=>∃ v σ' H',Inv X pins σ' H' s'∧RelV v u∧D.rt v H'
def PE (X:Cx) (e:Expr) (t:TE):Prop :=
 ∀ (pins:List (Addr×Obj)) (s:Shared) (σ:St) (H:Hp) (Q:VK),Inv X pins σ H s→t σ H Q→wpAny (model X.prog X.w) X.A (eval e X.env) (EP X pins σ Q) X.xe s
def PT (X:Cx) (e:Expr) (t:TT):Prop :=
 ∀ (pins:List (Addr×Obj)) (s:Shared) (σ:St) (H:Hp) (Q:Bool→Hp→Prop),Inv X pins σ H s→t σ H Q→wpAny (model X.prog X.w) X.A (isTrue e X.env (eval e X.env)) (TP X pins σ Q) X.xe s
def PW (X:Cx) (e:Expr) (t:TT):Prop :=
 ∀ (whole:Sem Value) (pins:List (Addr×Obj)) (s:Shared) (σ:St) (H:Hp) (Q:Bool→Hp→Prop),Inv X pins σ H s→t σ H Q→wpAny (model X.prog X.w) X.A (isTrue e X.env whole) (TP X pins σ Q) X.xe s
theorem PW.pt {X:Cx} {e:Expr} {t:TT} (h:PW X e t):PT X e t:=h _
def PA (X:Cx) (es:List Expr) (t:TA):Prop :=
 ∀ (pos:Pos) (pins:List (Addr×Obj)) (s:Shared) (σ:St) (H:Hp) (Q:List V→Hp→Prop),Inv X pins σ H s→t σ H Q→wpAny (model X.prog X.w) X.A (spliced (backTo pos (starEach es X.env))) (AP X pins σ Q) X.xe s
def PS (X:Cx) (st:Stmt) (t:TS):Prop :=
 ∀ (pins:List (Addr×Obj)) (s:Shared) (σ:St) (H:Hp) (D:Ends),Inv X pins σ H s→t D σ H→wpAny (model X.prog X.w) X.A (exec st X.env) (SP X pins D) X.xe s
def PSs (X:Cx) (st:List Stmt) (t:TS):Prop :=
 ∀ (pins:List (Addr×Obj)) (s:Shared) (σ:St) (H:Hp) (D:Ends),Inv X pins σ H s→t D σ H→wpAny (model X.prog X.w) X.A (execs st X.env) (SP X pins D) X.xe s
theorem thn {α:Type} {t:Sem α} {Q Q':α→Shared→Prop} {M:Model} {A:Around} {E:Value→Shared→Prop} {s:Shared} (h:wpAny M A t Q E s) (hQ:∀ a s,Q a s→Q' a s):wpAny M A t Q' E s:=wpAny_mono h hQ fun _ _ x=>x
end L2
namespace L2
open PySem PySem.Spec PyProof.Rows
section
variable {X:Cx}
def zlI (i:Nat):TE:=fun σ H Q=>∃ v,σ[i]? = some (some v)∧Q v H
def tC (v:V):TE:=fun _ H Q=>Q v H
theorem zkU {i:Nat} {x:Str} {pos:Pos} (hN:X.N[i]? = some x) (hv:Vis X.env.scope x) (hd:(x == ("__debug__" : Str))=false:=by decide) (hcd:(x == ("__classdict__" : Str))=false:=by decide):PE X (.Name x pos) (zlI i):=by
 intro pins s σ H Q I h
 obtain⟨v,e,h⟩:=h
 obtain⟨m,hn,hl⟩:=I.loc
 obtain⟨u,r,l⟩:=hl i x v hN e hv
 have fin:EP X pins σ Q u s:=⟨v,H,I,r,h⟩
 rcases l with ⟨hk,hm⟩ | ⟨hk,c,hc,hcell⟩
 ·exact wpAny_Name (wpAny_loadName_local I.ok.kind hk hn hm fin) hd
 ·rcases hk with hk | hk
  ·exact wpAny_Name (wpAny_loadName_cell I.ok.kind hk hc hcell fin) hd
  ·exact wpAny_Name (wpAny_loadName_free I.ok.kind hk hc hcell fin hcd) hd
theorem zf {i j pos}:PE X (.Constant (.int i) j pos) (tC (.int i)):=fun _ _ _ H _ I h=>wpAny_Constant_int ⟨.int i,H,I.tok _,⟨_,rfl⟩,h⟩
theorem zbs {b j pos}:PE X (.Constant (.bool b) j pos) (tC (.bl b)):=fun _ _ _ H _ I h=>Constant_bool ⟨.bl b,H,I,rfl,h⟩
theorem zcU {j pos}:PE X (.Constant .none j pos) (tC .non):=fun _ _ _ H _ I h=>Constant_none ⟨.non,H,I,rfl,h⟩
theorem zeL {x j pos}:PE X (.Constant (.str x) j pos) (tC (.str x)):=fun _ _ _ H _ I h=>Calls.Constant_str ⟨.str x,H,I.tok _,⟨_,rfl⟩,h⟩
def Gl (X:Cx) (x:Str):Prop:=X.env.kindOf x=some .globalImplicit
theorem zb9 {E:Value→Shared→Prop} {pins:List (Addr×Obj)} {s:Shared} {σ:St} {H:Hp} {x:Str} {u:Value} {pos:Pos} {Q:Value→Shared→Prop} (I:Inv X pins σ H s) (hg:Gl X x) (hm:X.mg x=some u) (h:Q u s)
  (hd:(x == ("__debug__" : Str))=false:=by decide):wpAny (model X.prog X.w) X.A (eval (.Name x pos) X.env) Q E s :=
 Calls.Name_function_global I.ok.kind hg (Calls.loadGlobal_global (by rw [I.ok.glob]; exact I.mod.glob.keeps I.bk) hm h) hd
theorem zbn {E:Value→Shared→Prop} {pins:List (Addr×Obj)} {s:Shared} {σ:St} {H:Hp} {x:Str} {u:Value} {pos:Pos} {Q:Value→Shared→Prop} (I:Inv X pins σ H s) (hg:Gl X x) (hm:X.mg x=none) (hv:bootBuiltins x=some u) (h:Q u s)
  (hn:x≠"__name__":=by decide) (hd:(x == ("__debug__" : Str))=false:=by decide):wpAny (model X.prog X.w) X.A (eval (.Name x pos) X.env) Q E s:=by
 obtain⟨mb,h1,h2⟩:=I.mod.blt
 exact Calls.Name_function_global I.ok.kind hg (Calls.loadGlobal_builtin (by rw [I.ok.glob]; exact I.mod.glob.keeps I.bk) hm (by rw [I.ok.blt]; exact h1.keeps I.bk) ((h2 x hn).trans hv) h) hd
theorem za7 {x:Str} {v:V} {u:Value} {pos:Pos} (hg:Gl X x) (hm:X.mg x=some u) (r:RelV v u) (hd:(x == ("__debug__" : Str))=false:=by decide):PE X (.Name x pos) (tC v) :=
 fun _ _ _ H _ I h=>zb9 I hg hm ⟨v,H,I,r,h⟩ hd
theorem zca {x:Str} {v:V} {u:Value} {pos:Pos} (hg:Gl X x) (hm:X.mg x=none) (hv:bootBuiltins x=some u) (r:RelV v u) (hn:x≠"__name__":=by decide) (hd:(x == ("__debug__" : Str))=false:=by decide):PE X (.Name x pos) (tC v) :=
 fun _ _ _ H _ I h=>zbn I hg hm hv ⟨v,H,I,r,h⟩ hn hd
variable {a b:Expr} {ta tb:TE} {pos:Pos}
def tB (t:TE):TT:=fun σ H Q=>t σ H fun x H1=>∃ c,x = .bl c∧Q c H1
theorem zcr {e:Expr} {t:TE} (h:PE X e t) (he:∀ whole,isTrue e X.env whole=(do let v ← whole; standAt e.pos; holding [v] (truthy v)):=by intro _; rfl):PT X e (tB t):=by
 intro pins s σ H Q I hw
 refine isTrue_plain (thn (h pins s σ H _ I hw) fun v s1 ⟨x,H1,I1,r1,q1⟩=>?_) (he _)
 obtain⟨d,rfl,q⟩:=q1
 cases r1
 exact wpAny_truthy_bool ⟨H1,I1,q⟩
variable {tA tB':TT} {rest:List Expr}
def zmh (t u:TT):TT:=fun σ H Q=>t σ H fun c H1=>if c=true then u σ H1 Q else Q false H1
def tOr (t u:TT):TT:=fun σ H Q=>t σ H fun c H1=>if c=true then Q true H1 else u σ H1 Q
def zmi (t:TT):TT:=fun σ H Q=>t σ H fun c H1=>Q (!c) H1
theorem zgV (ha:PT X a tA):PW X (.BoolOp .And [a] pos) tA:=by
 intro wh pins s σ H Q I h
 refine isTrue_and (thn (ha pins s σ H Q I h) fun c s1 e=>?_)
 cases c with
 | true=>exact isTrue_and_nil e
 | false=>exact e
theorem zeM (ha:PT X a tA):PW X (.BoolOp .Or [a] pos) tA:=by
 intro wh pins s σ H Q I h
 refine isTrue_or (thn (ha pins s σ H Q I h) fun c s1 e=>?_)
 cases c with
 | false=>exact isTrue_or_nil e
 | true=>exact e
theorem zil (ha:PT X a tA) (hb:PW X (.BoolOp .And (b :: rest) pos) tB'):PW X (.BoolOp .And (a :: b :: rest) pos) (zmh tA tB'):=by
 intro wh pins s σ H Q I h
 refine isTrue_and (thn (ha pins s σ H _ I h) fun c s1 ⟨H1,I1,q1⟩=>?_)
 cases c with
 | true=>exact hb wh pins s1 σ H1 Q I1 q1
 | false=>exact⟨H1,I1,q1⟩
theorem zek (ha:PT X a tA) (hb:PW X (.BoolOp .Or (b :: rest) pos) tB'):PW X (.BoolOp .Or (a :: b :: rest) pos) (tOr tA tB'):=by
 intro wh pins s σ H Q I h
 refine isTrue_or (thn (ha pins s σ H _ I h) fun c s1 ⟨H1,I1,q1⟩=>?_)
 cases c with
 | true=>exact⟨H1,I1,q1⟩
 | false=>exact hb wh pins s1 σ H1 Q I1 q1
theorem zcs (ha:PT X a tA):PT X (.UnaryOp .Not a pos) (zmi tA):=by
 intro pins s σ H Q I h
 exact isTrue_not (ha pins s σ H (fun c H1=>Q (!c) H1) I h)
def zlJ (ta tb:TE):TE:=fun σ H Q=>ta σ H fun x H1=>∃ c,x = .bl c∧if c=true then tb σ H1 Q else Q (.bl false) H1
def zlK (ta:TE):TE:=fun σ H Q=>ta σ H fun x H1=>∃ c,x = .bl c∧Q (.bl (!c)) H1
theorem zf9 {op} {t:TE} (h:PE X a t):PE X (.BoolOp op [a] pos) t:=fun pins s σ H Q I hw=>BoolOp_one (h pins s σ H Q I hw)
theorem zga (ha:PE X a ta) (hb:PE X (.BoolOp .And (b :: rest) pos) tb):PE X (.BoolOp .And (a :: b :: rest) pos) (zlJ ta tb):=by
 intro pins s σ H Q I h
 refine BoolOp_and (thn (ha pins s σ H _ I h) fun v s1 ⟨x,H1,I1,r1,q1⟩=>?_)
 obtain⟨c,rfl,q1⟩:=q1
 cases r1
 refine wpAny_truthy_bool ?_
 cases c with
 | true=>exact hb pins s1 σ H1 Q I1 q1
 | false=>exact⟨.bl false,H1,I1,rfl,q1⟩
theorem zkV (ha:PE X a ta):PE X (.UnaryOp .Not a pos) (zlK ta):=by
 intro pins s σ H Q I h
 refine UnaryOp_ (thn (ha pins s σ H _ I h) fun v s1 ⟨x,H1,I1,r1,q1⟩=>?_)
 obtain⟨c,rfl,q1⟩:=q1
 cases r1
 exact not_of (wpAny_truthy_bool ⟨.bl (!c),H1,I1,rfl,q1⟩)
def tIf (t:TT) (ta tb:TE):TE:=fun σ H Q=>t σ H fun c H1=>if c=true then ta σ H1 Q else tb σ H1 Q
theorem zcB {c:Expr} (hc:PT X c tA) (ha:PE X a ta) (hb:PE X b tb):PE X (.IfExp c a b pos) (tIf tA ta tb):=by
 intro pins s σ H Q I h
 refine wpAny_IfExp (thn (hc pins s σ H _ I h) fun d s1 ⟨H1,I1,q1⟩=>?_)
 cases d with
 | true=>exact ha pins s1 σ H1 Q I1 q1
 | false=>exact hb pins s1 σ H1 Q I1 q1
end
end L2
namespace L2
open PySem PySem.Spec PyProof.Rows
def SqL (K:PySem.W.Frag) (H:Hp) (a:Addr) (xs:List V):Prop :=
 Rd H a (.lst xs) ∨
  ∃ (o:Obj) (its:Array Value) (n:Nat),K.lookup a=some o∧o.cls = .type "list"∧o.dict=none∧o.data = .seq its n∧its.size≤sizeLine∧zE xs its.toList
def SqT (K:PySem.W.Frag) (H:Hp) (a:Addr) (xs:List V):Prop :=
 Rd H a (.tup xs) ∨
  ∃ (o:Obj) (its:Array Value) (n:Nat),K.lookup a=some o∧o.cls = .type "tuple"∧o.data = .seq its n∧its.size≤sizeLine∧zE xs its.toList
def zmj:Value→Option V
 | .none=>some .non
 | .bool b=>some (.bl b)
 | .int i _=>some (.int i)
 | .str x _=>some (.str x)
 | .bytes b _=>some (.byt b)
 | .float b _=>some (.flt b)
 | .ref a=>some (.ref a)
 | .type n=>some (.ty n)
 | _=>none
theorem RelV.abs {x:V} {u:Value} (r:RelV x u):zmj u=some x:=by
 cases x with
 | non=>cases r; rfl
 | bl _=>cases r; rfl
 | int _=>obtain⟨t,rfl⟩:=r; rfl
 | str _=>obtain⟨t,rfl⟩:=r; rfl
 | byt _=>obtain⟨t,rfl⟩:=r; rfl
 | flt _=>obtain⟨t,rfl⟩:=r; rfl
 | ref _=>cases r; rfl
 | ty _=>cases r; rfl
theorem RelV.inj {x y:V} {u:Value} (r:RelV x u) (q:RelV y u):x=y:=Option.some.inj (r.abs.symm.trans q.abs)
theorem zE.inj:∀ {xs ys:List V} {us:List Value},zE xs us→zE ys us→xs=ys
 | _,_,_,.nil,.nil=>rfl
 | _,_,_,.cons r t,.cons r' t'=>by rw [r.inj r',zE.inj t t']
section
variable {X:Cx} {pins:List (Addr×Obj)} {σ:St} {H:Hp} {s:Shared} {a:Addr} {xs ys:List V}
theorem SqL.of {K:PySem.W.Frag} (h:H a=some (.lst xs)):SqL K H a xs:=.inl (.inl h)
theorem SqT.of {K:PySem.W.Frag} (h:H a=some (.tup xs)):SqT K H a xs:=.inl (.inl h)
theorem Inv.list (I:Inv X pins σ H s) (h:SqL X.K H a xs):∃ its:List Value,zE xs its∧PlainL s.heap a its.toArray∧xs.length≤sizeLine:=by
 rcases h with h | ⟨o,its,n,hk,hc,hd,hs,hz,r⟩
 ·obtain⟨z,its,n,r,e⟩:=h.ok I.hok
  exact⟨its,r,⟨_,n,e,rfl,rfl,rfl⟩,z⟩
 ·refine⟨its.toList,r,⟨o,n,I.kIn a o hk,hc,hd,by simpa using hs⟩,?_⟩
  have e:=r.length
  simp only [Array.length_toList] at e
  omega
theorem Inv.tuple (I:Inv X pins σ H s) (h:SqT X.K H a xs):∃ its:List Value,zE xs its∧IsTup s.heap a its.toArray∧xs.length≤sizeLine:=by
 rcases h with h | ⟨o,its,n,hk,hc,hs,hz,r⟩
 ·obtain⟨z,its,r,p⟩:=h.ok I.hok
  exact⟨its,r,p,z⟩
 ·refine⟨its.toList,r,⟨o,I.kIn a o hk,hc,n,by simpa using hs⟩,?_⟩
  have e:=r.length
  simp only [Array.length_toList] at e
  omega
theorem Inv.list_inj (I:Inv X pins σ H s) (h:SqL X.K H a xs) (h':SqL X.K H a ys):xs=ys:=by
 obtain⟨its,r,⟨o,n,e,_,_,d⟩,_⟩:=I.list h
 obtain⟨its',r',⟨o',n',e',_,_,d'⟩,_⟩:=I.list h'
 rw [e] at e'; cases e'
 rw [d] at d'
 injection d' with d1 _
 have:its=its':=by simpa using congrArg Array.toList d1
 subst this
 exact r.inj r'
theorem Inv.tuple_inj (I:Inv X pins σ H s) (h:SqT X.K H a xs) (h':SqT X.K H a ys):xs=ys:=by
 obtain⟨its,r,⟨o,e,_,n,d⟩,_⟩:=I.tuple h
 obtain⟨its',r',⟨o',e',_,n',d'⟩,_⟩:=I.tuple h'
 rw [e] at e'; cases e'
 rw [d] at d'
 injection d' with d1 _
 have:its=its':=by simpa using congrArg Array.toList d1
 subst this
 exact r.inj r'
end
abbrev Cx.wish (X:Cx) (E:Value→Shared→Prop):Cx:={ X with xe:=E }
abbrev Cx.nox (X:Cx):Cx:=X.wish fun _ _=>False
theorem Cx.Ok.wish {X:Cx} (ok:X.Ok) (E:Value→Shared→Prop):(X.wish E).Ok :=
 ⟨ok.mod,ok.kind,ok.glob,ok.blt,ok.above,ok.inj,ok.has,ok.cab,ok.hd,ok.frames,ok.stk,ok.exf,ok.bs,ok.bsz,ok.noex,ok.exfs,ok.funs,ok.frf⟩
theorem Cx.Ok.unwish {X:Cx} {E:Value→Shared→Prop} (ok:(X.wish E).Ok):X.Ok :=
 ⟨ok.mod,ok.kind,ok.glob,ok.blt,ok.above,ok.inj,ok.has,ok.cab,ok.hd,ok.frames,ok.stk,ok.exf,ok.bs,ok.bsz,ok.noex,ok.exfs,ok.funs,ok.frf⟩
section
variable {X:Cx} {pins:List (Addr×Obj)} {σ:St} {H:Hp} {s:Shared} {E:Value→Shared→Prop}
theorem Inv.wish (I:Inv X pins σ H s) (E:Value→Shared→Prop):Inv (X.wish E) pins σ H s:=⟨I.ok.wish E,I.os,I.bare,I.base,I.loc,I.cell,I.free,I.freeC,I.pin,I.hok,I.len⟩
theorem Inv.unwish (I:Inv (X.wish E) pins σ H s):Inv X pins σ H s:=⟨I.ok.unwish,I.os,I.bare,I.base,I.loc,I.cell,I.free,I.freeC,I.pin,I.hok,I.len⟩
theorem SP.unwish {D:Ends} {f:Flow} {s':Shared} (h:SP (X.wish E) pins D f s'):SP X pins D f s':=by
 cases f with
 | next=>obtain⟨σ',H',I,q⟩:=h; exact⟨σ',H',I.unwish,q⟩
 | brk=>obtain⟨σ',H',I,q⟩:=h; exact⟨σ',H',I.unwish,q⟩
 | cont=>obtain⟨σ',H',I,q⟩:=h; exact⟨σ',H',I.unwish,q⟩
 | ret u=>obtain⟨v,σ',H',I,r,q⟩:=h; exact⟨v,σ',H',I.unwish,r,q⟩
theorem PSs.nox {st:List Stmt} {t:TS} (h:PSs X.nox st t):PSs X st t:=fun pins s σ H D I hw =>
 wpAny_mono (h pins s σ H D (I.wish _) hw) (fun _ _ q=>q.unwish) fun _ _ z=>False.elim z
end
section
variable {X:Cx} {st:Stmt} {rest:List Stmt} {t u:TS} {e:Expr} {te:TE} {pos:Pos}
def zlL:TS:=fun D σ H=>D.nx σ H
def zkW (t u:TS):TS:=fun D σ H=>t { D with nx:=u D } σ H
theorem zY:PSs X [] zlL:=fun _ _ σ H _ I h=>wpAny_execs_nil ⟨σ,H,I,h⟩
theorem zd (h1:PS X st t) (h2:PSs X rest u):PSs X (st :: rest) (zkW t u):=by
 intro pins s σ H D I h
 refine wpAny_execs_cons (thn (h1 pins s σ H { D with nx:=u D } I h) fun f s1 q=>?_)
 cases f with
 | next =>
  obtain⟨σ',H',I',q⟩:=q
  exact h2 pins s1 σ' H' D I' q
 | ret v=>exact q
 | brk=>exact q
 | cont=>exact q
theorem zj (h1:PS X st t):PSs X [st] t:=by
 intro pins s σ H D I h
 refine wpAny_execs_cons (thn (h1 pins s σ H D I h) fun f s1 q=>?_)
 cases f with
 | next=>exact wpAny_execs_nil q
 | ret v=>exact q
 | brk=>exact q
 | cont=>exact q
theorem Inv.quiet {pins:List (Addr×Obj)} {σ:St} {H:Hp} {s:Shared} (I:Inv X pins σ H s):interactive X.env=false:=by simp [interactive,I.ok.kind]
def zlM (te:TE):TS:=fun D σ H=>te σ H fun _ H1=>D.nx σ H1
theorem zaS (he:PE X e te) (hs:swapsWith e none pos.line X.env=pure false:=by rfl):PS X (.Expr e pos) (zlM te):=by
 intro pins s σ H D I h
 exact wpAny_Expr_any (thn (he pins s σ H _ I h) fun v s1 ⟨x,H1,I1,r1,q1⟩=>⟨σ,H1,I1,q1⟩) I.quiet hs
def zmk (te:TE):TS:=fun D σ H=>te σ H D.rt
theorem zB (he:PE X e te):PS X (.Return (some e) pos) (zmk te):=by
 intro pins s σ H D I h
 exact wpAny_Return_some (thn (he pins s σ H _ I h) fun v s1 ⟨x,H1,I1,r1,q1⟩=>⟨x,σ,H1,I1,r1,q1⟩)
def zml (c:TT) (t u:TS):TS:=fun D σ H=>c σ H fun b H1=>if b=true then t D σ H1 else u D σ H1
theorem zaG {c:Expr} {a b:List Stmt} {tc:TT} (hc:PT X c tc) (ha:PSs X a t) (hb:PSs X b u):PS X (.If c a b pos) (zml tc t u):=by
 intro pins s σ H D I h
 refine wpAny_If (thn (hc pins s σ H _ I h) fun d s1 ⟨H1,I1,q1⟩=>?_)
 cases d with
 | true=>exact ha pins s1 σ H1 D I1 q1
 | false=>exact hb pins s1 σ H1 D I1 q1
end
abbrev TG:=V→St→Hp→(St→Hp→Prop)→Prop
abbrev TGs:=List V→St→Hp→(St→Hp→Prop)→Prop
def PG (X:Cx) (target:Expr) (t:TG):Prop :=
 ∀ (pins:List (Addr×Obj)) (s:Shared) (σ:St) (H:Hp) (v:V) (u:Value) (Q:St→Hp→Prop),Inv X pins σ H s→RelV v u→t v σ H Q →
  wpAny (model X.prog X.w) X.A (assign target X.env u) (fun _ s'=>∃ σ' H',Inv X pins σ' H' s'∧Q σ' H') X.xe s
def PGs (X:Cx) (ts:List Expr) (t:TGs):Prop :=
 ∀ (pins:List (Addr×Obj)) (s:Shared) (σ:St) (H:Hp) (vs:List V) (us:List Value) (Q:St→Hp→Prop),Inv X pins σ H s→zE vs us→t vs σ H Q →
  wpAny (model X.prog X.w) X.A (assignInOrder ((assignEach ts X.env).map (·.2)) us) (fun _ s'=>∃ σ' H',Inv X pins σ' H' s'∧Q σ' H') X.xe s
abbrev zkX:=V→V→V→Hp→(Hp→Prop)→Prop
def zlN (X:Cx) (t:zkX):Prop :=
 ∀ (pins:List (Addr×Obj)) (s:Shared) (σ:St) (H:Hp) (o i v:V) (ov iv u:Value) (Q:Hp→Prop),Inv X pins σ H s→RelV o ov→RelV i iv→RelV v u→t o i v H Q →
  wpAny (model X.prog X.w) X.A (setItem ov iv u) (fun _ s'=>∃ H',Inv X pins σ H' s'∧Q H') X.xe s
abbrev TIp:=V→V→Hp→VK→Prop
def PIp (X:Cx) (op:Operator) (t:TIp):Prop :=
 ∀ (pins:List (Addr×Obj)) (s:Shared) (σ:St) (H:Hp) (x y:V) (v u:Value) (Q:VK),Inv X pins σ H s→RelV x v→RelV y u→t x y H Q →
  wpAny (model X.prog X.w) X.A (inplaceOp op v u) (EP X pins σ Q) X.xe s
section
variable {X:Cx} {pos:Pos}
def zaO (i:Nat):TG:=fun v σ H Q=>Q (σ.set i (some v)) H
theorem zi {i:Nat} {x:Str} (hN:X.N.Nodup) (hi:X.N[i]? = some x) (hx:Loc X.env.scope x) (hf:X.fn x=true∨X.env.scope.names.lookup x=some .local:=by first | exact .inl rfl | exact .inr rfl | assumption):PG X (.Name x pos) (zaO i):=by
 intro pins s σ H v u Q I r h
 exact wpAny_assign_Name (zbE I hN hi hx r (fun s' I'=>⟨_,H,I',h⟩) hf)
def zim:TGs:=fun vs σ H Q=>vs = []∧Q σ H
def zc3 (t:TG) (u:TGs):TGs:=fun vs σ H Q=>∃ v r,vs=v :: r∧t v σ H fun σ' H'=>u r σ' H' Q
theorem zK:PGs X [] zim:=by
 intro pins s σ H vs us Q I r h
 obtain⟨e,h⟩:=h
 subst e
 cases r
 exact assignInOrder_nil ⟨σ,H,I,h⟩
theorem zk {e:Expr} {es:List Expr} {t:TG} {u:TGs} (h1:PG X e t) (h2:PGs X es u)
  (hs:(assignEach (e :: es) X.env).map (·.2)=assign e X.env :: (assignEach es X.env).map (·.2):=by rfl):PGs X (e :: es) (zc3 t u):=by
 intro pins s σ H vs us Q I r h
 obtain⟨v,vr,e1,h⟩:=h
 subst e1
 cases r with
 | cons r rr =>
  rw [hs]
  refine assignInOrder_cons (thn (h1 pins s σ H _ _ _ I r h) fun _ s1 ⟨σ1,H1,I1,q1⟩=>?_)
  exact h2 pins s1 σ1 H1 _ _ Q I1 rr q1
def zhv (K:PySem.W.Frag) (n:Nat) (t:TGs):TG:=fun v σ H Q=>∃ a xs,v = .ref a∧SqT K H a xs∧xs.length=n∧t xs σ H Q
theorem za0 {es:List Expr} {k:Nat} {t:TGs} {n:Nat} (hc:X.calm=true) (h:PGs X es t)
  (hn:(assignEach es X.env).length=n:=by rfl) (hst:(assignEach es X.env).findIdx? (·.1)=none:=by rfl):PG X (.Tuple es k pos) (zhv X.K n t):=by
 intro pins s σ H v u Q I r hw
 obtain⟨a,xs,e1,hq,hl,hw⟩:=hw
 subst e1
 cases r
 obtain⟨its,rv,ht,hz⟩:=I.tuple hq
 refine assign_Tuple_tuple (I.ok.hd hc) ht (by simp [hn,← hl,rv.length]) hst fun h' hx=>?_
 have I1:Inv X pins σ H { s with heap:=h' }:=I.kept (t':=s.toks) fun b o e=>hx b o (Nat.ne_of_lt (Heap.lt_size e)) e
 exact h pins _ σ H xs _ Q I1 (by simpa using rv) hw
def zmm (to ti:TE) (t:zkX):TG:=fun v σ H Q=>to σ H fun o H1=>ti σ H1 fun i H2=>t o i v H2 fun H3=>Q σ H3
theorem zeN {o i:Expr} {to ti:TE} {t:zkX} (ho:PE X o to) (hi:PE X i ti) (hs:zlN X t)
  (ha:∀ v,assign (.Subscript o i pos) X.env v=(do
   let ov ← holding [v] (eval o X.env)
   let iv ← holding [v,ov] (eval i X.env)
   standAt pos
   holding [v,ov,iv] (setItem ov iv v)
   release [v,ov,iv] []):=by intro _; rfl):PG X (.Subscript o i pos) (zmm to ti t):=by
 intro pins s σ H v u Q I r h
 rw [ha]
 refine wpAny_bind (wpAny_holding (thn (ho pins s σ H _ I h) fun ov s1 ⟨x,H1,I1,r1,q1⟩=>?_))
 refine wpAny_bind (wpAny_holding (thn (hi pins s1 σ H1 _ I1 q1) fun iv s2 ⟨y,H2,I2,r2,q2⟩=>?_))
 refine wpAny_bind (wpAny_standAt (wpAny_bind (wpAny_holding (thn (hs pins s2 σ H2 x y v ov iv u _ I2 r1 r2 r q2) fun _ s3 ⟨H3,I3,q3⟩=>?_))))
 exact wpAny_release ⟨σ,H3,I3,q3⟩
def zeO (te:TE) (g:TG):TS:=fun D σ H=>te σ H fun x H1=>g x σ H1 D.nx
theorem zbo {tg e:Expr} {te:TE} {g:TG} (he:PE X e te) (hg:PG X tg g) (hs:swapsWithSole [tg] e pos.line X.env=pure false:=by rfl) (hw:swappedStores [tg] e X.env=pure none:=by rfl)
  (h1:(assignEach [tg] X.env).map (·.2) = [assign tg X.env]:=by rfl):PS X (.Assign [tg] e pos) (zeO te g):=by
 intro pins s σ H D I h
 refine wpAny_Assign_stores (thn (he pins s σ H _ I h) fun v s1 ⟨x,H1,I1,r1,q1⟩=>?_) hs hw
 rw [h1]
 exact thn (hg pins s1 σ H1 x v _ I1 r1 q1) fun _ s2 q=>q
theorem zm {i:Nat} {x:Str} {e:Expr} {te:TE} {pos':Pos} (hN:X.N.Nodup) (hi:X.N[i]? = some x) (hx:Loc X.env.scope x) (he:PE X e te) (hs:swapsWith e (some (.Name x pos')) pos.line X.env=pure false:=by rfl) (hf:X.fn x=true∨X.env.scope.names.lookup x=some .local:=by first | exact .inl rfl | exact .inr rfl | assumption) :
  PS X (.Assign [.Name x pos'] e pos) (zeO te (zaO i)):=by
 intro pins s σ H D I h
 refine wpAny_Assign_Name (thn (he pins s σ H _ I h) fun v s1 ⟨y,H1,I1,r1,q1⟩=>?_) hs
 exact zbE I1 hN hi hx r1 (fun s2 I2=>⟨_,H1,I2,q1⟩) hf
def zmn (i:Nat) (te:TE) (ti:TIp):TS:=fun D σ H=>∃ x,σ[i]? = some (some x)∧te σ H fun y H1=>ti x y H1 fun z H2=>D.nx (σ.set i (some z)) H2
theorem zgb {i:Nat} {x:Str} {e:Expr} {te:TE} {op:Operator} {ti:TIp} {pos':Pos} (hN:X.N.Nodup) (hi:X.N[i]? = some x) (hx:Loc X.env.scope x) (he:PE X e te) (ho:PIp X op ti) (hf:X.fn x=true∨X.env.scope.names.lookup x=some .local:=by first | exact .inl rfl | exact .inr rfl | assumption) :
  PS X (.AugAssign (.Name x pos') op e pos) (zmn i te ti):=by
 intro pins s σ H D I h
 obtain⟨v,e1,h⟩:=h
 obtain⟨m,hn,hl⟩:=I.loc
 have vis:Vis X.env.scope x:=by rcases hx with k | k; exact .inl k; exact .inr (.inl k)
 obtain⟨u,r,l⟩:=hl i x v hi e1 vis
 refine wpAny_AugAssign_Name ?_
 have go:wpAny (model X.prog X.w) X.A (eval e X.env) (fun w s₂=>wpAny (model X.prog X.w) X.A (inplaceOp op u w) (fun r s₃=>wpAny (model X.prog X.w) X.A (storeName X.env x r) (fun _=>SP X pins D .next) X.xe s₃) X.xe s₂) X.xe s:=by
  refine thn (he pins s σ H _ I h) fun w s1 ⟨y,H1,I1,r1,q1⟩=>?_
  refine thn (ho pins s1 σ H1 v y u w _ I1 r r1 q1) fun z s2 ⟨zv,H2,I2,r2,q2⟩=>?_
  exact zbE I2 hN hi hx r2 (fun s3 I3=>⟨_,H2,I3,q2⟩) hf
 rcases l with ⟨hk,hm⟩ | ⟨hk,c,hc,hcell⟩
 ·exact wpAny_loadName_local I.ok.kind hk hn hm go
 ·rcases hk with hk | hk
  ·exact wpAny_loadName_cell I.ok.kind hk hc hcell go
  ·rcases hx with k | k
   ·have:X.env.scope.names.lookup x=some .free:=hk
    rw [k] at this; cases this
   ·have:X.env.scope.names.lookup x=some .free:=hk
    rw [k] at this; cases this
end
section
variable {X:Cx} {pos:Pos}
def zin (c:TT) (tb:TS):TS:=fun D σ H=>∃ W:Nat→St→Hp→Prop,(∃ m,W m σ H)∧∀ m σ H,W m σ H →
 c σ H fun b H1=>if b=true then ∃ N:St→Hp→Prop,(∀ σ' H',N σ' H'→∃ m',m' < m∧W m' σ' H')∧tb { D with nx:=N,ct:=N,bk:=D.nx } σ H1 else D.nx σ H1
theorem zdD {c:Expr} {body:List Stmt} {tc:TT} {tb:TS} (hp:PassesOwn (model X.prog X.w) X.A X.env X.xe) (hc:PT X c tc) (hb:PSs X body tb):PS X (.While c body [] pos) (zin tc tb):=by
 intro pins s σ H D I h
 obtain⟨W,⟨m0,w0⟩,turn⟩:=h
 refine wpAny_While (codeAny_whileLoop (fun n s'=>∃ σ' H',Inv X pins σ' H' s'∧W n σ' H') ?_ m0 ⟨σ,H,I,w0⟩)
 rintro n s1 ⟨σ1,H1,I1,w1⟩
 refine wpAny_passesOwn hp (thn (hc pins s1 σ1 H1 _ I1 (turn n σ1 H1 w1)) fun b s2 ⟨H2,I2,q2⟩=>?_)
 cases b with
 | true =>
  obtain⟨N,hN,q2⟩:=q2
  rw [if_pos rfl]
  refine wpAny_passesOwn hp (thn (hb pins s2 σ1 H2 _ I2 q2) fun f s3 q3=>?_)
  cases f with
  | next =>
   obtain⟨σ3,H3,I3,n3⟩:=q3
   obtain⟨m',hm,w3⟩:=hN σ3 H3 n3
   exact⟨m',hm,σ3,H3,I3,w3⟩
  | cont =>
   obtain⟨σ3,H3,I3,n3⟩:=q3
   obtain⟨m',hm,w3⟩:=hN σ3 H3 n3
   exact⟨m',hm,σ3,H3,I3,w3⟩
  | brk=>exact q3
  | ret v=>exact q3
 | false =>
  rw [if_neg Bool.false_ne_true]
  exact wpAny_execs_nil ⟨σ1,H2,I2,q2⟩
end
structure It where
 go:Nat→Hp→Prop
 yld:Nat→Hp→V→Hp→Prop
 stop:Nat→Hp→Prop
def zbx (X:Cx) (pins:List (Addr×Obj)) (H:Hp) (b:Addr):Prop :=
 H b=none∧b≠X.env.locals∧b∉X.fs∧(b∈X.ex∨X.s₀.heap.objs.size≤b)∧(∀ x c,X.env.cells.lookup x=some c→c≠b)∧∀ p∈X.pn++pins,p.1≠b
theorem Inv.fpOk {X:Cx} {pins:List (Addr×Obj)} {σ:St} {H H':Hp} {s:Shared} {b:Addr} (I:Inv X pins σ H s) (hb:s.heap.objs.size≤b) (hn:H' b=none):zbx X pins H' b:=by
 refine⟨hn,Nat.ne_of_gt (Nat.lt_of_lt_of_le I.lt hb),I.nofs hb,.inr (Nat.le_trans I.sz hb),fun x c e z=>?_,fun p hp z=>?_⟩
 ·obtain⟨v,q⟩:=I.cell x c e
  exact absurd (Nat.lt_of_lt_of_le q.lt (by rw [z]; exact hb)) (Nat.lt_irrefl _)
 ·exact absurd (Nat.lt_of_lt_of_le (Heap.lt_size (I.pin p hp).1) (by rw [z]; exact hb)) (Nat.lt_irrefl _)
structure Turn (P:Program) (w:World) (K:PySem.W.Frag) (tg:Expr) (J:It) (fp:List Addr) (it:Addr) (tn:Nat→Heap→Prop):Prop where
 mem:it∈fp
 obj:∀ i h,tn i h→∀ b∈fp,∃ o,h.get? b=some o∧∀ v,o.data≠.cell v
 keep:∀ i h h',tn i h→(∀ b∈fp,∀ o,h.get? b=some o→h'.get? b=some o)→tn i h'
 item:∀ (X:Cx),X.prog=P→X.w=w→X.K=K→X.calm=true→∀ (i:Nat) (pins:List (Addr×Obj)) (s:Shared) (σ:St) (H:Hp) (E:Value→Shared→Prop),Inv X pins σ H s→(∀ b∈fp,zbx X pins H b)→tn i s.heap→J.go i H →
  wpAny (model P w) X.A (pyNext (.ref it)) (fun r s1=>∃ u,r=some u ∧
   wpAny (model P w) X.A (letOwnedTupleGo tg (.ref it) u) (fun _ s2=>∃ x H',Inv X pins σ H' s2∧RelV x u∧J.yld i H x H'∧tn (i+1) s2.heap∧∀ b∈fp,H' b=none) E s1) E s
 done:∀ (X:Cx),X.prog=P→X.w=w→X.K=K→X.calm=true→∀ (i:Nat) (pins:List (Addr×Obj)) (s:Shared) (σ:St) (H:Hp) (E:Value→Shared→Prop),Inv X pins σ H s→(∀ b∈fp,zbx X pins H b)→tn i s.heap→J.stop i H →
  wpAny (model P w) X.A (pyNext (.ref it)) (fun r s1=>r=none∧Inv X pins σ H s1) E s
 self:∀ (A:Around) (i:Nat) (s:Shared) (Q:Value→Shared→Prop) (E:Value→Shared→Prop),tn i s.heap→Q (.ref it) s→wpAny (model P w) A (pyIter (.ref it)) Q E s
abbrev TI:=St→Hp→(It→Hp→Prop)→Prop
def PIE (X:Cx) (pins:List (Addr×Obj)) (σ:St) (tg:Expr) (R:It→Hp→Prop) (itv:Value) (s2:Shared):Prop :=
 ∃ (it:Addr) (fp:List Addr) (tn:Nat→Heap→Prop) (J:It) (H':Hp),itv = .ref it∧Inv X pins σ H' s2∧Turn X.prog X.w X.K tg J fp it tn∧tn 0 s2.heap∧(∀ b∈fp,zbx X pins H' b)∧R J H'
def PI (X:Cx) (tg iter:Expr) (wi:TI):Prop :=
 ∀ (pins:List (Addr×Obj)) (s:Shared) (σ:St) (H:Hp) (R:It→Hp→Prop),Inv X pins σ H s→wi σ H R →
  wpAny (model X.prog X.w) X.A (eval iter X.env) (fun v s1=>wpAny (model X.prog X.w) X.A (pyIter v) (PIE X pins σ tg R) X.xe s1) X.xe s
theorem zgW {M:Model} {A:Around} {E:Value→Shared→Prop} {s:Shared} {tg:Expr} {it:Addr} {u:Value} {o:Obj} {n:String} {vs:Array Value} {Q:Unit→Shared→Prop} (ho:s.heap.get? it=some o) (hc:o.cls = .type n) (hd:o.data = .fields vs)
  (hn:["enumerate","zip","dict_itemiterator","dict_reverseitemiterator","odict_iterator","itertools.zip_longest","itertools.pairwise"].contains n=false) (hQ:Q () s):wpAny M A (letOwnedTupleGo tg (.ref it) u) Q E s:=by
 unfold letOwnedTupleGo
 cases tg <;> first
  | exact wpAny_pure hQ
  | (cases u <;> first
    | exact wpAny_pure hQ
    | (refine wpAny_bind (wpAny_load ho ?_)
       rw [hc,hd]
       show wpAny M A (if (["enumerate","zip","dict_itemiterator","dict_reverseitemiterator","odict_iterator","itertools.zip_longest","itertools.pairwise"].contains n && vs[0]? == some (rawInt _))=true then _ else _) Q E s
       rw [if_neg (by intro h; rw [hn,Bool.false_and] at h; cases h)]
       exact wpAny_pure hQ))
def Itl (K:PySem.W.Frag) (a:Addr):It :=
 ⟨fun i H=>∃ xs x,SqL K H a xs∧xs[i]? = some x,fun i H x H'=>H'=H∧∀ xs,SqL K H a xs→xs[i]? = some x,fun i H=>∃ xs,SqL K H a xs∧xs.length≤i⟩
def Itt (K:PySem.W.Frag) (a:Addr):It :=
 ⟨fun i H=>∃ xs x,SqT K H a xs∧xs[i]? = some x,fun i H x H'=>H'=H∧∀ xs,SqT K H a xs→xs[i]? = some x,fun i H=>∃ xs,SqT K H a xs∧xs.length≤i⟩
def Itr (lo:Int) (n:Nat):It:=⟨fun i _=>i < n,fun i H x H'=>H'=H∧x = .int (lo+i),fun i _=>n≤i⟩
theorem zel {P:Program} {w:World} {K:PySem.W.Frag} {tg:Expr} (a it:Addr):Turn P w K tg (Itl K a) [it] it (fun i h=>h.IsListIter it a i) where
 mem:=by simp
 obj:=fun i h st b hb=>by
  have e:b=it:=by simpa using hb
  subst e
  obtain⟨o,e,c,d⟩:=st
  exact⟨o,e,fun v z=>by rw [d] at z; cases z⟩
 keep:=fun i h h' st k=>st.at fun o e=>k it (by simp) o e
 item:=by
  intro X hP hw hK hc i pins s σ H E I hf st hg
  subst hP hw hK
  obtain⟨xs,x,hq,hx⟩:=hg
  obtain⟨its,rv,p,hz⟩:=I.list hq
  obtain⟨u,hu,ru⟩:=rv.get hx
  obtain⟨f0,f1,f2,f3,f4,f5⟩:=hf it (by simp)
  refine wpAny_pyNext_list_item st p.isList (x:=u) (by simpa using hu) fun h' st' sb=>?_
  have I1:Inv X pins σ H { s with heap:=h' }:=I.turned (t':=s.toks) (fun b o hb e=>(sb.2 b hb).trans e) f0 f1 f3 f4 f5
  obtain⟨o,e,c,d⟩:=id st'
  exact⟨u,rfl,zgW (s:={ s with heap:=h' }) e c d (by decide) ⟨x,H,I1,ru,⟨rfl,fun ys hy=>by rw [I.list_inj hy hq]; exact hx⟩,st',fun b hb=>(hf b hb).1⟩⟩
 done:=by
  intro X hP hw hK hc i pins s σ H E I hf st hg
  subst hP hw hK
  obtain⟨xs,hq,hx⟩:=hg
  obtain⟨its,rv,p,hz⟩:=I.list hq
  obtain⟨f0,f1,f2,f3,f4,f5⟩:=hf it (by simp)
  have hl:=rv.length
  exact wpAny_pyNext_list_end (I.ok.hd hc) st p.isList (by simp; omega) fun h' eb=>⟨rfl,I.turned (t':=s.toks) (fun b o hb e=>eb b o hb e) f0 f1 f3 f4 f5⟩
 self:=fun _ _ _ _ _ st h=>wpAny_pyIter_listiter st h
theorem zdE {P:Program} {w:World} {K:PySem.W.Frag} {tg:Expr} (a it:Addr):Turn P w K tg (Itt K a) [it] it (fun i h=>h.IsTupleIter it a i) where
 mem:=by simp
 obj:=fun i h st b hb=>by
  have e:b=it:=by simpa using hb
  subst e
  obtain⟨o,e,c,d⟩:=st
  exact⟨o,e,fun v z=>by rw [d] at z; cases z⟩
 keep:=fun i h h' st k=>st.at fun o e=>k it (by simp) o e
 item:=by
  intro X hP hw hK hc i pins s σ H E I hf st hg
  subst hP hw hK
  obtain⟨xs,x,hq,hx⟩:=hg
  obtain⟨its,rv,p,hz⟩:=I.tuple hq
  obtain⟨u,hu,ru⟩:=rv.get hx
  obtain⟨f0,f1,f2,f3,f4,f5⟩:=hf it (by simp)
  refine wpAny_pyNext_tuple_item st (show s.heap.IsTuple a its.toArray from p) (x:=u) (by simpa using hu) fun h' st' sb=>?_
  have I1:Inv X pins σ H { s with heap:=h' }:=I.turned (t':=s.toks) (fun b o hb e=>(sb.2 b hb).trans e) f0 f1 f3 f4 f5
  obtain⟨o,e,c,d⟩:=id st'
  exact⟨u,rfl,zgW (s:={ s with heap:=h' }) e c d (by decide) ⟨x,H,I1,ru,⟨rfl,fun ys hy=>by rw [I.tuple_inj hy hq]; exact hx⟩,st',fun b hb=>(hf b hb).1⟩⟩
 done:=by
  intro X hP hw hK hc i pins s σ H E I hf st hg
  subst hP hw hK
  obtain⟨xs,hq,hx⟩:=hg
  obtain⟨its,rv,p,hz⟩:=I.tuple hq
  obtain⟨f0,f1,f2,f3,f4,f5⟩:=hf it (by simp)
  have hl:=rv.length
  exact wpAny_pyNext_tuple_end (I.ok.hd hc) st (show s.heap.IsTuple a its.toArray from p) (by simp; omega) fun h' eb=>⟨rfl,I.turned (t':=s.toks) (fun b o hb e=>eb b o hb e) f0 f1 f3 f4 f5⟩
 self:=fun _ _ _ _ _ st h=>wpAny_pyIter_tupleiter st h
theorem zgc {P:Program} {w:World} {K:PySem.W.Frag} {tg:Expr} (it:Addr) (lo:Int) (n:Nat):Turn P w K tg (Itr lo n) [it] it (fun i h=>IsRangeIter h it (lo+(i:Nat)*1) ((n:Int) - (i:Nat)) 1) where
 mem:=by simp
 obj:=fun i h st b hb=>by
  have e:b=it:=by simpa using hb
  subst e
  exact⟨_,st,fun v z=>by
   have z':Data.fields _=Data.cell v:=z
   cases z'⟩
 keep:=fun i h h' st k=>k it (by simp) _ st
 item:=by
  intro X hP hw hK hc i pins s σ H E I hf st hg
  subst hP hw hK
  obtain⟨f0,f1,f2,f3,f4,f5⟩:=hf it (by simp)
  have W:=Walks.range (prog:=X.prog) (w:=X.w) (I.ok.hd hc) it lo 1 n
  refine W.item i s _ _ hg st fun v h' tk hv st' kk=>?_
  obtain⟨t,rfl⟩:=hv
  have I1:Inv X pins σ H { s with heap:=h',toks:=tk }:=I.turned (fun b o hb e=>kk b o (by simpa using hb) e) f0 f1 f3 f4 f5
  refine⟨_,rfl,zgW (s:={ s with heap:=h',toks:=tk }) (n:="range_iterator") st' rfl rfl (by decide) ⟨.int (lo+i),H,I1,⟨t,?_⟩,⟨rfl,rfl⟩,st',fun b hb=>(hf b hb).1⟩⟩
  rw [Int.mul_one]
 done:=by
  intro X hP hw hK hc i pins s σ H E I hf st hg
  subst hP hw hK
  obtain⟨f0,f1,f2,f3,f4,f5⟩:=hf it (by simp)
  exact wpAny_pyNext_range_end (I.ok.hd hc) st (by have:n≤i:=hg; omega) fun h' eb=>⟨rfl,I.turned (t':=s.toks) (fun b o hb e=>eb b o hb e) f0 f1 f3 f4 f5⟩
 self:=fun _ _ _ _ _ st h=>wpAny_pyIter_rangeiter st h
end L2
namespace L2
open PySem PySem.Spec PyProof.Rows
section
variable {X:Cx} {tg:Expr}
def zkC (K:PySem.W.Frag) (tl:TE):TI:=fun σ H R=>tl σ H fun x H1=>∃ a,x = .ref a∧(∃ xs,SqL K H1 a xs)∧R (Itl K a) H1
def zmo (K:PySem.W.Frag) (tl:TE):TI:=fun σ H R=>tl σ H fun x H1=>∃ a,x = .ref a∧(∃ xs,SqT K H1 a xs)∧R (Itt K a) H1
theorem z8 {l:Expr} {tl:TE} (hl:PE X l tl):PI X tg l (zkC X.K tl):=by
 intro pins s σ H R I h
 refine thn (hl pins s σ H _ I h) fun v s1 ⟨x,H1,I1,r1,q1⟩=>?_
 obtain⟨a,e,⟨xs,hq⟩,q⟩:=q1
 subst e
 cases r1
 obtain⟨its,rv,p,hz⟩:=I1.list hq
 refine wpAny_pyIter_list p.isList ?_
 refine⟨s1.heap.objs.size,[s1.heap.objs.size],_,_,H1,rfl,I1.kept (t':=s1.toks) fun b o e=>Heap.get?_push_of_some _ e,zel a _,⟨_,Heap.get?_push_size _ rfl,rfl,rfl⟩,fun b hb=>?_,q⟩
 have e:b=s1.heap.objs.size:=by simpa using hb
 subst e
 exact I1.fpOk (Nat.le_refl _) (I1.hok.fresh (Nat.le_refl _))
theorem zeP {l:Expr} {tl:TE} (hl:PE X l tl):PI X tg l (zmo X.K tl):=by
 intro pins s σ H R I h
 refine thn (hl pins s σ H _ I h) fun v s1 ⟨x,H1,I1,r1,q1⟩=>?_
 obtain⟨a,e,⟨xs,hq⟩,q⟩:=q1
 subst e
 cases r1
 obtain⟨its,rv,p,hz⟩:=I1.tuple hq
 refine wpAny_pyIter_tuple (show s1.heap.IsTuple a its.toArray from p) ?_
 refine⟨s1.heap.objs.size,[s1.heap.objs.size],_,_,H1,rfl,I1.kept (t':=s1.toks) fun b o e=>Heap.get?_push_of_some _ e,zdE a _,⟨_,Heap.get?_push_size _ rfl,rfl,rfl⟩,fun b hb=>?_,q⟩
 have e:b=s1.heap.objs.size:=by simpa using hb
 subst e
 exact I1.fpOk (Nat.le_refl _) (I1.hok.fresh (Nat.le_refl _))
theorem zfq {pins:List (Addr×Obj)} {σ:St} {H:Hp} {s:Shared} {R:It→Hp→Prop} {E:Value→Shared→Prop} {lo hi:Int} {t u v:Tok} {tk:Nat} (I:Inv X pins σ H s) (h1:-(2 ^ 62)≤lo) (h2:lo < 2 ^ 62) (h3:-(2 ^ 62)≤hi) (h4:hi < 2 ^ 62)
  (q:R (Itr lo (hi - lo).toNat) H):wpAny (model X.prog X.w) X.A (pyIter (.ref s.heap.objs.size)) (PIE X pins σ tg R) E { s with heap:=s.heap.push { cls:=.type "range",data:=.fields #[.int lo t,.int hi u,.int 1 v] },toks:=tk }:=by
 refine wpAny_pyIter_range (IsRange.new ..) (small_one h1 h2 h3 h4) ?_
 have I1:Inv X pins σ H { s with heap:=s.heap.push { cls:=.type "range",data:=.fields #[.int lo t,.int hi u,.int 1 v] },toks:=tk }:=I.kept fun b o e=>Heap.get?_push_of_some _ e
 refine⟨(s.heap.push { cls:=.type "range",data:=.fields #[.int lo t,.int hi u,.int 1 v] }).objs.size,[(s.heap.push { cls:=.type "range",data:=.fields #[.int lo t,.int hi u,.int 1 v] }).objs.size],_,_,H,rfl,
  I1.kept (t':=tk) fun b o e=>Heap.get?_push_of_some _ e,zgc _ lo (hi - lo).toNat,?_,fun b hb=>?_,q⟩
 ·have e1:lo+((0:Nat):Int)*1=lo:=by simp
  have e2:(((hi - lo).toNat:Nat):Int) - ((0:Nat):Int)=Builtin.Range.rangeSize lo hi 1:=by rw [rangeSize_one]; split <;> omega
  show IsRangeIter _ _ (lo+((0:Nat):Int)*1) ((((hi - lo).toNat:Nat):Int) - ((0:Nat):Int)) 1
  rw [e1,e2]
  exact Heap.get?_push_size _ rfl
 ·have e:b=(s.heap.push { cls:=.type "range",data:=.fields #[.int lo t,.int hi u,.int 1 v] }).objs.size:=by simpa using hb
  subst e
  exact I1.fpOk (Nat.le_refl _) (I1.hok.fresh (Nat.le_refl _))
def zlO (ta:TA):TI:=fun σ H R=>ta σ H fun vs H1=>∃ j:Int,vs = [.int j]∧-(2 ^ 62)≤j∧j < 2 ^ 62∧R (Itr 0 j.toNat) H1
def zlP (ta:TA):TI:=fun σ H R=>ta σ H fun vs H1=>∃ i j:Int,vs = [.int i,.int j]∧(-(2 ^ 62)≤i∧i < 2 ^ 62∧-(2 ^ 62)≤j∧j < 2 ^ 62)∧R (Itr i (j - i).toNat) H1
theorem zI {a:Expr} {ta:TA} {p pos:Pos} (hg:Gl X "range") (hm:X.mg "range" = none) (ha:PA X [a] ta) (hs:starEach [a] X.env = [(false,eval a X.env)]:=by rfl):PI X tg (.Call (.Name "range" p) [a] [] pos) (zlO ta):=by
 intro pins s σ H R I h
 refine Call_ (zbn I hg hm boot_range (PyProof.Rows.callWith_type1 (thn (ha pos pins s σ H _ I h) fun us s1 ⟨vs,H1,I1,r1,q1⟩=>?_) hs rfl))
 obtain⟨j,e,q1,q2,q⟩:=q1
 subst e
 cases r1 with
 | cons r rr =>
  cases rr
  obtain⟨t,rfl⟩:=r
  exact call_range_1 (zfq I1 (by omega) (by omega) q1 q2 (by simpa using q))
theorem zcV {a b:Expr} {ta:TA} {p pos:Pos} (hg:Gl X "range") (hm:X.mg "range" = none) (ha:PA X [a,b] ta) (hs:starEach [a,b] X.env = [(false,eval a X.env),(false,eval b X.env)]:=by rfl) (hs2:starEach [b] X.env = [(false,eval b X.env)]:=by rfl) :
  PI X tg (.Call (.Name "range" p) [a,b] [] pos) (zlP ta):=by
 intro pins s σ H R I h
 refine Call_ (zbn I hg hm boot_range (PyProof.Rows.callWith_type1 (thn (ha pos pins s σ H _ I h) fun us s1 ⟨vs,H1,I1,r1,q1⟩=>?_) (by rw [hs,hs2]) (by rw [hs2]; rfl)))
 obtain⟨i,j,e,⟨q1,q2,q3,q4⟩,q⟩:=q1
 subst e
 cases r1 with
 | cons r rr =>
  cases rr with
  | cons r' rr =>
   cases rr
   obtain⟨t,rfl⟩:=r
   obtain⟨t',rfl⟩:=r'
   exact call_range_2 (zfq I1 q1 q2 q3 q4 q)
def zmp (wi:TI) (g:TG) (tb:TS):TS:=fun D σ H=>wi σ H fun J H1=>∃ W:Nat→Nat→St→Hp→Prop,(∃ m,W 0 m σ H1)∧∀ i m σ H,W i m σ H →
 (J.stop i H∧D.nx σ H)∨(J.go i H∧∃ N:St→Hp→Prop,(∀ σ' H',N σ' H'→∃ m',m' < m∧W (i+1) m' σ' H')∧∀ x H',J.yld i H x H'→g x σ H' fun σ2 H2=>tb { D with nx:=N,ct:=N,bk:=D.nx } σ2 H2)
def zbY (fp:List Addr) (h:Heap):List (Addr×Obj):=fp.filterMap fun b=>(h.get? b).map fun o=>(b,o)
theorem zbP {fp:List Addr} {h:Heap} {b:Addr} {o:Obj} (hb:b∈fp) (e:h.get? b=some o):(b,o)∈zbY fp h:=List.mem_filterMap.mpr ⟨b,hb,by rw [e]; rfl⟩
theorem zem {fp:List Addr} {h:Heap} {p:Addr×Obj} (hp:p∈zbY fp h):p.1∈fp∧h.get? p.1=some p.2:=by
 obtain⟨b,hb,e⟩:=List.mem_filterMap.mp hp
 cases q:h.get? b with
 | none=>rw [q] at e; cases e
 | some o =>
  rw [q] at e
  have e':(b,o)=p:=Option.some.inj e
  subst e'
  exact⟨hb,q⟩
theorem Inv.pinned {pins:List (Addr×Obj)} {σ:St} {H:Hp} {s:Shared} {fp:List Addr} (I:Inv X pins σ H s) (hf:∀ b∈fp,zbx X pins H b) (ho:∀ b∈fp,∃ o,s.heap.get? b=some o∧∀ v,o.data≠.cell v):Inv X (pins++zbY fp s.heap) σ H s :=
 I.pins_of fun p hp=>(List.mem_append.mp hp).elim (fun z=>I.pin p (List.mem_append_right _ z)) fun z=>by
  obtain⟨hb,e⟩:=zem z
  obtain⟨f0,f1,f2,_⟩:=hf p.1 hb
  obtain⟨o,e',d⟩:=ho p.1 hb
  rw [e] at e'; cases e'
  exact⟨e,f0,f1,f2,d⟩
theorem Inv.unpinned {pins pl:List (Addr×Obj)} {σ:St} {H:Hp} {s:Shared} (I:Inv X (pins++pl) σ H s):Inv X pins σ H s:=I.pins_of fun p hp=>I.pin p (List.mem_append_right _ (List.mem_append_left _ hp))
theorem zai {iter:Expr} {body:List Stmt} {wi:TI} {g:TG} {tb:TS} {pos:Pos} (hp:PassesOwn (model X.prog X.w) X.A X.env X.xe) (hc:X.calm=true) (hi:PI X tg iter wi) (hg:PG X tg g) (hb:PSs X body tb)
  (hs:∀ x,foldedSetIterable iter X.env x=pure x:=by intro _; rfl):PS X (.For tg iter body [] pos) (zmp wi g tb):=by
 intro pins s σ H D I h
 refine wpAny_For (thn (hi pins s σ H _ I h) fun v s1 h1=>thn h1 fun itv s2 h2=>?_) hs
 obtain⟨it,fp,tn,J,H2,e,I2,T,st2,f2,W,⟨m0,w0⟩,turn⟩:=h2
 subst e
 have stat:∀ {H':Hp},(∀ b∈fp,H' b=none)→∀ b∈fp,zbx X pins H' b:=fun hn b hb=>⟨hn b hb,(f2 b hb).2⟩
 refine codeAny_forLoop_any (fun n s'=>∃ i σ' H',Inv X pins σ' H' s'∧tn i s'.heap∧(∀ b∈fp,H' b=none)∧W i n σ' H') ?_ m0 ⟨0,σ,H2,I2,st2,fun b hb=>(f2 b hb).1,w0⟩
 rintro n s3 ⟨i,σ3,H3,I3,st3,fr3,w3⟩
 rcases turn i n σ3 H3 w3 with ⟨stop,qn⟩ | ⟨go,N,hN,step⟩
 ·refine wpAny_passesOwn hp (thn (T.done X rfl rfl rfl hc i pins s3 σ3 H3 X.xe I3 (stat fr3) st3 stop) fun r s4 ⟨hr,I4⟩=>?_)
  subst hr
  exact wpAny_execs_nil ⟨σ3,H3,I4,qn⟩
 ·refine wpAny_passesOwn hp (thn (T.item X rfl rfl rfl hc i pins s3 σ3 H3 X.xe I3 (stat fr3) st3 go) fun r s4 ⟨u,hr,h4⟩=>?_)
  subst hr
  refine wpAny_passesOwn hp (thn h4 fun _ s5 ⟨x,H5,I5,r5,y5,st5,fr5⟩=>?_)
  have I5':=I5.pinned (stat fr5) (T.obj _ _ st5)
  refine wpAny_passesOwn hp (thn (hg _ s5 σ3 H5 x u _ I5' r5 (step x H5 y5)) fun _ s6 ⟨σ6,H6,I6,q6⟩=>?_)
  refine wpAny_passesOwn hp (thn (hb _ s6 σ6 H6 _ I6 q6) fun f s7 q7=>?_)
  have again:∀ {σ7:St} {H7:Hp},Inv X (pins++zbY fp s5.heap) σ7 H7 s7→N σ7 H7→∃ m,m < n∧∃ i σ' H',Inv X pins σ' H' s7∧tn i s7.heap∧(∀ b∈fp,H' b=none)∧W i m σ' H':=fun {σ7 H7} I7 n7=>by
   obtain⟨m',hm,w7⟩:=hN σ7 H7 n7
   refine⟨m',hm,i+1,σ7,H7,I7.unpinned,T.keep _ _ _ st5 fun b hb o e=>(I7.pin (b,o) (List.mem_append_right _ (List.mem_append_right _ (zbP hb e)))).1,fun b hb=>?_,w7⟩
   obtain⟨o,e,d⟩:=T.obj _ _ st5 b hb
   exact (I7.pin (b,o) (List.mem_append_right _ (List.mem_append_right _ (zbP hb e)))).2.1
  cases f with
  | next=>obtain⟨σ7,H7,I7,n7⟩:=q7; exact again I7 n7
  | cont=>obtain⟨σ7,H7,I7,n7⟩:=q7; exact again I7 n7
  | brk=>obtain⟨σ7,H7,I7,q7⟩:=q7; exact⟨σ7,H7,I7.unpinned,q7⟩
  | ret v=>obtain⟨x7,σ7,H7,I7,r7,q7⟩:=q7; exact⟨x7,σ7,H7,I7.unpinned,r7,q7⟩
end
theorem zba {K:PySem.W.Frag} {a:Addr} {xs:List V} {g:TG} {tb:TS} {D:Ends} {σ:St} {H:Hp} (Pv:Nat→St→Hp→Prop) (h0:Pv 0 σ H) (hl:∀ i σ H,i≤xs.length→Pv i σ H→SqL K H a xs)
  (hs:∀ i x σ H,xs[i]? = some x→Pv i σ H→g x σ H fun σ2 H2=>tb { D with nx:=Pv (i+1),ct:=Pv (i+1),bk:=D.nx } σ2 H2) (hd:∀ σ H,Pv xs.length σ H→D.nx σ H) :
  ∃ W:Nat→Nat→St→Hp→Prop,(∃ m,W 0 m σ H)∧∀ i m σ H,W i m σ H →
   ((Itl K a).stop i H∧D.nx σ H)∨((Itl K a).go i H∧∃ N:St→Hp→Prop,(∀ σ' H',N σ' H'→∃ m',m' < m∧W (i+1) m' σ' H')∧∀ x H',(Itl K a).yld i H x H'→g x σ H' fun σ2 H2=>tb { D with nx:=N,ct:=N,bk:=D.nx } σ2 H2):=by
 refine⟨fun i m σ H=>m=xs.length - i∧i≤xs.length∧Pv i σ H,⟨xs.length,by simp,Nat.zero_le _,h0⟩,?_⟩
 rintro i m σ H ⟨rfl,hi,p⟩
 have q:=hl i σ H hi p
 by_cases hlt:i < xs.length
 ·refine .inr ⟨⟨xs,xs[i],q,by simp [hlt]⟩,Pv (i+1),fun σ' H' p'=>⟨xs.length - (i+1),by omega,rfl,hlt,p'⟩,fun x H' y=>?_⟩
  obtain⟨e,y⟩:=y
  subst e
  exact hs i x σ _ (y xs q) p
 ·have e:i=xs.length:=by omega
  subst e
  exact .inl ⟨⟨xs,q,Nat.le_refl _⟩,hd σ H p⟩
theorem zjL {K:PySem.W.Frag} {a:Addr} {xs:List V} {g:TG} {tb:TS} {D:Ends} {σ:St} {H:Hp} (Pv:Nat→St→Hp→Prop) (h0:Pv 0 σ H) (hl:∀ i σ H,i≤xs.length→Pv i σ H→SqT K H a xs)
  (hs:∀ i x σ H,xs[i]? = some x→Pv i σ H→g x σ H fun σ2 H2=>tb { D with nx:=Pv (i+1),ct:=Pv (i+1),bk:=D.nx } σ2 H2) (hd:∀ σ H,Pv xs.length σ H→D.nx σ H) :
  ∃ W:Nat→Nat→St→Hp→Prop,(∃ m,W 0 m σ H)∧∀ i m σ H,W i m σ H →
   ((Itt K a).stop i H∧D.nx σ H)∨((Itt K a).go i H∧∃ N:St→Hp→Prop,(∀ σ' H',N σ' H'→∃ m',m' < m∧W (i+1) m' σ' H')∧∀ x H',(Itt K a).yld i H x H'→g x σ H' fun σ2 H2=>tb { D with nx:=N,ct:=N,bk:=D.nx } σ2 H2):=by
 refine⟨fun i m σ H=>m=xs.length - i∧i≤xs.length∧Pv i σ H,⟨xs.length,by simp,Nat.zero_le _,h0⟩,?_⟩
 rintro i m σ H ⟨rfl,hi,p⟩
 have q:=hl i σ H hi p
 by_cases hlt:i < xs.length
 ·refine .inr ⟨⟨xs,xs[i],q,by simp [hlt]⟩,Pv (i+1),fun σ' H' p'=>⟨xs.length - (i+1),by omega,rfl,hlt,p'⟩,fun x H' y=>?_⟩
  obtain⟨e,y⟩:=y
  subst e
  exact hs i x σ _ (y xs q) p
 ·have e:i=xs.length:=by omega
  subst e
  exact .inl ⟨⟨xs,q,Nat.le_refl _⟩,hd σ H p⟩
theorem zam {lo:Int} {n:Nat} {g:TG} {tb:TS} {D:Ends} {σ:St} {H:Hp} (Pv:Nat→St→Hp→Prop) (h0:Pv 0 σ H)
  (hs:∀ i σ H,i < n→Pv i σ H→g (.int (lo+i)) σ H fun σ2 H2=>tb { D with nx:=Pv (i+1),ct:=Pv (i+1),bk:=D.nx } σ2 H2) (hd:∀ σ H,Pv n σ H→D.nx σ H) :
  ∃ W:Nat→Nat→St→Hp→Prop,(∃ m,W 0 m σ H)∧∀ i m σ H,W i m σ H →
   ((Itr lo n).stop i H∧D.nx σ H)∨((Itr lo n).go i H∧∃ N:St→Hp→Prop,(∀ σ' H',N σ' H'→∃ m',m' < m∧W (i+1) m' σ' H')∧∀ x H',(Itr lo n).yld i H x H'→g x σ H' fun σ2 H2=>tb { D with nx:=N,ct:=N,bk:=D.nx } σ2 H2):=by
 refine⟨fun i m σ H=>m=n - i∧i≤n∧Pv i σ H,⟨n,by simp,Nat.zero_le _,h0⟩,?_⟩
 rintro i m σ H ⟨rfl,hi,p⟩
 by_cases hlt:i < n
 ·refine .inr ⟨hlt,Pv (i+1),fun σ' H' p'=>⟨n - (i+1),by omega,rfl,hlt,p'⟩,fun x H' y=>?_⟩
  obtain⟨e,y⟩:=y
  subst e y
  exact hs i σ _ hlt p
 ·have e:i=n:=by omega
  subst e
  exact .inl ⟨Nat.le_refl _,hd σ H p⟩
theorem zio {c:TT} {tb:TS} {D:Ends} {σ:St} {H:Hp} (Pv:St→Hp→Prop) (μ:St→Hp→Nat) (h0:Pv σ H)
  (hs:∀ σ H,Pv σ H→c σ H fun b H1=>if b=true then tb { D with nx:=fun σ' H'=>Pv σ' H'∧μ σ' H' < μ σ H,ct:=fun σ' H'=>Pv σ' H'∧μ σ' H' < μ σ H,bk:=D.nx } σ H1 else D.nx σ H1)
  (mono:∀ σ H Q Q',(∀ b H1,Q b H1→Q' b H1)→c σ H Q→c σ H Q'):zin c tb D σ H:=by
 refine⟨fun m σ H=>m=μ σ H∧Pv σ H,⟨_,rfl,h0⟩,?_⟩
 rintro m σ H ⟨rfl,p⟩
 refine mono σ H _ _ (fun b H1 q=>?_) (hs σ H p)
 cases b with
 | true=>exact⟨_,fun σ' H' ⟨p',l⟩=>⟨_,l,rfl,p'⟩,q⟩
 | false=>exact q
end L2
namespace L2
open PySem PySem.Spec PyProof.Rows
abbrev R2:=V→V→Hp→VK→Prop
def OpR (X:Cx) (f:Value→Value→Sem Value) (r:R2):Prop :=
 ∀ (pins:List (Addr×Obj)) (s:Shared) (σ:St) (H:Hp) (x y:V) (v u:Value) (Q:VK),Inv X pins σ H s→RelV x v→RelV y u→r x y H Q →
  wpAny (model X.prog X.w) X.A (f v u) (EP X pins σ Q) X.xe s
def UnR (X:Cx) (f:Value→Sem Value) (r:V→Hp→VK→Prop):Prop :=
 ∀ (pins:List (Addr×Obj)) (s:Shared) (σ:St) (H:Hp) (x:V) (v:Value) (Q:VK),Inv X pins σ H s→RelV x v→r x H Q →
  wpAny (model X.prog X.w) X.A (f v) (EP X pins σ Q) X.xe s
def zbb (X:Cx) (f:Value) (r:List V→Hp→VK→Prop):Prop :=
 ∀ (pins:List (Addr×Obj)) (s:Shared) (σ:St) (H:Hp) (xs:List V) (us:List Value) (Q:VK),Inv X pins σ H s→zE xs us→r xs H Q →
  wpAny (model X.prog X.w) X.A (call f us) (EP X pins σ Q) X.xe s
def zmq (X:Cx) (r:V→Hp→(Bool→Hp→Prop)→Prop):Prop :=
 ∀ (pins:List (Addr×Obj)) (s:Shared) (σ:St) (H:Hp) (x:V) (v:Value) (Q:Bool→Hp→Prop),Inv X pins σ H s→RelV x v→r x H Q →
  wpAny (model X.prog X.w) X.A (truthy v) (TP X pins σ Q) X.xe s
def tOp (r:R2) (ta tb:TE):TE:=fun σ H Q=>ta σ H fun x H1=>tb σ H1 fun y H2=>r x y H2 Q
def tUn (r:V→Hp→VK→Prop) (ta:TE):TE:=fun σ H Q=>ta σ H fun x H1=>r x H1 Q
def rI (C:Int→Int→Prop) (g:Int→Int→V):R2:=fun x y H Q=>∃ i j,x = .int i∧y = .int j∧C i j∧Q (g i j) H
def rI0 (g:Int→Int→V):R2:=fun x y H Q=>∃ i j,x = .int i∧y = .int j∧Q (g i j) H
def rU (g:Int→V):V→Hp→VK→Prop:=fun x H Q=>∃ i,x = .int i∧Q (g i) H
section
variable {X:Cx} {a b c:Expr} {ta tb tc:TE} {pos:Pos}
theorem zkY (ha:PE X a ta) (hb:PE X b tb) {pins:List (Addr×Obj)} {s:Shared} {σ:St} {H:Hp} {R:V→V→Hp→Prop} (I:Inv X pins σ H s)
  (h:ta σ H fun x H1=>tb σ H1 fun y H2=>R x y H2) {Q:Value→Shared→Prop} {f:Value→Value→Sem Value}
  (hf:∀ v u s2 x y H2,Inv X pins σ H2 s2→RelV x v→RelV y u→R x y H2→wpAny (model X.prog X.w) X.A (f v u) Q X.xe s2) :
  wpAny (model X.prog X.w) X.A (eval a X.env) (fun v s₁=>wpAny (model X.prog X.w) X.A (eval b X.env) (fun u s₂=>wpAny (model X.prog X.w) X.A (f v u) Q X.xe s₂) X.xe s₁) X.xe s:=by
 refine thn (ha pins s σ H _ I h) fun v s1 ⟨x,H1,I1,r1,q1⟩=>?_
 refine thn (hb pins s1 σ H1 _ I1 q1) fun u s2 ⟨y,H2,I2,r2,q2⟩=>?_
 exact hf v u s2 x y H2 I2 r1 r2 q2
theorem zg {op:Operator} {r:R2} (ho:OpR X (binaryOp op) r) (ha:PE X a ta) (hb:PE X b tb):PE X (.BinOp a op b pos) (tOp r ta tb):=by
 intro pins s σ H Q I h
 exact wpAny_BinOp (zkY ha hb I h fun v u s2 x y H2 I2 rx ry q=>ho pins s2 σ H2 x y v u Q I2 rx ry q)
theorem ziq {op:UnaryOp} {r:V→Hp→VK→Prop} (ho:UnR X (unaryOp op) r) (ha:PE X a ta):PE X (.UnaryOp op a pos) (tUn r ta):=by
 intro pins s σ H Q I h
 exact UnaryOp_ (thn (ha pins s σ H _ I h) fun v s1 ⟨x,H1,I1,r1,q1⟩=>ho pins s1 σ H1 x v Q I1 r1 q1)
theorem opI {f:Value→Value→Sem Value} {C:Int→Int→Prop} {g:Int→Int→Int}
  (rule:∀ (i j:Int) (t u:Tok) (s:Shared) (Q:Value→Shared→Prop) (E:Value→Shared→Prop),C i j→Q (.int (g i j) s.toks) { s with toks:=s.toks+1 }→wpAny (model X.prog X.w) X.A (f (.int i t) (.int j u)) Q E s) :
  OpR X f (rI C fun i j=>.int (g i j)):=by
 intro pins s σ H x y v u Q I rx ry h
 obtain⟨i,j,rfl,rfl,hc,q⟩:=h
 obtain⟨t,rfl⟩:=rx
 obtain⟨t',rfl⟩:=ry
 exact rule i j t t' s _ _ hc ⟨.int (g i j),H,I.tok _,⟨_,rfl⟩,q⟩
theorem zkZ {f:Value→Value→Sem Value} {g:Int→Int→Int}
  (rule:∀ (i j:Int) (t u:Tok) (s:Shared) (Q:Value→Shared→Prop) (E:Value→Shared→Prop),Q (.int (g i j) s.toks) { s with toks:=s.toks+1 }→wpAny (model X.prog X.w) X.A (f (.int i t) (.int j u)) Q E s) :
  OpR X f (rI0 fun i j=>.int (g i j)):=by
 intro pins s σ H x y v u Q I rx ry h
 obtain⟨i,j,rfl,rfl,q⟩:=h
 obtain⟨t,rfl⟩:=rx
 obtain⟨t',rfl⟩:=ry
 exact rule i j t t' s _ _ ⟨.int (g i j),H,I.tok _,⟨_,rfl⟩,q⟩
theorem zjM {f:Value→Value→Sem Value} {g:Int→Int→Bool}
  (rule:∀ (i j:Int) (t u:Tok) (s:Shared) (Q:Value→Shared→Prop) (E:Value→Shared→Prop),Q (.bool (g i j)) s→wpAny (model X.prog X.w) X.A (f (.int i t) (.int j u)) Q E s) :
  OpR X f (rI0 fun i j=>.bl (g i j)):=by
 intro pins s σ H x y v u Q I rx ry h
 obtain⟨i,j,rfl,rfl,q⟩:=h
 obtain⟨t,rfl⟩:=rx
 obtain⟨t',rfl⟩:=ry
 exact rule i j t t' s _ _ ⟨.bl (g i j),H,I,rfl,q⟩
def zlQ (i j:Int):Prop:=0 < j∧j < 1073741824
def zmr (i j:Int):Prop:=0≤j∧j≤1000000∧i.natAbs < 2 ^ 64
def zk0 (i j:Int):Prop:=(-(2 ^ 64) < i∧i < 2 ^ 64)∨(-(2 ^ 64) < j∧j < 2 ^ 64)
theorem zk0.ok {i j:Int} (h:zk0 i j):IntMulOk i j:=by
 rcases h with ⟨h1,h2⟩ | ⟨h1,h2⟩
 ·exact .of_left (intBits_le_64 h1 h2)
 ·exact .of_right (intBits_le_64 h1 h2)
theorem zJ:OpR X (binaryOp .Add) (rI0 fun i j=>.int (i+j)):=zkZ fun _ _ _ _ _ _ _ q=>add_int q
theorem zV:OpR X (binaryOp .Sub) (rI0 fun i j=>.int (i - j)):=zkZ fun _ _ _ _ _ _ _ q=>sub_int q
theorem zD:OpR X (binaryOp .Mult) (rI zk0 fun i j=>.int (i*j)):=opI fun _ _ _ _ _ _ _ hc q=>mul_int q hc.ok
theorem zaA:OpR X (binaryOp .FloorDiv) (rI zlQ fun i j=>.int (i / j)):=opI fun i j _ _ _ _ _ hc q=>by
 have h1:(0:Int) < j:=hc.1
 have h2:j < 1073741824:=hc.2
 exact floordiv_int (by omega) (by rw [Int.fdiv_eq_ediv_of_nonneg i (by omega)]; exact q) (.inl (PyProof.noPylong_small (by omega)))
theorem zC:OpR X (binaryOp .Mod) (rI (fun _ j=>0 < j) fun i j=>.int (i % j)):=opI fun i j _ _ _ _ _ hc q=>by
 have h1:(0:Int) < j:=hc
 exact mod_int' (by omega) (by rw [Int.fmod_eq_emod_of_nonneg i (by omega)]; exact q)
theorem zk1:OpR X (binaryOp .Pow) (rI zmr fun i j=>.int (i ^ j.toNat)):=opI fun _ _ _ _ _ _ _ hc q=>pow_int_small hc.1 hc.2.1 hc.2.2 q
theorem zjN:OpR X (inplaceOp .Add) (rI0 fun i j=>.int (i+j)):=zkZ fun _ _ _ _ _ _ _ q=>iadd_int q
theorem zir:OpR X (inplaceOp .FloorDiv) (rI zlQ fun i j=>.int (i / j)):=opI fun i j _ _ _ _ _ hc q=>by
 have h1:(0:Int) < j:=hc.1
 have h2:j < 1073741824:=hc.2
 exact ifloordiv_int (by omega) (by rw [Int.fdiv_eq_ediv_of_nonneg i (by omega)]; exact q) (.inl (PyProof.noPylong_small (by omega)))
theorem unI {f:Value→Sem Value} {g:Int→Int}
  (rule:∀ (i:Int) (t:Tok) (s:Shared) (Q:Value→Shared→Prop) (E:Value→Shared→Prop),Q (.int (g i) s.toks) { s with toks:=s.toks+1 }→wpAny (model X.prog X.w) X.A (f (.int i t)) Q E s) :
  UnR X f (rU fun i=>.int (g i)):=by
 intro pins s σ H x v Q I rx h
 obtain⟨i,rfl,q⟩:=h
 obtain⟨t,rfl⟩:=rx
 exact rule i t s _ _ ⟨.int (g i),H,I.tok _,⟨_,rfl⟩,q⟩
theorem zgd:UnR X (unaryOp .USub) (rU fun i=>.int (-i)):=unI fun _ _ _ _ _ q=>neg_int q
end
def zlR:V→V→Bool
 | .non,.non=>true | .non,.int _=>true | .int _,.non=>true | .non,.bl _=>true | .bl _,.non=>true | .non,.str _=>true | .str _,.non=>true
 | .int _,.int _=>true | .bl _,.bl _=>true | .str _,.str _=>true | .byt _,.byt _=>true
 | .int _,.str _=>true | .str _,.int _=>true | .bl _,.str _=>true | .str _,.bl _=>true
 | _,_=>false
def rEq:R2:=fun x y H Q=>zlR x y=true∧Q (.bl (decide (x=y))) H
def rNe:R2:=fun x y H Q=>zlR x y=true∧Q (.bl (!decide (x=y))) H
theorem zgX {i j:Int}:decide (V.int i=V.int j)=(i == j):=by
 rw [Bool.eq_iff_iff]
 simp
theorem zis {i j:Bool}:decide (V.bl i=V.bl j)=(i == j):=by
 rw [Bool.eq_iff_iff]
 simp
theorem zgY {i j:Str}:decide (V.str i=V.str j)=(i == j):=by
 rw [Bool.eq_iff_iff]
 simp
theorem zgZ {i j:Array UInt8}:decide (V.byt i=V.byt j)=(i.toList == j.toList):=by
 rw [Bool.eq_iff_iff]
 cases i
 cases j
 simp
section
variable {X:Cx} {a b c:Expr} {ta tb tc:TE} {pos:Pos}
theorem zT {pins:List (Addr×Obj)} {σ:St} {H:Hp} {s:Shared} {Q:VK} {k k':Bool} (I:Inv X pins σ H s) (q:Q (.bl k) H) (e:k=k'):EP X pins σ Q (.bool k') s:=by
 subst e
 exact⟨.bl k,H,I,rfl,q⟩
theorem zc4:OpR X (compareOp .Eq) rEq:=by
 intro pins s σ H x y v u Q I rx ry h
 obtain⟨hs,q⟩:=h
 cases x with
 | non =>
  cases rx
  cases y with
  | non=>cases ry; exact PySem.EqNone.eq_none_none (zT I q (by simp))
  | bl j=>cases ry; exact PySem.EqNone.eq_none_bool (zT I q (by simp))
  | int j=>obtain⟨t',rfl⟩:=ry; exact PySem.EqNone.eq_none_int (zT I q (by simp))
  | str j=>obtain⟨t',rfl⟩:=ry; exact PySem.EqNone.eq_none_str (zT I q (by simp))
  | _=>exact absurd (show false=true from hs) Bool.false_ne_true
 | bl i =>
  cases rx
  cases y with
  | non=>cases ry; exact PySem.EqNone.eq_bool_none (zT I q (by simp))
  | bl j=>cases ry; exact eq_bool (zT I q zis)
  | str j=>obtain⟨t',rfl⟩:=ry; exact PySem.EqMixed.eq_bool_str (zT I q (by simp))
  | _=>exact absurd (show false=true from hs) Bool.false_ne_true
 | int i =>
  obtain⟨t,rfl⟩:=rx
  cases y with
  | non=>cases ry; exact PySem.EqNone.eq_int_none (zT I q (by simp))
  | int j=>obtain⟨t',rfl⟩:=ry; exact eq_int (zT I q zgX)
  | str j=>obtain⟨t',rfl⟩:=ry; exact PySem.EqMixed.eq_int_str (zT I q (by simp))
  | _=>exact absurd (show false=true from hs) Bool.false_ne_true
 | str i =>
  obtain⟨t,rfl⟩:=rx
  cases y with
  | non=>cases ry; exact PySem.EqNone.eq_str_none (zT I q (by simp))
  | bl j=>cases ry; exact PySem.EqMixed.eq_str_bool (zT I q (by simp))
  | int j=>obtain⟨t',rfl⟩:=ry; exact PySem.EqMixed.eq_str_int (zT I q (by simp))
  | str j=>obtain⟨t',rfl⟩:=ry; exact eq_str (zT I q zgY)
  | _=>exact absurd (show false=true from hs) Bool.false_ne_true
 | byt i =>
  obtain⟨t,rfl⟩:=rx
  cases y with
  | byt j=>obtain⟨t',rfl⟩:=ry; exact PySem.W.eq_bytes (zT I q zgZ)
  | _=>exact absurd (show false=true from hs) Bool.false_ne_true
 | _=>cases y <;> exact absurd (show false=true from hs) Bool.false_ne_true
theorem zc5:OpR X (compareOp .NotEq) rNe:=by
 intro pins s σ H x y v u Q I rx ry h
 obtain⟨hs,q⟩:=h
 cases x with
 | non =>
  cases rx
  cases y with
  | non=>cases ry; exact PySem.EqNone.ne_none_none (zT I q (by simp))
  | bl j=>cases ry; exact PySem.EqNone.ne_none_bool (zT I q (by simp))
  | int j=>obtain⟨t',rfl⟩:=ry; exact PySem.EqNone.ne_none_int (zT I q (by simp))
  | str j=>obtain⟨t',rfl⟩:=ry; exact PySem.EqNone.ne_none_str (zT I q (by simp))
  | _=>exact absurd (show false=true from hs) Bool.false_ne_true
 | bl i =>
  cases rx
  cases y with
  | non=>cases ry; exact PySem.EqNone.ne_bool_none (zT I q (by simp))
  | bl j=>cases ry; exact ne_bool (zT I q (congrArg not zis))
  | str j=>obtain⟨t',rfl⟩:=ry; exact PySem.EqMixed.ne_bool_str (zT I q (by simp))
  | _=>exact absurd (show false=true from hs) Bool.false_ne_true
 | int i =>
  obtain⟨t,rfl⟩:=rx
  cases y with
  | non=>cases ry; exact PySem.EqNone.ne_int_none (zT I q (by simp))
  | int j=>obtain⟨t',rfl⟩:=ry; exact ne_int (zT I q (congrArg not zgX))
  | str j=>obtain⟨t',rfl⟩:=ry; exact PySem.EqMixed.ne_int_str (zT I q (by simp))
  | _=>exact absurd (show false=true from hs) Bool.false_ne_true
 | str i =>
  obtain⟨t,rfl⟩:=rx
  cases y with
  | non=>cases ry; exact PySem.EqNone.ne_str_none (zT I q (by simp))
  | bl j=>cases ry; exact PySem.EqMixed.ne_str_bool (zT I q (by simp))
  | int j=>obtain⟨t',rfl⟩:=ry; exact PySem.EqMixed.ne_str_int (zT I q (by simp))
  | str j=>obtain⟨t',rfl⟩:=ry; exact ne_str (zT I q (congrArg not zgY))
  | _=>exact absurd (show false=true from hs) Bool.false_ne_true
 | byt i =>
  obtain⟨t,rfl⟩:=rx
  cases y with
  | byt j=>obtain⟨t',rfl⟩:=ry; exact PySem.W.ne_bytes (zT I q (congrArg not zgZ))
  | _=>exact absurd (show false=true from hs) Bool.false_ne_true
 | _=>cases y <;> exact absurd (show false=true from hs) Bool.false_ne_true
theorem zdF:OpR X (compareOp .Lt) (rI0 fun i j=>.bl (decide (i < j))):=zjM fun _ _ _ _ _ _ _ q=>lt_int q
theorem zkD:OpR X (compareOp .LtE) (rI0 fun i j=>.bl (decide (i≤j))):=zjM fun _ _ _ _ _ _ _ q=>le_int q
theorem zfr:OpR X (compareOp .Gt) (rI0 fun i j=>.bl (decide (j < i))):=zjM fun _ _ _ _ _ _ _ q=>gt_int q
theorem zg0:OpR X (compareOp .GtE) (rI0 fun i j=>.bl (decide (j≤i))):=zjM fun _ _ _ _ _ _ _ q=>ge_int q
theorem zg1:OpR X (compareOp .IsNot) (fun x y H Q=>y = .non∧Q (.bl (!decide (x = .non))) H):=by
 intro pins s σ H x y v u Q I rx ry h
 obtain⟨rfl,q⟩:=h
 cases ry
 refine isnot_none_gen (zT I q ?_)
 cases x <;> first
  | (cases rx; rfl)
  | (obtain⟨t,rfl⟩:=rx; rfl)
theorem zF (b:Expr) {op:CmpOp} (h:op≠.In:=by decide) (h2:op≠.NotIn:=by decide):behindInMarks op b=false:=by
 have e1:(op == CmpOp.In)=false:=by cases op <;> first | rfl | exact absurd rfl h
 have e2:(op == CmpOp.NotIn)=false:=by cases op <;> first | rfl | exact absurd rfl h2
 cases b <;> simp [behindInMarks,e1,e2]
theorem zcC {op:CmpOp} {r:R2} (ho:OpR X (compareOp op) r) (ha:PE X a ta) (hb:PE X b tb) (hm:behindInMarks op b=false):PE X (.Compare a [op] [b] pos) (tOp r ta tb):=by
 intro pins s σ H Q I h
 exact wpAny_Compare1 (zkY ha hb I h fun v u s2 x y H2 I2 rx ry q=>ho pins s2 σ H2 x y v u Q I2 rx ry q) hm
def zlS (t:TE):TT:=fun σ H Q=>t σ H fun x H'=>∃ k,x = .bl k∧Q k H'
theorem zz {op:CmpOp} {r:R2} (ho:OpR X (compareOp op) r) (ha:PE X a ta) (hb:PE X b tb) (hm:behindInMarks op b=false):PT X (.Compare a [op] [b] pos) (zlS (tOp r ta tb)):=by
 intro pins s σ H Q I h
 refine wpAny_isTrue_Compare1 (thn (ha pins s σ H _ I h) fun v s1 ⟨x,H1,I1,r1,q1⟩=>thn (hb pins s1 σ H1 _ I1 q1) fun u s2 ⟨y,H2,I2,r2,q2⟩ =>
  thn (ho pins s2 σ H2 x y v u _ I2 r1 r2 q2) fun c s3 ⟨z,H3,I3,r3,k,e,q3⟩=>?_) hm
 subst e
 cases r3
 exact wpAny_truthy_bool ⟨H3,I3,q3⟩
def zk2 (r r':R2) (ta tb tc:TE):TE:=fun σ H Q=>ta σ H fun x H1=>tb σ H1 fun y H2=>r x y H2 fun z H3=>∃ k,z = .bl k ∧
 (if k=true then tc σ H3 fun w' H4=>r' y w' H4 Q else Q (.bl false) H3)
theorem zit {op op':CmpOp} {r r':R2} (ho:OpR X (compareOp op) r) (ho':OpR X (compareOp op') r') (ha:PE X a ta) (hb:PE X b tb) (hc:PE X c tc)
  (hm:lastMarks [op,op'] [b,c]=false:=by with_unfolding_all rfl):PE X (.Compare a [op,op'] [b,c] pos) (zk2 r r' ta tb tc):=by
 intro pins s σ H Q I h
 refine Compare_chain (thn (ha pins s σ H _ I h) fun v s1 ⟨x,H1,I1,r1,q1⟩=>chain_link (thn (hb pins s1 σ H1 _ I1 q1) fun u s2 ⟨y,H2,I2,r2,q2⟩ =>
  thn (ho pins s2 σ H2 x y v u _ I2 r1 r2 q2) fun d s3 ⟨z,H3,I3,r3,k,e,q3⟩=>?_)) hm
 subst e
 cases r3
 refine wpAny_truthy_bool ?_
 cases k with
 | false=>exact ite_ff ⟨.bl false,H3,I3,rfl,q3⟩
 | true=>exact ite_tt (chain_last (thn (hc pins s3 σ H3 _ I3 q3) fun w' s4 ⟨z',H4,I4,r4,q4⟩=>ho' pins s4 σ H4 y z' u w' Q I4 r2 r4 q4))
def zlT (K:PySem.W.Frag) (x:V) (H:Hp) (k:Bool):Prop :=
 match x with
 | .non=>k=false
 | .bl b=>k=b
 | .int i=>k=(i != 0)
 | .str y=>y.length≤sizeLine∧k=((y.length:Int) != 0)
 | .byt y=>y.size≤sizeLine∧k=((y.size:Int) != 0)
 | .ref p=>(∃ xs,SqL K H p xs∧k = !xs.isEmpty)∨(∃ xs,SqT K H p xs∧k = !xs.isEmpty)∨∃ kvs,H p=some (.dK kvs)∧k = !kvs.isEmpty
 | _=>False
theorem zge {κ:Type} {kvs:List (κ×V)} {vs:List (κ×Value)} (r:KV kvs vs):(!vs.isEmpty) = !kvs.isEmpty:=by
 cases r <;> rfl
theorem zdG {xs:List V} {its:List Value} (r:zE xs its):(!its.toArray.isEmpty) = !xs.isEmpty:=by
 cases r <;> simp
theorem zdH:(sizeLine:Nat) < 2 ^ 63:=by rw [sizeLine_eq]; decide
theorem zk3:zmq X (fun x H Q=>∃ k,zlT X.K x H k∧Q k H):=by
 intro pins s σ H x v Q I rx h
 obtain⟨k,e,q⟩:=h
 have hl:=zdH
 have hs:sizeLine=16777216:=sizeLine_eq
 cases x with
 | non =>
  cases rx
  have e':k=false:=e
  subst e'
  exact truthy_none ⟨H,I,q⟩
 | bl b =>
  cases rx
  have e':k=b:=e
  subst e'
  exact wpAny_truthy_bool ⟨H,I,q⟩
 | int i =>
  obtain⟨t,rfl⟩:=rx
  have e':k=(i != 0):=e
  subst e'
  exact PySem.P.truthy_int ⟨H,I,q⟩
 | str y =>
  obtain⟨t,rfl⟩:=rx
  obtain⟨hy,e'⟩:y.length≤sizeLine∧k=((y.length:Int) != 0):=e
  subst e'
  exact PySem.P.truthy_str (by omega) ⟨H,I.tok _,q⟩
 | byt y =>
  obtain⟨t,rfl⟩:=rx
  obtain⟨hy,e'⟩:y.size≤sizeLine∧k=((y.size:Int) != 0):=e
  subst e'
  exact PySem.W.truthy_bytes (by omega) ⟨H,I.tok _,q⟩
 | ref p =>
  cases rx
  have e':(∃ xs,SqL X.K H p xs∧k = !xs.isEmpty)∨(∃ xs,SqT X.K H p xs∧k = !xs.isEmpty)∨∃ kvs,H p=some (.dK kvs)∧k = !kvs.isEmpty:=e
  rcases e' with ⟨xs,hx,e'⟩ | ⟨xs,hx,e'⟩ | ⟨kvs,hx,e'⟩
  ·subst e'
   obtain⟨its,r,pl,hz⟩:=I.list hx
   have hlen:=r.length
   exact wpAny_truthy_list pl.isList (by simp only [List.size_toArray]; omega) ⟨H,I.tok _,by rw [zdG r]; exact q⟩
  ·subst e'
   obtain⟨its,r,pl,hz⟩:=I.tuple hx
   have hlen:=r.length
   exact truthy_tuple pl (by simp only [List.size_toArray]; omega) ⟨H,I.tok _,by rw [zdG r]; exact q⟩
  ·subst e'
   obtain⟨hz,hS,vs,r,m⟩:kvs.length≤sizeLine∧(p == sysModules)=false∧∃ vs,KV kvs vs∧s.heap.DictOf (zan X.prog X.w) p vs:=I.hok p _ hx
   have hlen:kvs.length=vs.length:=Paired.length r
   exact wpAny_truthy_dict hS m (by omega) ⟨H,I.tok _,by rw [zge r]; exact q⟩
 | _=>exact (show False from e).elim
theorem ziu (ha:PE X a ta) (he:∀ whole,isTrue a X.env whole=(do let v ← whole; standAt a.pos; holding [v] (truthy v))) :
  PT X a (fun σ H Q=>ta σ H fun x H'=>∃ k,zlT X.K x H' k∧Q k H'):=by
 intro pins s σ H Q I h
 exact isTrue_plain (thn (ha pins s σ H _ I h) fun v s1 ⟨x,H1,I1,r1,q1⟩=>zk3 pins s1 σ H1 x v Q I1 r1 q1) (he _)
theorem vals1 {x:V} {us:List Value} (r:zE [x] us):∃ u,us = [u]∧RelV x u:=by
 cases r with
 | cons r1 r2=>cases r2; exact⟨_,rfl,r1⟩
theorem vals2 {x y:V} {us:List Value} (r:zE [x,y] us):∃ u w',us = [u,w']∧RelV x u∧RelV y w':=by
 cases r with
 | cons r1 r2 =>
  cases r2 with
  | cons r3 r4=>cases r4; exact⟨_,_,rfl,r1,r3⟩
theorem zen (hc:X.calm=true):zbb X (.builtin "min") (fun xs H Q=>∃ i j,xs = [.int i,.int j]∧Q (.int (if j < i then j else i)) H):=by
 intro pins s σ H xs us Q I r h
 obtain⟨i,j,rfl,q⟩:=h
 obtain⟨u,w',rfl,⟨t,rfl⟩,⟨t',rfl⟩⟩:=vals2 r
 refine min_two_ints (I.ok.hd hc) fun h' tk k=>⟨_,H,I.kept k,?_,q⟩
 by_cases hj:j < i
 ·rw [if_pos hj,if_pos hj]; exact⟨_,rfl⟩
 ·rw [if_neg hj,if_neg hj]; exact⟨_,rfl⟩
theorem zhw:zbb X (.type "int") (fun xs H Q=>(∃ i,xs = [.int i]∧Q (.int i) H)∨∃ k,xs = [.bl k]∧Q (.int (if k then 1 else 0)) H):=by
 intro pins s σ H xs us Q I r h
 rcases h with ⟨i,rfl,q⟩ | ⟨k,rfl,q⟩
 ·obtain⟨u,rfl,t,rfl⟩:=vals1 r
  exact call_int_int ⟨.int i,H,I,⟨_,rfl⟩,q⟩
 ·obtain⟨u,rfl,r1⟩:=vals1 r
  cases r1
  exact call_int_bool ⟨.int (if k then 1 else 0),H,I.tok _,⟨_,rfl⟩,q⟩
end
end L2
namespace L2
open PySem PySem.Spec PyProof.Rows
structure ObjM (h:Heap) (x dx C:Addr) (mA:Str→Option Value):Prop where
 obj:h.get? x=some (PySem.W.instObj C dx)
 ns:h.Ns1 dx mA
 ne:dx≠x
theorem zhx {h:Heap} {dx:Addr} {mA:Str→Option Value} (n:h.Ns1 dx mA):∃ od,h.get? dx=some od∧∀ name,PySem.W.lookIn name od=some (mA name):=by
 obtain⟨o,es,ep,ho,hd,hk,_,hm⟩:=n
 refine⟨o,ho,fun name=>?_⟩
 have e:=hm name
 unfold nsFind findBy at e
 rw [← Array.find?_toList] at e
 unfold PySem.W.lookIn
 rw [hd]
 dsimp only
 split
 ·rename_i y q
  rw [q] at e
  exact congrArg some e
 ·rename_i q
  rw [q] at e
  have a:es.toList.any (·.refKey)=false:=by
   rw [List.any_eq_false]
   intro y hy
   obtain⟨z,t,hkey⟩:=hk y (Array.mem_toList_iff.mp hy)
   simp [DictEntry.refKey,hkey]
  have a':¬ es.toList.any (·.refKey)=true:=by rw [a]; exact Bool.false_ne_true
  rw [if_neg a']
  exact congrArg some e
theorem ObjM.look {h:Heap} {x dx C:Addr} {mA:Str→Option Value} (I:ObjM h x dx C mA):∃ od,PySem.W.InstAt h x (PySem.W.instObj C dx) C (some od)∧∀ name,PySem.W.lookIn name od=some (mA name) :=
 let ⟨od,ho,hl⟩:=zhx I.ns
 ⟨od,⟨I.obj,rfl,rfl,ho⟩,hl⟩
section
variable {prog:Program} {w:World} {A:Around} {E:Value→Shared→Prop} {s:Shared} {K:PySem.W.Frag} {x dx C f:Addr} {mA:Str→Option Value} {name:Str} {v:Value}
end
section
variable {P:Program} {w:World} {H H':Hp} {h h':Heap} {a C dx:Addr} {fs fs':List (Str×V)}
theorem zjO (hok:HOk P w H h) (e:H a=some (.ins C dx fs)):∃ mA,ObjM h a dx C mA∧(∀ f,zeJ (fs.lookup f) (mA f))∧PySem.Within mA (fs.map (·.1))∧fs.length≤1000∧H dx=some (.own a):=by
 obtain⟨d,z,ne,ob,mA,n,r,q⟩:=(show z7 P w H h a (.ins C dx fs) from hok a _ e)
 exact⟨mA,⟨ob,n,ne⟩,r,q,z,d⟩
end
structure Cls (K:PySem.W.Frag) (C:Addr):Prop where
 pg:PySem.W.plainGet K C Str.empty=true
 hd:PySem.W.hasDictIn K C=true
 po:PySem.W.plainOver K C=true
 sa:PySem.W.findIn K (.ref C) "__setattr__" = some (some (.builtin "object.__setattr__"))
theorem Cls.get {K:PySem.W.Frag} {C:Addr} (c:Cls K C) (f:Str):PySem.W.plainGet K C f=true:=c.pg
section
variable {X:Cx} {pins:List (Addr×Obj)} {σ:St} {H:Hp} {s:Shared} {a C dx:Addr} {fs:List (Str×V)} {f:Str} {v:V} {A:Around} {E:Value→Shared→Prop}
end
section
variable {X:Cx} {o e value:Expr} {f:Str} {pos pos' tpos:Pos} {ta tv:TE}
end
section
variable {X:Cx} {pins:List (Addr×Obj)} {σ:St} {H:Hp} {s:Shared} {A:Around} {E:Value→Shared→Prop} {Q:Value→Shared→Prop} {c:Value} {b:Bool}
inductive TyOf (K:PySem.W.Frag) (H:Hp):V→Value→Prop where
 | non:TyOf K H .non (.type "NoneType")
 | bl (x:Bool):TyOf K H (.bl x) (.type "bool")
 | int (i:Int):TyOf K H (.int i) (.type "int")
 | str (x:Str):TyOf K H (.str x) (.type "str")
 | flt (x:UInt64):TyOf K H (.flt x) (.type "float")
 | lst {a:Addr} {xs:List V} (e:H a=some (.lst xs)):TyOf K H (.ref a) (.type "list")
 | frz {a:Addr} {o:Obj} {xs:List V} (e:H a=some (.frz o (.lst xs))):TyOf K H (.ref a) (.type "list")
 | tup {a:Addr} {xs:List V} (e:H a=some (.tup xs)):TyOf K H (.ref a) (.type "tuple")
 | dK {a:Addr} {kvs:List (Key×V)} (e:H a=some (.dK kvs)):TyOf K H (.ref a) (.type "dict")
 | dT {a:Addr} {kvs:List (List Key×V)} (e:H a=some (.dT kvs)):TyOf K H (.ref a) (.type "dict")
 | ins {a C dx:Addr} {fs:List (Str×V)} (e:H a=some (.ins C dx fs)) (cl:Cls K C) (ha:PySem.W.findIn K (.ref C) "__class__" = some (some (.builtin "object.__class__")))
   (hn:PySem.W.specialIn K (.builtin "object.__class__") "__get__" = some (some (.builtin "getset_descriptor.__get__"))) (htk:PySem.W.takesIn K (.builtin "object.__class__")=some true)
   (hm:PySem.W.mroIn K C (.type "object")=some true):TyOf K H (.ref a) (.ref C)
theorem zhy {x:V} {u t:Value} (I:Inv X pins σ H s) (rx:RelV x u) (ty:TyOf X.K H x t) (e:PySem.W.kitOne X.K t c=some b) (h:∀ tk,Q (.bool b) { s with toks:=tk }) :
  wpAny (model X.prog X.w) A (call (.builtin "isinstance") [u,c]) Q E s:=by
 cases ty with
 | non=>cases (show u=Value.none from rx); exact PySem.W.kia_one PySem.W.kitx_none I.kIn True.intro e (fun z=>nomatch z) h
 | bl y=>cases (show u=Value.bool y from rx); exact PySem.W.kia_one PySem.W.kitx_bool I.kIn True.intro e (fun z=>nomatch z) h
 | int i=>obtain⟨t,q⟩:=(show ∃ t,u=Value.int i t from rx); cases q; exact PySem.W.kia_one PySem.W.kitx_int I.kIn True.intro e (fun z=>nomatch z) h
 | str y=>obtain⟨t,q⟩:=(show ∃ t,u=Value.str y t from rx); cases q; exact PySem.W.kia_one PySem.W.kitx_str I.kIn True.intro e (fun z=>nomatch z) h
 | flt y=>obtain⟨t,q⟩:=(show ∃ t,u=Value.float y t from rx); cases q; exact PySem.W.kia_one PySem.W.kitx_float I.kIn True.intro e (fun z=>nomatch z) h
 | @lst a xs ea =>
  cases (show u=Value.ref a from rx)
  obtain⟨_,_,n,_,h1⟩:=(show z7 X.prog X.w H s.heap a (.lst xs) from I.hok a _ ea)
  exact PySem.W.kia_one PySem.W.kitx_list I.kIn ⟨_,h1,rfl⟩ e (fun z=>nomatch z) h
 | @frz a ob xs ea =>
  cases (show u=Value.ref a from rx)
  obtain⟨_,_,_,n,_,h1⟩:=(show z7 X.prog X.w H s.heap a (.frz ob (.lst xs)) from I.hok a _ ea)
  exact PySem.W.kia_one PySem.W.kitx_list I.kIn ⟨_,h1,rfl⟩ e (fun z=>nomatch z) h
 | @tup a xs ea =>
  cases (show u=Value.ref a from rx)
  obtain⟨_,_,_,p⟩:=(show z7 X.prog X.w H s.heap a (.tup xs) from I.hok a _ ea)
  obtain⟨o,h1,h2,_⟩:=p
  exact PySem.W.kia_one PySem.W.kitx_tuple I.kIn ⟨o,h1,h2⟩ e (fun z=>nomatch z) h
 | @dK a kvs ea =>
  cases (show u=Value.ref a from rx)
  obtain⟨_,_,vs,_,p⟩:=(show z7 X.prog X.w H s.heap a (.dK kvs) from I.hok a _ ea)
  obtain⟨o,es,ep,h1,h2,_⟩:=p
  exact PySem.W.kia_one PySem.W.kitx_dict I.kIn ⟨o,h1,h2.1⟩ e (fun z=>nomatch z) h
 | @dT a kvs ea =>
  cases (show u=Value.ref a from rx)
  obtain⟨_,_,xs,_,o,es,ep,h1,h2,_⟩:=(show z7 X.prog X.w H s.heap a (.dT kvs) from I.hok a _ ea)
  exact PySem.W.kia_one PySem.W.kitx_dict I.kIn ⟨o,h1,h2.1⟩ e (fun z=>nomatch z) h
 | @ins a C dx fs ea cl ha hn htk hm =>
  cases (show u=Value.ref a from rx)
  obtain⟨mA,O,_⟩:=zjO I.hok ea
  obtain⟨od,J,_⟩:=O.look
  exact PySem.W.kia_one (PySem.W.kitx_own (cl.get _) cl.hd ha hn htk hm) I.kIn J e (fun z=>nomatch z) h
end
end L2
namespace L2
open PySem PySem.Spec PyProof.Rows
structure Room (k:Nat) (A:Around):Prop where
 hd:A.handled=none
 dp:A.depth+3*k+5 < recursionLimit
 un:A.units+16*k+200 < cLine
theorem Room.mono {j k:Nat} {A:Around} (r:Room k A) (h:j≤k):Room j A:=⟨r.hd,by have:=r.dp; omega,by have:=r.un; omega⟩
theorem Room.deeper {k:Nat} {A:Around} (r:Room (k+1) A) (env:Env):Room k (A.deeper env) :=
 ⟨r.hd,by have:=r.dp; show A.depth+1+3*k+5 < _; omega,by have:=r.un; show A.units+3+16*k+200 < _; omega⟩
theorem Room.depth {k:Nat} {A:Around} (r:Room k A):A.depth < recursionLimit:=by have:=r.dp; omega
theorem Room.units {k:Nat} {A:Around} (r:Room k A):A.units+64 < cLine:=by have:=r.un; omega
def zk4:TA:=fun _ H Q=>Q [] H
def zg2 (ta:TE) (tr:TA):TA:=fun σ H Q=>ta σ H fun x H1=>tr σ H1 fun xs H2=>Q (x :: xs) H2
section
variable {X:Cx} {e:Expr} {es:List Expr} {te:TE} {t:TA} {pos:Pos}
theorem ze:PA X [] zk4:=fun _ _ _ _ H Q I h=>Calls.spliced_nil ⟨[],H,I,.nil,h⟩
theorem za (ha:PE X e te) (hr:PA X es t) (hs:starEach (e :: es) X.env=(false,eval e X.env) :: starEach es X.env:=by rfl):PA X (e :: es) (zg2 te t):=by
 intro pos pins s σ H Q I h
 rw [hs]
 show wpAny _ _ (spliced ((false,eval e X.env) :: backTo pos (starEach es X.env))) _ _ s
 refine Calls.spliced_cons (thn (ha pins s σ H _ I h) fun u s1 ⟨x,H1,I1,r1,q1⟩=>?_)
 exact thn (hr pos pins s1 σ H1 _ I1 q1) fun us s2 ⟨xs,H2,I2,r2,q2⟩=>⟨x :: xs,H2,I2,.cons r1 r2,q2⟩
def zms (t:TA):TE:=fun σ H Q=>t σ H fun xs H1=>xs.length≤sizeLine∧∀ p,H1 p=none→Q (.ref p) (upd H1 p (.tup xs))
def zgf (t:TA):TE:=fun σ H Q=>t σ H fun xs H1=>xs.length≤sizeLine∧∀ p,H1 p=none→Q (.ref p) (upd H1 p (.lst xs))
theorem zbg {x1} (h:PA X es t):PE X (.Tuple es x1 pos) (zms t):=by
 intro pins s σ H Q I hq
 refine wpAny_Tuple_spliced (thn (h pos pins s σ H _ I hq) fun us s1 ⟨xs,H1,I1,r,z,q⟩=>⟨by rw [← r.length]; exact z,?_⟩)
 have hf:H1 s1.heap.objs.size=none:=I1.hok.fresh (Nat.le_refl _)
 refine⟨.ref s1.heap.objs.size,upd H1 s1.heap.objs.size (.tup xs),I1.laid (t':=s1.toks) (fun b u e=>Heap.get?_push_of_some _ e) (Nat.le_refl _) ?_,rfl,q _ hf⟩
 exact⟨z,us,r,⟨_,Heap.get?_push_size _ rfl,rfl,_,rfl⟩⟩
theorem zN (h:PA X es t):PE X (.List es pos) (zgf t):=by
 intro pins s σ H Q I hq
 refine wpAny_List_spliced (thn (h pos pins s σ H _ I hq) fun us s1 ⟨xs,H1,I1,r,z,q⟩=>⟨by rw [← r.length]; exact z,?_⟩)
 have hf:H1 s1.heap.objs.size=none:=I1.hok.fresh (Nat.le_refl _)
 refine⟨.ref s1.heap.objs.size,upd H1 s1.heap.objs.size (.lst xs),I1.laid (t':=s1.toks) (fun b u e=>Heap.get?_push_of_some _ e) (Nat.le_refl _) ?_,rfl,q _ hf⟩
 exact⟨z,us,0,r,Heap.get?_push_size _ rfl⟩
end
abbrev Sp:=List V→Hp→VK→XK→Prop
abbrev CXT:=List Env→Hp→Shared→XK→Value→Shared→Prop
structure Env0 (P:Program) (w:World) (K:PySem.W.Frag) (mg:Str→Option Value) (base:Heap) (A:Around) (outer:List Env) (s:Shared) (H:Hp):Prop where
 frames:A.frames=some outer
 mod:Mod K mg base
 bs:∀ b o,base.get? b=some o→s.heap.get? b=some o∧H b=none
 bsz:base.objs.size≤s.heap.objs.size
 funs:s.heap.FunFrames base outer
 frf:∀ b∈frs outer,H b=none
 hok:HOk P w H s.heap
 bare:AllBare s.gens
def CE (outer:List Env) (P:Program) (w:World) (H:Hp) (s:Shared) (Q:VK) (u:Value) (s':Shared):Prop :=
 ∃ v H',s'.os=s.os∧AllBare s'.gens∧Un (frs outer) [] H H' s.heap s'.heap∧HOk P w H' s'.heap∧RelV v u∧Q v H'
def CR (CX:CXT) (outer:List Env) (P:Program) (w:World) (H:Hp) (s:Shared) (Q:VK) (E:XK) (r:Result) (s':Shared):Prop :=
 match r with
 | .ok (.ret u)=>CE outer P w H s Q u s'
 | .ok _=>False
 | .error e=>CX outer H s E e s'
structure FnOk (P:Program) (w:World) (K:PySem.W.Frag) (mg:Str→Option Value) (base:Heap) (CX:CXT) (k:Nat) (f:Addr) (fd:FuncData) (ps:List Str) (sp:Sp):Prop where
 len:∀ vs H Q E,sp vs H Q E→vs.length=ps.length
 run:∀ (A:Around) (outer:List Env) (s:Shared) (H:Hp) (args:Args) (us:List Value) (vs:List V) (Q:VK) (E:XK),Room k A→Env0 P w K mg base A outer s H→BindsTo s fd args (ps.zip us)→zE vs us→sp vs H Q E →
  codeAny (model P w) A (.call (.ref f) args) (CR CX outer P w H s Q E) s
section
variable {X:Cx} {pins:List (Addr×Obj)} {σ:St} {H:Hp} {s s':Shared}
theorem Inv.env0 (I:Inv X pins σ H s):Env0 X.prog X.w X.K X.mg X.base X.A X.stack s H :=
 ⟨I.ok.frames,I.ok.mod,I.bs,Nat.le_trans I.ok.bsz I.sz,I.stack,I.stkFree,I.hok,I.bare⟩
theorem Inv.after {Q:VK} {u:Value} (I:Inv X pins σ H s) (h:CE X.stack X.prog X.w H s Q u s'):EP X pins σ Q u s':=by
 obtain⟨v,H',os,bare,un,hok,r,q⟩:=h
 obtain⟨hh,g,d,t,os'⟩:=s'
 obtain rfl:os'=s.os:=os
 exact⟨v,H',I.call (h':=hh) (g':=g) (d':=d) (t':=t) (ch:=[]) un hok bare (fun b z=>absurd z (by simp)),r,q⟩
end
def ziv (sp:Sp) (dvs:List V) (E:XK) (t:TA):TE:=fun σ H Q=>t σ H fun vs H1=>sp (vs++dvs) H1 Q E
def Binds (K:PySem.W.Frag) (fd:FuncData) (ps:List Str) (ds:List Value):Prop :=
 ∀ (s:Shared) (us:List Value),K.In s.heap→(us++ds).length=ps.length→BindsTo s fd ⟨us,[]⟩ (ps.zip (us++ds))
theorem Binds.all {K:PySem.W.Frag} {fd:FuncData} {ps:List Str} (h:∀ us:List Value,us.length=ps.length→bindArgs fd ⟨us,[]⟩=pure (ps.zip us)):Binds K fd ps []:=fun s us _ hl=>by
 rw [List.append_nil] at hl ⊢
 exact .of_eq (h us hl)
def zeQ (CX:CXT) (X:Cx) (E:XK):Prop:=∀ (pins:List (Addr×Obj)) (σ:St) (H:Hp) (s:Shared) (e:Value) (s':Shared),Inv X pins σ H s→CX X.stack H s E e s'→X.xe e s'
section
variable {X:Cx} {CX:CXT} {k:Nat} {f C:Addr} {fd:FuncData} {ps:List Str} {sp:Sp} {dvs:List V} {ds:List Value} {E:XK} {x m:Str} {p pos apos:Pos} {e o:Expr} {es:List Expr} {ta:TE} {t:TA}
theorem zk5 {pins:List (Addr×Obj)} {σ:St} {H:Hp} {s:Shared} {Q:VK} {us:List Value} {vs:List V} (F:FnOk X.prog X.w X.K X.mg X.base CX k f fd ps sp) (hr:Room k X.A) (hb:Binds X.K fd ps ds) (hd:zE dvs ds) (hx:zeQ CX X E)
  (I:Inv X pins σ H s) (r:zE vs us) (h:sp (vs++dvs) H Q E):wpAny (model X.prog X.w) X.A (call (.ref f) us) (EP X pins σ Q) X.xe s:=by
 have r2:zE (vs++dvs) (us++ds):=r.append hd
 have hl:(us++ds).length=ps.length:=by rw [← r2.length]; exact F.len _ _ _ _ h
 refine wpAny_call (codeAny_mono (F.run X.A X.stack s H ⟨us,[]⟩ (us++ds) (vs++dvs) Q E hr I.env0 (hb s us I.kIn hl) r2 h) fun r s' hq=>?_)
 cases r with
 | error e=>exact hx pins σ H s e s' I hq
 | ok fl =>
  cases fl with
  | ret u=>exact I.after hq
  | next=>exact False.elim hq
  | brk=>exact False.elim hq
  | cont=>exact False.elim hq
theorem zt (F:FnOk X.prog X.w X.K X.mg X.base CX k f fd ps sp) (hr:Room k X.A) (hg:Gl X x) (hm:X.mg x=some (.ref f)) (hk:PySem.W.keepIn X.K (.ref f)=true) (hb:Binds X.K fd ps ds) (hd:zE dvs ds) (hx:zeQ CX X E)
  (ha:PA X (e :: es) t) (hdb:(x == ("__debug__" : Str))=false:=by decide) (he:starEach (e :: es) X.env=(false,eval e X.env) :: starEach es X.env:=by rfl) (hpl:(backTo pos (starEach es X.env)).any (·.1)=false:=by rfl) :
  PE X (.Call (.Name x p) (e :: es) [] pos) (ziv sp dvs E t):=by
 intro pins s σ H Q I h
 refine wpAny_Call_Name_kw (zb9 I hg hm ?_ hdb)
 refine PySem.W.callWith_K (h₀:=X.base) I.ok.mod.kin hk (thn (ha pos pins s σ H _ I h) fun us s1 ⟨vs,H1,I1,r,q⟩=>⟨I1.kIn,?_⟩) he hpl
 exact zk5 F hr hb hd hx I1 r q
end
section
variable {X:Cx} {CX:CXT} {k:Nat} {f C:Addr} {fd:FuncData} {ps ks:List Str} {sp:Sp} {E:XK} {x m:Str} {p pos apos kpos:Pos} {e o:Expr} {es:List Expr} {kws:List Keyword} {te ta:TE} {t tk:TA} {nm:Option Str}
variable {g:List Value→List Value→List Value} {gV:List V→List V→List V}
end
structure FnScope (N P:List Str) (sc:Scope):Prop where
 kind:sc.kind = .function
 co:sc.isCoroutine=false
 gen:sc.isGenerator=false
 nd:N.Nodup
 pre:N.take P.length=P
 par:∀ x∈P,sc.names.lookup x=some .local∨sc.names.lookup x=some .cell
 nofree:∀ y∈sc.names,y.2≠.free
theorem zeo {kindOf:Str→Option NameKind} {x:Str}:∀ {binds:List (Str×Value)} {m:Str→Option Value},(∀ v,(x,v)∉binds)→bindL kindOf binds m x=m x
 | [],_,_=>rfl
 | (n,v) :: r,m,h=>by
  unfold bindL
  rw [zeo fun w hw=>h w (List.mem_cons_of_mem _ hw)]
  split
  ·have:x≠n:=by rintro rfl; exact h v List.mem_cons_self
   simp [this]
  ·rfl
theorem zep {kindOf:Str→Option NameKind} {x:Str}:∀ {binds:List (Str×Value)} {m:Str→Option Value},(∀ v,(x,v)∉binds)→bindC kindOf binds m x=m x
 | [],_,_=>rfl
 | (n,v) :: r,m,h=>by
  unfold bindC
  rw [zep fun w hw=>h w (List.mem_cons_of_mem _ hw)]
  split
  ·rfl
  ·have:x≠n:=by rintro rfl; exact h v List.mem_cons_self
   simp [this]
theorem zeq {kindOf:Str→Option NameKind} {x:Str} {v:Value}:∀ {P:List Str} {vs:List Value} {i:Nat} {m:Str→Option Value},P.Nodup→P[i]? = some x→vs[i]? = some v→kindOf x=some .local →
  bindL kindOf (P.zip vs) m x=some v
 | [],_,_,_,_,h,_,_=>by simp at h
 | _ :: _,[],_,_,_,_,h,_=>by simp at h
 | p :: P,w :: vs,0,m,nd,h1,h2,hk=>by
  simp at h1 h2; subst h1; subst h2
  show bindL kindOf ((p,w) :: P.zip vs) m p=_
  unfold bindL
  rw [zeo fun v hv=>(List.nodup_cons.mp nd).1 (List.of_mem_zip hv).1,if_pos hk]
  simp
 | p :: P,w :: vs,i+1,m,nd,h1,h2,hk=>by
  show bindL kindOf ((p,w) :: P.zip vs) m x=_
  unfold bindL
  exact zeq (i:=i) (List.nodup_cons.mp nd).2 (by simpa using h1) (by simpa using h2) hk
theorem zer {kindOf:Str→Option NameKind} {x:Str} {v:Value}:∀ {P:List Str} {vs:List Value} {i:Nat} {m:Str→Option Value},P.Nodup→P[i]? = some x→vs[i]? = some v→kindOf x≠some .local →
  bindC kindOf (P.zip vs) m x=some v
 | [],_,_,_,_,h,_,_=>by simp at h
 | _ :: _,[],_,_,_,_,h,_=>by simp at h
 | p :: P,w :: vs,0,m,nd,h1,h2,hk=>by
  simp at h1 h2; subst h1; subst h2
  show bindC kindOf ((p,w) :: P.zip vs) m p=_
  unfold bindC
  rw [zep fun v hv=>(List.nodup_cons.mp nd).1 (List.of_mem_zip hv).1,if_neg hk]
  simp
 | p :: P,w :: vs,i+1,m,nd,h1,h2,hk=>by
  show bindC kindOf ((p,w) :: P.zip vs) m x=_
  unfold bindC
  exact zer (i:=i) (List.nodup_cons.mp nd).2 (by simpa using h1) (by simpa using h2) hk
def start (N:List Str) (vs:List V):St:=vs.map some++List.replicate (N.length - vs.length) none
def zbr (CX:CXT) (P:Program) (w:World) (K:PySem.W.Frag) (mg:Str→Option Value) (base:Heap) (N:List Str) (qual:Str) (scope:Scope) (f:Addr) (cd:Value) (A:Around) (outer:List Env) (s:Shared) (H:Hp) (E:XK):Cx where
 prog:=P
 w:=w
 K:=K
 mg:=mg
 base:=base
 A:=A.deeper (envOfC qual scope s.heap.objs.size f cd)
 N:=N
 s₀:=s
 H₀:=H
 env:=envOfC qual scope s.heap.objs.size f cd
 outer:=outer
 stack:=envOfC qual scope s.heap.objs.size f cd :: outer
 ex:=[]
 calm:=true
 fn:=fun _=>true
 pn:=[]
 xe:=fun e s'=>wpAny (model P w) (A.deeper (envOfC qual scope s.heap.objs.size f cd)) (leaving (envOfC qual scope s.heap.objs.size f cd) e) (fun _ s''=>CX outer H s E e s'') (fun e' s''=>CX outer H s E e' s'') s'
theorem zfs {sc:Scope} {n:Nat} {x:Str} (h:sc.names.lookup x=some .cell):∃ c,(cellsFrom n sc.names []).lookup x=some c:=by
 have q:=PySem.W.cellsFrom_some sc.names n [] (.inl h)
 exact Option.isSome_iff_exists.mp q
theorem zes {CX:CXT} {P:Program} {w:World} {K:PySem.W.Frag} {mg:Str→Option Value} {base:Heap} {N ps:List Str} {qual:Str} {scope:Scope} {f:Addr} {cd:Value} {A:Around} {outer:List Env} {s s1:Shared} {H:Hp} {E:XK} {us:List Value} {vs:List V}
  (S:FnScope N ps scope) (hd:A.handled=none) (e0:Env0 P w K mg base A outer s H) (hl:vs.length=ps.length) (r:zE vs us)
  (x:InCallC s s.heap.objs.size (bindL (envOfC qual scope s.heap.objs.size f cd).kindOf (ps.zip us) fun _=>none) (cellsFrom (s.heap.objs.size+1) scope.names []) (bindC (envOfC qual scope s.heap.objs.size f cd).kindOf (ps.zip us) fun _=>none) s1) :
  Inv (zbr CX P w K mg base N qual scope f cd A outer s H E) [] (start N vs) H s1:=by
 have hpl:ps.length≤N.length:=by have:=congrArg List.length S.pre; rw [List.length_take] at this; omega
 obtain⟨h1,tk,rfl,hk⟩:=x.done
 have noA:∀ b:Addr,b∉(zbr CX P w K mg base N qual scope f cd A outer s H E).ex:=fun b z=>absurd (show b∈([]:List Addr) from z) (by simp)
 refine⟨⟨e0.mod,S.kind,rfl,rfl,Nat.le_refl _,fun y z c h1 h2=>?_,fun y hy=>?_,fun y c _ h=>?_,fun _=>hd,Around.frames_deeper e0.frames,.inr ⟨rfl,rfl⟩,fun b z=>absurd z (noA b),e0.bs,e0.bsz,fun b _ _=>noA b,fun b z=>absurd z (noA b),e0.funs,e0.frf⟩,
  rfl,e0.bare,Un.kept hk,⟨_,x.toInCall.ns,fun i y v h1 h2 h3=>?_⟩,fun y c h=>⟨_,x.cell y c h⟩,e0.hok.fresh (Nat.le_refl _),fun y c h=>?_,fun p hp=>absurd (show p∈([]:List (Addr×Obj)) from hp) (by simp),e0.hok.kept hk,?_⟩
 ·exact name_of_addr x.apart (PySem.mem_of_lookup h1) (PySem.mem_of_lookup h2)
 ·have hy:scope.names.lookup y=some .cell∨scope.names.lookup y=some .free:=hy
  rcases hy with hy | hy
  ·exact zfs hy
  ·exact absurd rfl (S.nofree _ (PySem.mem_of_lookup hy))
 ·exact Nat.le_of_lt (x.above y c (PySem.mem_of_lookup h))
 ·have hi:i < vs.length:=by
   unfold start at h2
   by_cases hi:i < vs.length
   ·exact hi
   ·rw [List.getElem?_append_right (by simpa using hi)] at h2
    rw [List.getElem?_replicate] at h2
    split at h2 <;> cases h2
  have ha:vs[i]? = some v:=by
   unfold start at h2
   rw [List.getElem?_append_left (by simpa using hi),List.getElem?_map] at h2
   cases e:vs[i]? with
   | none=>rw [e] at h2; cases h2
   | some a=>rw [e] at h2; cases h2; rfl
  obtain⟨u,hu,rv⟩:=r.get ha
  have hp:ps[i]? = some y:=by
   rw [← S.pre,List.getElem?_take_of_lt (by omega)]; exact h1
  have ndP:ps.Nodup:=by rw [← S.pre]; exact S.nd.sublist (List.take_sublist _ _)
  refine⟨u,rv,?_⟩
  rcases S.par y (List.mem_of_getElem? hp) with k | k
  ·exact .inl ⟨k,zeq ndP hp hu k⟩
  ·obtain⟨c,e⟩:=zfs (n:=s.heap.objs.size+1) k
   refine .inr ⟨.inl k,c,e,?_⟩
   have q:=x.cell y c e
   rw [zer ndP hp hu (by show scope.names.lookup y≠_; rw [k]; decide)] at q
   exact q
 ·exact e0.hok.fresh (Nat.le_of_lt (x.above y c (PySem.mem_of_lookup h)))
 ·unfold start
  show _=N.length
  rw [List.length_append,List.length_map,List.length_replicate]
  omega
theorem zkE {CX:CXT} {P:Program} {w:World} {K:PySem.W.Frag} {mg:Str→Option Value} {base:Heap} {k:Nat} {f:Addr} {name qual:Str} {params:Arguments} {body:List Stmt} {scope:Scope} {dV kV doc pm cdv ct oc:Value} {an od:Option Addr}
  {osl:Array (Option Value)} {N ps:List Str} {sp:Sp} (lk:K.lookup f=some ⟨oc,od,.func (PySem.W.fnOf name qual params body scope dV kV doc pm an cdv ct),osl⟩) (hcd:PySem.W.codeIn K cdv qual=true) (S:FnScope N ps scope)
  (len:∀ vs H Q E,sp vs H Q E→vs.length=ps.length)
  (hbody:∀ (A:Around) (outer:List Env) (s:Shared) (H:Hp) (vs:List V) (Q:VK) (E:XK),Room k (A.deeper (envOfC qual scope s.heap.objs.size f cdv))→sp vs H Q E →
   ∃ t,PSs (zbr CX P w K mg base N qual scope f cdv A outer s H E) body t∧t { nx:=fun _ H'=>Q .non H',rt:=Q } (start N vs) H) :
  FnOk P w K mg base CX (k+1) f (PySem.W.fnOf name qual params body scope dV kV doc pm an cdv ct) ps sp:=by
 refine⟨len,fun A outer s H args us vs Q E hr e0 hb r hsp=>?_⟩
 have hl:=len _ _ _ _ hsp
 have KX:K.In s.heap:=e0.mod.kin.keeps fun b o e=>(e0.bs b o e).1
 have lim:s.heap.NoLimit:=e0.mod.nolimit.keeps fun b o e=>(e0.bs b o e).1
 have hkind:∀ y∈ps.zip us,scope.names.lookup y.1=some .local∨(scope.names.lookup y.1=some .cell∧((cellsFrom (s.heap.objs.size+1) scope.names []).lookup y.1).isSome=true):=fun ⟨n,v⟩ hy=>by
  rcases S.par n (List.of_mem_zip hy).1 with q | q
  ·exact .inl q
  ·exact .inr ⟨q,PySem.W.cellsFrom_some _ _ _ (.inl q)⟩
 refine codeAny_call_function hr.depth (KX _ _ lk) rfl S.co S.gen rfl (PySem.W.codeRec_of KX hcd) (hb _ _ _ _ ?_)
 refine wpAny_newFunctionEnv_cells S.kind hkind fun env he s1 x=>?_
 subst he
 refine⟨lim.keeps x.toInCall.keep,codeAny_func ?_⟩
 obtain⟨t,ht,hq⟩:=hbody A outer s H vs Q E (hr.deeper _) hsp
 have I:Inv (zbr CX P w K mg base N qual scope f cdv A outer s H E) [] (start N vs) H s1:=zes S hr.hd e0 hl r x
 refine wpAny_mono (ht [] s1 (start N vs) H _ I hq) (fun fl s' hs=>?_) fun e s' hs=>hs
 have fin:∀ {σ':St} {H':Hp} {v:V} {u:Value},Inv (zbr CX P w K mg base N qual scope f cdv A outer s H E) [] σ' H' s'→RelV v u→Q v H'→CE outer P w H s Q u s' :=
  fun {σ' H' v u} J rv q=>⟨v,H',J.os,J.bare,J.base,J.hok,rv,q⟩
 cases fl with
 | ret u =>
  obtain⟨v,σ',H',J,rv,q⟩:=hs
  exact fin J rv q
 | next =>
  obtain⟨σ',H',J,q⟩:=hs
  exact fin (v:=V.non) (u:=Value.none) J rfl q
 | brk =>
  obtain⟨_,_,_,q⟩:=hs
  exact False.elim q
 | cont =>
  obtain⟨_,_,_,q⟩:=hs
  exact False.elim q
end L2
namespace L2
open PySem PySem.Spec PyProof.Rows
section
variable {X:Cx} {x:Str} {p pos:Pos} {e:Expr} {es:List Expr} {t:TA} {id T:String} {r:List V→Hp→VK→Prop}
def tCB (r:List V→Hp→VK→Prop) (t:TA):TE:=fun σ H Q=>t σ H fun vs H1=>r vs H1 Q
theorem zn (hc:zbb X (.builtin id) r) (hg:Gl X x) (hm:X.mg x=none) (hv:bootBuiltins x=some (.builtin id)) (ha:PA X (e :: es) t) (hn:x≠"__name__":=by decide) (hdb:(x == ("__debug__" : Str))=false:=by decide)
  (he:starEach (e :: es) X.env=(false,eval e X.env) :: starEach es X.env:=by rfl) (hpl:(backTo pos (starEach es X.env)).any (·.1)=false:=by rfl):PE X (.Call (.Name x p) (e :: es) [] pos) (tCB r t):=by
 intro pins s σ H Q I h
 refine wpAny_Call_Name_kw (zbn I hg hm hv ?_ hn hdb)
 exact PyProof.Rows.callWith_builtin1 (thn (ha pos pins s σ H _ I h) fun us s1 ⟨vs,H1,I1,r1,q1⟩=>hc pins s1 σ H1 vs us Q I1 r1 q1) he hpl
theorem zaP (hc:zbb X (.type T) r) (hg:Gl X x) (hm:X.mg x=none) (hv:bootBuiltins x=some (.type T)) (ha:PA X (e :: es) t) (hn:x≠"__name__":=by decide) (hdb:(x == ("__debug__" : Str))=false:=by decide)
  (he:starEach (e :: es) X.env=(false,eval e X.env) :: starEach es X.env:=by rfl) (hpl:(backTo pos (starEach es X.env)).any (·.1)=false:=by rfl):PE X (.Call (.Name x p) (e :: es) [] pos) (tCB r t):=by
 intro pins s σ H Q I h
 refine wpAny_Call_Name_kw (zbn I hg hm hv ?_ hn hdb)
 exact PyProof.Rows.callWith_type1 (thn (ha pos pins s σ H _ I h) fun us s1 ⟨vs,H1,I1,r1,q1⟩=>hc pins s1 σ H1 vs us Q I1 r1 q1) he hpl
end
end L2
namespace HT
open PySem PyProof.Rows
section
open PySem.SeqAt
open PySem.AutoSeq1 (wpAny_loadPart')
open PySem.MeetsSeq PySem.MeetsSeq2 PySem.MeetsSeq3
end
section
variable {prog:Program} {w:World} {A:Around} {E:Value→Shared→Prop} {s:Shared}
def sIx (n d:Nat):Option Int→Nat
 | none=>d
 | some v=>if v < 0 then (v+(n:Int)).toNat else min v.toNat n
theorem sIx_none (n d:Nat):sIx n d none=d:=rfl
theorem sIx_nat (n d k:Nat):sIx n d (some (k:Int))=min k n:=by
 show (if (k:Int) < 0 then ((k:Int)+(n:Int)).toNat else min (k:Int).toNat n)=min k n
 rw [if_neg (by omega),Int.toNat_natCast]
end
end HT
namespace L2
open PySem PySem.Spec PyProof.Rows
abbrev TO:=St→Hp→(Option Int→Hp→Prop)→Prop
def PO (X:Cx) (e:Option Expr) (t:TO):Prop :=
 ∀ (pins:List (Addr×Obj)) (s:Shared) (σ:St) (H:Hp) (Q:Option Int→Hp→Prop),Inv X pins σ H s→t σ H Q →
  wpAny (model X.prog X.w) X.A (evalPart e X.env) (fun u s'=>∃ o H',Inv X pins σ H' s'∧IsPart u o∧Q o H') X.xe s
def zjP:TO:=fun _ H Q=>Q none H
def zlU (t:TE):TO:=fun σ H Q=>t σ H fun x H1=>∃ i,x = .int i∧Q (some i) H1
theorem intsAre_of {ns:List Int}:∀ {us:List Value},zE (ns.map V.int) us→IntsAre us ns:=by
 induction ns with
 | nil=>intro us r; rw [List.map_nil] at r; cases r; exact .nil
 | cons n ns ih =>
  intro us r
  rw [List.map_cons] at r
  cases r with
  | cons r1 r2 =>
   obtain⟨t,e⟩:=r1
   subst e
   exact .cons n t (ih r2)
section
variable {X:Cx} {e:Expr} {te:TE} {lo hi:Option Expr} {tl th:TO} {pos p2:Pos}
theorem zcb:PO X none zjP:=by
 intro pins s σ H Q I h
 rw [evalPart_none]
 exact wpAny_pure ⟨none,H,I,.none,h⟩
theorem zbt (h:PE X e te):PO X (some e) (zlU te):=by
 intro pins s σ H Q I hw
 rw [evalPart_some]
 refine thn (h pins s σ H _ I hw) fun u s1 ⟨x,H1,I1,r1,q1⟩=>?_
 obtain⟨i,rfl,q⟩:=q1
 obtain⟨t,rfl⟩:=r1
 exact⟨some i,H1,I1,.int i t,q⟩
def SlR (X:Cx) (r:V→Option Int→Option Int→Hp→VK→Prop):Prop :=
 ∀ (pins:List (Addr×Obj)) (s:Shared) (σ:St) (H:Hp) (x:V) (v vl vu:Value) (lo hi:Option Int) (sl:Addr) (Q:VK),Inv X pins σ H s→RelV x v→s.heap.IsSliceOf sl vl vu .none→IsPart vl lo→IsPart vu hi→r x lo hi H Q →
  ∃ T id,typeLookup (.type T) "__getitem__" = pure (some (.builtin id))∧s.TypeIs v T∧wpAny (model X.prog X.w) X.A (getItem v (.ref sl)) (EP X pins σ Q) X.xe s
def tSl (r:V→Option Int→Option Int→Hp→VK→Prop) (te:TE) (tl th:TO):TE:=fun σ H Q=>te σ H fun x H1=>tl σ H1 fun l H2=>th σ H2 fun u H3=>r x l u H3 Q
theorem zbp {r:V→Option Int→Option Int→Hp→VK→Prop} (hr:SlR X r) (he:PE X e te) (hl:PO X lo tl) (hu:PO X hi th):PE X (.Subscript e (.Slice lo hi none p2) pos) (tSl r te tl th):=by
 intro pins s σ H Q I h
 refine Subscript_ (thn (he pins s σ H _ I h) fun v s1 ⟨x,H1,I1,r1,q1⟩=>?_)
 refine wpAny_Slice (thn (hl pins s1 σ H1 _ I1 q1) fun vl s2 ⟨l,H2,I2,pl,q2⟩=>thn (hu pins s2 σ H2 _ I2 q2) fun vu s3 ⟨u,H3,I3,pu,q3⟩=>?_)
 rw [evalPart_none]
 refine wpAny_pure ?_
 have I4:Inv X pins σ H3 { s3 with heap:=s3.heap.push { cls:=.type "slice",data:=.fields #[vl,vu,.none] } }:=I3.kept (t':=s3.toks) fun b ob q=>Heap.get?_push_of_some _ q
 obtain⟨T,id,hT,ht,hg⟩:=hr pins { s3 with heap:=s3.heap.push { cls:=.type "slice",data:=.fields #[vl,vu,.none] } } σ H3 x v vl vu l u s3.heap.objs.size Q I4 r1 (Heap.IsSliceOf.new ..) pl pu q3
 show wpAny (model X.prog X.w) X.A (subscriptTail e (.Slice lo hi none p2) v (.ref s3.heap.objs.size)) (EP X pins σ Q) X.xe { s3 with heap:=s3.heap.push { cls:=.type "slice",data:=.fields #[vl,vu,.none] } }
 exact tail_any (ops:=[.ref s3.heap.objs.size,v]) ht hT hg (by with_unfolding_all rfl)
def zco (xs:List V) (lo hi:Option Int):List V:=(xs.drop (HT.sIx xs.length 0 lo)).take (HT.sIx xs.length xs.length hi - HT.sIx xs.length 0 lo)
theorem zft (xs:List V) (lo hi:Option Int):(zco xs lo hi).length≤xs.length:=by
 unfold zco
 rw [List.length_take,List.length_drop]
 omega
end
end L2
namespace L2
open PySem PySem.Spec PyProof.Rows
def ixN (n:Nat) (i:Int):Option Nat:=if 0≤i then (if i < n then some i.toNat else none) else if -(n:Int)≤i then some (i+n).toNat else none
def atI {α:Type} (xs:List α) (i:Int):Option α:=(ixN xs.length i).bind fun j=>xs[j]?
theorem zg3 {n:Nat} {i:Int} {j:Nat} (h:ixN n i=some j):seqIndex? i n=some j∧j < n∧-(n:Int)≤i∧i < n:=by
 unfold ixN at h
 by_cases h0:0≤i
 ·rw [if_pos h0] at h
  by_cases h1:i < n
  ·rw [if_pos h1] at h
   have e:i.toNat=j:=Option.some.inj h
   exact⟨by rw [seqIndex_of h0 h1,e],by omega,by omega,h1⟩
  ·rw [if_neg h1] at h; cases h
 ·rw [if_neg h0] at h
  by_cases h1:-(n:Int)≤i
  ·rw [if_pos h1] at h
   have e:(i+n).toNat=j:=Option.some.inj h
   exact⟨by rw [seqIndex_neg (by omega) h1,e],by omega,h1,by omega⟩
  ·rw [if_neg h1] at h; cases h
theorem zg4 {α:Type} {xs:List α} {i:Int} {v:α} (h:atI xs i=some v):∃ j,seqIndex? i xs.length=some j∧xs[j]? = some v∧j < xs.length∧-(xs.length:Int)≤i∧i < xs.length:=by
 unfold atI at h
 cases e:ixN xs.length i with
 | none=>rw [e] at h; cases h
 | some j =>
  rw [e] at h
  obtain⟨h1,h2,h3,h4⟩:=zg3 e
  exact⟨j,h1,h,h2,h3,h4⟩
theorem zL {α:Type} {xs:List α} {j:Nat} {v:α} (h:xs[j]? = some v):atI xs (j:Int)=some v:=by
 have hj:j < xs.length:=(List.getElem?_eq_some_iff.mp h).1
 have e:ixN xs.length (j:Int)=some j:=by
  unfold ixN
  rw [if_pos (by omega),if_pos (by omega)]; simp
 unfold atI; rw [e]; exact h
def zjQ (b:Expr):Prop:=∀ o i,subscripted b false o i=operate [o,i] (getItem o i)
def IxR (X:Cx) (r:R2):Prop :=
 ∀ (value slice:Expr) (pins:List (Addr×Obj)) (s:Shared) (σ:St) (H:Hp) (x y:V) (v u:Value) (Q:VK),Inv X pins σ H s→RelV x v→RelV y u→r x y H Q →
  subscripted slice false v u=operate [v,u] (getItem v u)→wpAny (model X.prog X.w) X.A (subscriptTail value slice v u) (EP X pins σ Q) X.xe s
def MtR (X:Cx) (id:String) (r:V→List V→Hp→VK→Prop):Prop :=
 ∀ (pins:List (Addr×Obj)) (s:Shared) (σ:St) (H:Hp) (x:V) (xs:List V) (v:Value) (us:List Value) (Q:VK),Inv X pins σ H s→RelV x v→zE xs us→r x xs H Q →
  wpAny (model X.prog X.w) X.A (call (.builtin id) (v :: us)) (EP X pins σ Q) X.xe s
section
variable {X:Cx} {a b:Expr} {ta tb:TE} {pos:Pos}
theorem zu {r:R2} (hr:IxR X r) (ha:PE X a ta) (hb:PE X b tb) (hs:zjQ b):PE X (.Subscript a b pos) (tOp r ta tb):=by
 intro pins s σ H Q I h
 exact Subscript_ (zkY ha hb I h fun v u s2 x y H2 I2 rx ry q=>hr a b pins s2 σ H2 x y v u Q I2 rx ry q (hs _ _))
def zlV (K:PySem.W.Frag):R2:=fun x y H Q=>∃ p xs i v,x = .ref p∧y = .int i∧SqL K H p xs∧atI xs i=some v∧Q v H
def zlW (K:PySem.W.Frag):R2:=fun x y H Q=>∃ p xs i v,x = .ref p∧y = .int i∧SqT K H p xs∧atI xs i=some v∧Q v H
theorem zq:IxR X (zlV X.K):=by
 intro value slice pins s σ H x y v u Q I rx ry h hs
 obtain⟨p,xs,i,z,rfl,rfl,hq,he,q⟩:=h
 cases rx
 obtain⟨t,rfl⟩:=ry
 obtain⟨its,r,pl,hz⟩:=I.list hq
 obtain⟨j,h1,h2,h3,h4,h5⟩:=zg4 he
 obtain⟨w,ew,rw'⟩:=r.get h2
 have hl:=r.length
 have hn:=zdH
 have fin:EP X pins σ Q w s:=⟨z,H,I,rw',q⟩
 by_cases h0:0≤i
 ·have hj:i.toNat=j:=by
   rw [seqIndex_of h0 h5] at h1
   exact Option.some.inj h1
  exact item_listR pl.isList h0 (by omega) (by rw [hj]; simpa using ew) fin hs
 ·have hj:(i+(its.toArray.size:Int)).toNat=j:=by
   rw [seqIndex_neg (by omega) h4] at h1
   rw [List.size_toArray,← hl]
   exact Option.some.inj h1
  exact subscriptTail_builtinR (x:=w) pl.isList.typeIs slot_list_getitem.lookup
   (wpAny_getItem_list_neg (Q:=fun r s'=>r=w∧EP X pins σ Q r s') pl.isList (by omega) (by rw [List.size_toArray] <;> omega) (by omega) (by rw [hj]; simpa using ew) ⟨rfl,fin⟩) hs
theorem zbZ:IxR X (zlW X.K):=by
 intro value slice pins s σ H x y v u Q I rx ry h hs
 obtain⟨p,xs,i,z,rfl,rfl,hq,he,q⟩:=h
 cases rx
 obtain⟨t,rfl⟩:=ry
 obtain⟨its,r,pl,hz⟩:=I.tuple hq
 obtain⟨j,h1,h2,h3,h4,h5⟩:=zg4 he
 obtain⟨w,ew,rw'⟩:=r.get h2
 have hl:=r.length
 have hn:=zdH
 have fin:EP X pins σ Q w s:=⟨z,H,I,rw',q⟩
 exact subscriptTail_builtinR (x:=w) pl.typeIs slot_tuple_getitem.lookup
  (getItem_tuple (j:=j) (Q:=fun r s'=>r=w∧EP X pins σ Q r s') pl (by omega) (by omega) (by rw [List.size_toArray,← hl]; exact h1) (by simpa using ew) ⟨rfl,fin⟩) hs
theorem zgg (its:List Value) (n j:Nat) (u:Value):Obj.mapSeq (·.setIfInBounds j u) { cls:=.type "list",data:=.seq its.toArray n } = { cls:=.type "list",data:=.seq (its.set j u).toArray n }:=by
 simp [Obj.mapSeq]
theorem Inv.lst {pins:List (Addr×Obj)} {σ:St} {H:Hp} {s:Shared} {p:Addr} {xs:List V} (I:Inv X pins σ H s) (h:H p=some (.lst xs)) :
  ∃ (its:List Value) (n:Nat),zE xs its∧s.heap.get? p=some { cls:=.type "list",data:=.seq its.toArray n }∧xs.length≤sizeLine:=by
 obtain⟨z,its,n,r,e⟩:=I.hok p _ h
 exact⟨its,n,r,e,z⟩
theorem Inv.lstUpd {pins:List (Addr×Obj)} {σ:St} {H:Hp} {s:Shared} {p:Addr} {xs ys:List V} {its its':List Value} {n n':Nat} {f:Obj→Obj} (I:Inv X pins σ H s) (h:H p=some (.lst xs))
  (ho:s.heap.get? p=some { cls:=.type "list",data:=.seq its.toArray n }) (hf:f { cls:=.type "list",data:=.seq its.toArray n } = { cls:=.type "list",data:=.seq its'.toArray n' }) (r:zE ys its') (hz:ys.length≤sizeLine) (t:Nat) :
  Inv X pins σ (upd H p (.lst ys)) { s with heap:=s.heap.update p f,toks:=t }:=by
 have e:(s.heap.update p f).get? p=some { cls:=.type "list",data:=.seq its'.toArray n' }:=by
  rw [Heap.get?_update_self f ho (by rw [hf] <;> rfl),hf]
 refine I.write (x:=p) (e:=p) (by rw [h]; trivial) (.inl rfl) (fun b u hb q=>(Heap.get?_update_other _ _ (Ne.symm hb)).trans q) ⟨_,e⟩ ?_
 exact⟨hz,its',n',r,e⟩
def zlX:V→V→V→Hp→(Hp→Prop)→Prop:=fun o i v H Q=>∃ p xs k j,o = .ref p∧i = .int k∧H p=some (.lst xs)∧ixN xs.length k=some j∧Q (upd H p (.lst (xs.set j v)))
theorem set_list:zlN X zlX:=by
 intro pins s σ H o i v ov iv u Q I ro ri rv h
 obtain⟨p,xs,k,j,rfl,rfl,hp,hj,q⟩:=h
 cases ro
 obtain⟨t,rfl⟩:=ri
 obtain⟨its,n,r,ho,hz⟩:=I.lst hp
 obtain⟨h1,h2,h3,h4⟩:=zg3 hj
 have hl:=r.length
 have hn:=zdH
 have I':Inv X pins σ (upd H p (.lst (xs.set j v))) { s with heap:=s.heap.update p (Obj.mapSeq (·.setIfInBounds j u)) } :=
  I.lstUpd hp ho (zgg its n j u) (r.set rv j) (by rw [List.length_set]; exact hz) s.toks
 by_cases h0:0≤k
 ·have hk:k.toNat=j:=by
   rw [seqIndex_of h0 h4] at h1
   exact Option.some.inj h1
  exact PySem.W.ki_setAt ho h0 (by omega) (by rw [List.size_toArray,← hl]; exact h4) (by rw [hk]; exact⟨_,I',q⟩)
 ·have hk:(k+(its.toArray.size:Int)).toNat=j:=by
   rw [seqIndex_neg (by omega) h3] at h1
   rw [List.size_toArray,← hl]
   exact Option.some.inj h1
  exact PySem.W.ki_setBack ho (by omega) (by rw [List.size_toArray,← hl]; exact h3) (by omega) (by rw [hk]; exact⟨_,I',q⟩)
theorem zeR (lo hi:Option Int) (n:Nat):(sliceBounds lo hi none n).1=((HT.sIx n 0 lo:Nat):Int)∧(sliceBounds lo hi none n).2.1=((HT.sIx n n hi:Nat):Int)∧(sliceBounds lo hi none n).2.2=1:=by
 refine⟨?_,?_,rfl⟩
 ·cases lo with
  | none=>simp [sliceBounds,HT.sIx]
  | some i =>
   simp only [sliceBounds,HT.sIx,Option.getD_none,show (1:Int) > 0 by decide,if_true]
   by_cases h:i < 0
   ·simp only [h,if_true] <;> omega
   ·simp only [h,if_false] <;> omega
 ·cases hi with
  | none=>simp [sliceBounds,HT.sIx]
  | some i =>
   simp only [sliceBounds,HT.sIx,Option.getD_none,show (1:Int) > 0 by decide,if_true]
   by_cases h:i < 0
   ·simp only [h,if_true] <;> omega
   ·simp only [h,if_false] <;> omega
theorem zd6 (its:List Value) (lo hi:Option Int):slicePick its.toArray lo hi none=((its.drop (HT.sIx its.length 0 lo)).take (HT.sIx its.length its.length hi - HT.sIx its.length 0 lo)).toArray:=by
 obtain⟨h1,h2,h3⟩:=zeR lo hi its.toArray.size
 unfold slicePick
 rw [h1,h2,h3]
 simp only [sliceRange_one,pick_run,List.size_toArray] <;> rfl
def zlY (K:PySem.W.Frag):V→Option Int→Option Int→Hp→VK→Prop:=fun x lo hi H Q=>∃ a xs,x = .ref a∧SqL K H a xs∧∀ p,H p=none→Q (.ref p) (upd H p (.lst (zco xs lo hi)))
theorem zbQ:SlR X (zlY X.K):=by
 intro pins s σ H x v vl vu lo hi sl Q I rx hs pl pu h
 obtain⟨a,xs,rfl,hx,q⟩:=h
 cases rx
 obtain⟨its,r,ht,hz⟩:=I.list hx
 have hlen:=r.length
 refine⟨"list",_,slot_list_getitem.lookup,ht.isList.typeIs,?_⟩
 refine wpAny_getItem_list_slice ht.isList hs pl pu .none (by simp) ?_ (by rw [List.size_toArray] <;> omega)
 rw [zd6,← hlen]
 refine⟨.ref s.heap.objs.size,_,I.laid (t':=s.toks) (o:=.lst (zco xs lo hi)) (fun b ob q=>Heap.get?_push_of_some _ q) (Nat.le_refl _) ?_,rfl,q _ (I.hok.fresh (Nat.le_refl _))⟩
 exact⟨Nat.le_trans (zft xs lo hi) hz,_,0,(r.drop (HT.sIx xs.length 0 lo)).take (HT.sIx xs.length xs.length hi - HT.sIx xs.length 0 lo),Heap.get?_push_size _ rfl⟩
def zb0:V→Bool
 | .non=>true
 | .bl _=>true
 | .int _=>true
 | .str _=>true
 | _=>false
def eqV:V→V→Bool
 | .non,.non=>true
 | .bl a,.bl b=>a == b
 | .bl a,.int b=>(if a then 1 else 0) == b
 | .int a,.bl b=>a == (if b then 1 else 0)
 | .int a,.int b=>a == b
 | .str a,.str b=>a == b
 | _,_=>false
theorem ziw {A:Around} {s:Shared} {y x:V} {u v:Value} (ry:RelV y u) (rx:RelV x v) (fy:zb0 y=true) (fx:zb0 x=true):SeqAt.EqAt A s u v (eqV y x):=by
 cases y with
 | non =>
  cases ry
  cases x with
  | non=>cases rx; exact SeqAt.EqAt.same _
  | bl b=>cases rx; exact SeqAt.EqAt.none_bool b
  | int b=>obtain⟨t,rfl⟩:=rx; exact SeqAt.EqAt.none_int b t
  | str b=>obtain⟨t,rfl⟩:=rx; exact SeqAt.EqAt.none_str b t
  | _=>exact absurd (show false=true from fx) Bool.false_ne_true
 | bl a =>
  cases ry
  cases x with
  | non=>cases rx; exact SeqAt.EqAt.bool_none a
  | bl b=>cases rx; exact SeqAt.EqAt.bool_bool a b
  | int b=>obtain⟨t,rfl⟩:=rx; exact SeqAt.EqAt.bool_int a b t
  | str b=>obtain⟨t,rfl⟩:=rx; exact SeqAt.EqAt.bool_str a b t
  | _=>exact absurd (show false=true from fx) Bool.false_ne_true
 | int a =>
  obtain⟨t',rfl⟩:=ry
  cases x with
  | non=>cases rx; exact SeqAt.EqAt.int_none a t'
  | bl b=>cases rx; exact SeqAt.EqAt.int_bool a t' b
  | int b=>obtain⟨t,rfl⟩:=rx; exact SeqAt.EqAt.int_int a t' b t
  | str b=>obtain⟨t,rfl⟩:=rx; exact SeqAt.EqAt.int_str a t' b t
  | _=>exact absurd (show false=true from fx) Bool.false_ne_true
 | str a =>
  obtain⟨t',rfl⟩:=ry
  cases x with
  | non=>cases rx; exact SeqAt.EqAt.str_none a t'
  | bl b=>cases rx; exact SeqAt.EqAt.str_bool a t' b
  | int b=>obtain⟨t,rfl⟩:=rx; exact SeqAt.EqAt.str_int a t' b t
  | str b=>obtain⟨t,rfl⟩:=rx; exact SeqAt.EqAt.str_str a t' b t
  | _=>exact absurd (show false=true from fx) Bool.false_ne_true
 | _=>exact absurd (show false=true from fy) Bool.false_ne_true
def eqU (x:V) (u:Value):Bool:=match u with
 | .none=>eqV .non x
 | .bool b=>eqV (.bl b) x
 | .int i _=>eqV (.int i) x
 | .str z _=>eqV (.str z) x
 | _=>false
theorem zix {x y:V} {u:Value} (r:RelV y u) (f:zb0 y=true):eqU x u=eqV y x:=by
 cases y with
 | non=>cases r; rfl
 | bl b=>cases r; rfl
 | int i=>obtain⟨t,rfl⟩:=r; rfl
 | str z=>obtain⟨t,rfl⟩:=r; rfl
 | _=>exact absurd (show false=true from f) Bool.false_ne_true
theorem zcD {x:V}:∀ {xs:List V} {us:List Value},zE xs us→xs.all zb0=true→us.any (eqU x)=xs.any fun y=>eqV y x
 | _,_,.nil,_=>rfl
 | y :: xs,u :: us,.cons r t,f=>by
  rw [List.all_cons,Bool.and_eq_true] at f
  rw [List.any_cons,List.any_cons,zix r f.1,zcD t f.2]
theorem zb1 {A:Around} {s:Shared} {x:V} {v:Value} (rx:RelV x v) (fx:zb0 x=true):∀ {xs:List V} {us:List Value},zE xs us→xs.all zb0=true→∀ u∈us,SeqAt.EqAt A s u v (eqU x u)
 | _,_,.nil,_=>fun u hu=>by cases hu
 | y :: xs,u :: us,.cons r t,f=>fun u' hu=>by
  rw [List.all_cons,Bool.and_eq_true] at f
  rcases List.mem_cons.mp hu with rfl | hu
  ·rw [zix r f.1]; exact ziw r rx f.1 fx
  ·exact zb1 rx fx t f.2 u' hu
def inV (x:V) (xs:List V):Bool:=xs.any fun y=>eqV y x
def rIn (K:PySem.W.Frag) (neg:Bool):R2:=fun x y H Q=>∃ p xs,y = .ref p∧(SqL K H p xs∨SqT K H p xs)∧zb0 x=true∧xs.all zb0=true∧Q (.bl (if neg then !inV x xs else inV x xs)) H
theorem zhz:OpR X (compareOp .In) (rIn X.K false):=by
 intro pins s σ H x y v u Q I rx ry h
 obtain⟨p,xs,rfl,hq,fx,fs,q⟩:=h
 cases ry
 rcases hq with hq | hq
 ·obtain⟨its,r,pl,hz⟩:=I.list hq
  refine SeqAt.in_listAt (eqU x) pl.isList (fun w hw=>zb1 rx fx r fs w (by simpa using hw)) ⟨.bl _,H,I,rfl,?_⟩
  rw [show its.toArray.any (eqU x)=its.any (eqU x) by simp,zcD r fs]
  exact q
 ·obtain⟨its,r,pl,hz⟩:=I.tuple hq
  refine SeqAt.in_tupleAt (eqU x) pl (fun w hw=>zb1 rx fx r fs w (by simpa using hw)) ⟨.bl _,H,I,rfl,?_⟩
  rw [show its.toArray.any (eqU x)=its.any (eqU x) by simp,zcD r fs]
  exact q
theorem zeS:OpR X (compareOp .NotIn) (rIn X.K true):=by
 intro pins s σ H x y v u Q I rx ry h
 obtain⟨p,xs,rfl,hq,fx,fs,q⟩:=h
 cases ry
 rcases hq with hq | hq
 ·obtain⟨its,r,pl,hz⟩:=I.list hq
  refine SeqAt.notIn_listAt (eqU x) pl.isList (fun w hw=>zb1 rx fx r fs w (by simpa using hw)) ⟨.bl _,H,I,rfl,?_⟩
  rw [show its.toArray.any (eqU x)=its.any (eqU x) by simp,zcD r fs]
  exact q
 ·obtain⟨its,r,pl,hz⟩:=I.tuple hq
  refine SeqAt.notIn_tupleAt (eqU x) pl (fun w hw=>zb1 rx fx r fs w (by simpa using hw)) ⟨.bl _,H,I,rfl,?_⟩
  rw [show its.toArray.any (eqU x)=its.any (eqU x) by simp,zcD r fs]
  exact q
theorem zx:zbb X (.builtin "len") (fun xs H Q=>∃ p ys,xs = [.ref p]∧(SqL X.K H p ys∨SqT X.K H p ys)∧Q (.int ys.length) H):=by
 intro pins s σ H xs us Q I r h
 obtain⟨p,ys,rfl,hq,q⟩:=h
 obtain⟨u,rfl,rx⟩:=vals1 r
 cases rx
 have hn:=zdH
 rcases hq with hq | hq
 ·obtain⟨its,r',pl,hz⟩:=I.list hq
  have hlen:=r'.length
  exact Calls.call_len_list pl.isList (by simp only [List.size_toArray] <;> omega) ⟨.int ys.length,H,I.tok _,⟨s.toks+1,by rw [List.size_toArray,hlen]⟩,q⟩
 ·obtain⟨its,r',pl,hz⟩:=I.tuple hq
  have hlen:=r'.length
  exact len_tuple pl (by simp only [List.size_toArray] <;> omega) ⟨.int ys.length,H,I.tok _,⟨s.toks+1,by rw [List.size_toArray,hlen]⟩,q⟩
theorem zeT:zbb X (.type "list") (fun xs H Q=>∃ p ys,xs = [.ref p]∧(SqL X.K H p ys∨SqT X.K H p ys)∧∀ l,H l=none→Q (.ref l) (upd H l (.lst ys))):=by
 intro pins s σ H xs us Q I r h
 obtain⟨p,ys,rfl,hq,q⟩:=h
 obtain⟨u,rfl,rx⟩:=vals1 r
 cases rx
 have fin:∀ (its:List Value),zE ys its→ys.length≤sizeLine→∀ (h':Heap) (c':Nat),(∀ b o',s.heap.get? b=some o'→h'.get? b=some o') →
   h'.get? s.heap.objs.size=some { cls:=.type "list",dict:=none,data:=.seq its.toArray c',slots:=#[] }→EP X pins σ Q (.ref s.heap.objs.size) { s with heap:=h' }:=fun its r' hz h' c' kp e =>
  ⟨.ref s.heap.objs.size,_,I.laid (t':=s.toks) kp (Nat.le_refl _) (show z7 X.prog X.w _ h' _ (.lst ys) from ⟨hz,its,c',r',e⟩),rfl,q _ (I.hok.fresh (Nat.le_refl _))⟩
 rcases hq with hq | hq
 ·obtain⟨its,r',pl,hz⟩:=I.list hq
  have hlen:=r'.length
  obtain⟨o,ho,hc,n,hd⟩:=pl.isList
  exact call_list_seq p (.inl rfl) ho hc hd (fun h' c' kp e=>fin its r' hz h' c' kp e) (by simp only [List.size_toArray] <;> omega)
 ·obtain⟨its,r',pl,hz⟩:=I.tuple hq
  have hlen:=r'.length
  obtain⟨o,ho,hc,n,hd⟩:=pl
  exact call_list_seq p (.inr rfl) ho hc hd (fun h' c' kp e=>fin its r' hz h' c' kp e) (by simp only [List.size_toArray] <;> omega)
theorem za8:zbb X (.type "tuple") (fun xs H Q=>∃ p ys,xs = [.ref p]∧((SqL X.K H p ys∧∀ l,H l=none→Q (.ref l) (upd H l (.tup ys)))∨(SqT X.K H p ys∧Q (.ref p) H))):=by
 intro pins s σ H xs us Q I r h
 obtain⟨p,ys,rfl,h⟩:=h
 obtain⟨u,rfl,rx⟩:=vals1 r
 cases rx
 rcases h with ⟨hq,q⟩ | ⟨hq,q⟩
 ·obtain⟨its,r',pl,hz⟩:=I.list hq
  have hlen:=r'.length
  refine call_tuple_list pl.isList (fun h' kp=>?_) (by simp only [List.size_toArray] <;> omega)
  have I1:Inv X pins σ H { s with heap:=h' }:=I.kept (t':=s.toks) kp
  have I2:Inv X pins σ (upd H h'.objs.size (.tup ys)) { s with heap:=h'.push { cls:=.type "tuple",data:=.seq its.toArray } } :=
   I1.laid (t':=s.toks) (fun b o e=>Heap.get?_push_of_some _ e) (Nat.le_refl _) (show z7 X.prog X.w _ _ _ (.tup ys) from ⟨hz,its,r',IsTup.new _ _⟩)
  exact⟨.ref h'.objs.size,_,I2,rfl,q _ (I1.hok.fresh (Nat.le_refl _))⟩
 ·obtain⟨its,r',pl,hz⟩:=I.tuple hq
  exact call_tuple_same pl ⟨.ref p,H,I,rfl,q⟩
def tyV (K:PySem.W.Frag) (T:String) (x:V) (H:Hp):Prop:=match x with
 | .str _=>T = "str"
 | .int _=>T = "int"
 | .ref p=>(T = "list"∧∃ xs,SqL K H p xs)∨(T = "tuple"∧∃ o,K.lookup p=some o∧o.cls = .type "tuple"∧o.dict=none) ∨
   (T = "dict"∧((∃ kvs,H p=some (.dK kvs))∨∃ kvs,H p=some (.dT kvs)))∨(T = "set"∧∃ S n,H p=some (.set S n))
 | _=>False
theorem zk6 {pins:List (Addr×Obj)} {σ:St} {H:Hp} {s:Shared} {T:String} {x:V} {v:Value} (I:Inv X pins σ H s) (r:RelV x v) (ty:tyV X.K T x H) :
  s.TypeIs v T∧∀ a,v = .ref a→∃ ob,s.heap.get? a=some ob∧ob.dict=none:=by
 cases x with
 | str z =>
  obtain⟨t,rfl⟩:=r
  cases (show T = "str" from ty)
  exact⟨typeIs_str s z t,fun _ e=>nomatch e⟩
 | int i =>
  obtain⟨t,rfl⟩:=r
  cases (show T = "int" from ty)
  exact⟨typeIs_int s i t,fun _ e=>nomatch e⟩
 | ref p =>
  cases r
  rcases ty with ⟨rfl,xs,hq⟩ | ⟨rfl,o,hk,hc,hd⟩ | ⟨rfl,hk⟩ | ⟨rfl,S,n,hk⟩
  ·obtain⟨its,_,pl,_⟩:=I.list hq
   refine⟨pl.isList.typeIs,fun a e=>?_⟩
   cases e
   obtain⟨o,n,e,c,hd,_⟩:=pl
   exact⟨o,e,hd⟩
  ·refine⟨⟨o,I.kIn p o hk,hc⟩,fun a e=>?_⟩
   cases e
   exact⟨o,I.kIn _ o hk,hd⟩
  ·have z:∃ o,s.heap.get? p=some o∧o.ExactDict:=by
    rcases hk with ⟨kvs,hk⟩ | ⟨kvs,hk⟩
    ·obtain⟨_,_,_,_,o,_,_,e,ex,_⟩:=I.hok p _ hk
     exact⟨o,e,ex⟩
    ·obtain⟨_,_,_,_,o,_,_,e,ex,_⟩:=I.hok p _ hk
     exact⟨o,e,ex⟩
   obtain⟨o,e,ex⟩:=z
   refine⟨⟨o,e,ex.1⟩,fun a e2=>?_⟩
   cases e2
   exact⟨o,e,ex.2.1⟩
  ·obtain⟨o,_,_,_,e,ex,_⟩:=I.hok p _ hk
   refine⟨⟨o,e,ex.1⟩,fun a e2=>?_⟩
   cases e2
   exact⟨o,e,ex.2.1⟩
 | _=>exact False.elim ty
def tBM (K:PySem.W.Frag) (T:String) (r:V→List V→Hp→VK→Prop) (to:TE) (t:TA):TE:=fun σ H Q=>to σ H fun x H1=>tyV K T x H1∧t σ H1 fun xs H2=>r x xs H2 Q
variable {o e:Expr} {es:List Expr} {to:TE} {t:TA} {name:Str} {apos cpos:Pos} {T id:String} {r:V→List V→Hp→VK→Prop}
theorem zbF (pa:PlainAttrs T) (slot:Slot T name id) (hty:typeOf (.builtin id)=pure (.type "method_descriptor")) (hm:MtR X id r) (ho:PE X o to) (ha:PA X (e :: es) t)
  (hbase:attributeBase o name X.env (eval o X.env)=eval o X.env:=by rfl)
  (hfew:((backTo cpos (starEach (e :: es) X.env)).all (fun x=>!x.1) && (backToKw cpos (keywordEach [] X.env)).all (fun x=>x.1.isSome)
   && decide ((e :: es).length+([]:List Keyword).length+(if ([]:List Keyword).isEmpty then 0 else 1) < 30))=true:=by rfl)
  (hline:(apos.endLine == cpos.line)=true:=by rfl) (hs:starEach (e :: es) X.env=(false,eval e X.env) :: starEach es X.env:=by rfl) (hplain:(backTo cpos (starEach es X.env)).any (·.1)=false:=by rfl) :
  PE X (.Call (.Attribute o name apos) (e :: es) [] cpos) (tBM X.K T r to t):=by
 intro pins s σ H Q I h
 refine wpAny_Call_method_late hbase hfew hline rfl (thn (ho pins s σ H _ I h) fun v s1 ⟨x,H1,I1,r1,ty,q1⟩=>?_)
 obtain⟨h1,h2⟩:=zk6 I1 r1 ty
 refine⟨T,id,pa,slot,hty,h1,h2,?_⟩
 have hA:=ha cpos pins s1 σ H1 _ I1 q1
 rw [hs] at hA ⊢
 refine Calls.callWith_builtin (by show (false || (backTo cpos (starEach es X.env)).any (·.1))=false; rw [hplain] <;> rfl) (Calls.evalArgs_plain ?_)
 exact thn hA fun us s2 ⟨vs,H2,I2,r2,q2⟩=>hm pins s2 σ H2 x vs v us Q I2 r1 r2 q2
end
end L2
namespace L2
open PySem PySem.Spec PyProof.Rows
def MtM (X:Cx) (id:String) (r:V→List V→Hp→VK→Prop):Prop :=
 ∀ (pins:List (Addr×Obj)) (s:Shared) (σ:St) (H:Hp) (x:V) (xs:List V) (v:Value) (us:List Value) (Q:VK),Inv X pins σ H s→RelV x v→zE xs us→r x xs H Q →
  wpAny (model X.prog X.w) X.A (call (.builtin id) (v :: us)) (EP X pins σ Q) X.xe s
theorem zE.one:∀ {x:V} {us:List Value},zE [x] us→∃ u,us = [u]∧RelV x u
 | _,_,.cons r .nil=>⟨_,rfl,r⟩
theorem zE.eraseIdx:∀ {xs:List V} {us:List Value} (i:Nat),zE xs us→zE (xs.eraseIdx i) (us.eraseIdx i)
 | _,_,_,.nil=>.nil
 | _,_,0,.cons _ t=>t
 | _,_,i+1,.cons r t=>.cons r (zE.eraseIdx i t)
theorem zE.rep {xs:List V} {us:List Value} (h:zE xs us):∀ k:Nat,zE (List.replicate k xs).flatten (List.replicate k us).flatten
 | 0=>.nil
 | k+1=>by
  rw [List.replicate_succ,List.replicate_succ,List.flatten_cons,List.flatten_cons]
  exact zE.append h (zE.rep h k)
theorem zet {α:Type}:∀ (l:List α) (i:Nat),(l.eraseIdx i).length≤l.length
 | [],_=>Nat.le_refl _
 | _ :: _,0=>Nat.le_succ _
 | _ :: r,i+1=>Nat.succ_le_succ (zet r i)
theorem foldl_rep (its:List Value):∀ (k:Nat) (acc:List Value),
  List.foldl (fun x1 x2=>x1++x2) acc.toArray (List.replicate k its.toArray)=(acc++(List.replicate k its).flatten).toArray
 | 0,acc=>by simp
 | k+1,acc=>by
  have e:acc.toArray++its.toArray=(acc++its).toArray:=by simp
  have e2:(acc++its)++(List.replicate k its).flatten=acc++(List.replicate (k+1) its).flatten:=by
   rw [List.replicate_succ,List.flatten_cons,List.append_assoc]
  rw [← e2,← foldl_rep its k (acc++its),← e,List.replicate_succ,List.foldl_cons]
section
variable {X:Cx} {pins:List (Addr×Obj)} {σ:St} {H:Hp} {s:Shared} {l b:Addr} {xs ys zs:List V}
theorem Inv.lset {its its':List Value} {n:Nat} {f:Array Value→Array Value} {t':Nat} (I:Inv X pins σ H s) (hH:H l=some (.lst xs))
  (e:s.heap.get? l=some { cls:=.type "list",data:=.seq its.toArray n }) (hf:f its.toArray=its'.toArray) (hv:zE ys its') (hz:ys.length≤sizeLine) :
  Inv X pins σ (upd H l (.lst ys)) { s with heap:=s.heap.update l (Obj.mapSeq f),toks:=t' }:=by
 have q:=PySem.IsL.update e f
 rw [hf] at q
 refine I.write (x:=l) (e:=l) (by rw [hH]; exact trivial) (.inl rfl) (fun b' u hb hu=>(Heap.get?_update_other s.heap (Obj.mapSeq f) (Ne.symm hb)).trans hu) ⟨_,q⟩ ?_
 exact⟨hz,its',_,hv,q⟩
theorem Inv.lnew {its:List Value} {t':Nat} (I:Inv X pins σ H s) (hv:zE ys its) (hz:ys.length≤sizeLine) :
  Inv X pins σ (upd H s.heap.objs.size (.lst ys)) { s with heap:=s.heap.push { cls:=.type "list",data:=.seq its.toArray },toks:=t' } :=
 I.laid (fun _ _ q=>Heap.get?_push_of_some _ q) (Nat.le_refl _) ⟨hz,its,0,hv,Heap.get?_push_size _ rfl⟩
theorem Inv.fresh (I:Inv X pins σ H s):H s.heap.objs.size=none:=I.hok.fresh (Nat.le_refl _)
theorem Inv.lstM (I:Inv X pins σ H s) (hH:H l=some (.lst xs)):xs.length≤sizeLine∧∃ (its:List Value) (n:Nat),zE xs its∧xs.length=its.length∧s.heap.get? l=some { cls:=.type "list",data:=.seq its.toArray n }:=by
 obtain⟨z,its,n,r,e⟩:=I.hok l _ hH
 exact⟨z,its,n,r,r.length,e⟩
theorem zcE {n:Nat} (h:n≤sizeLine):Builtin.List.listTooLong n=false:=by
 unfold Builtin.List.listTooLong
 exact decide_eq_false (by omega)
end
section
variable {X:Cx}
def zjR:V→List V→Hp→VK→Prop:=fun x vs H Q=>∃ l xs y,x = .ref l∧vs = [y]∧H l=some (.lst xs)∧xs.length < sizeLine∧Q .non (upd H l (.lst (xs++[y])))
theorem za1:MtM X "list.append" zjR:=by
 intro pins s σ H x vs v us Q I rx rv h
 obtain⟨l,xs,y,rfl,rfl,hH,hz,q⟩:=h
 cases rx
 obtain⟨u,rfl,ru⟩:=rv.one
 obtain⟨z,its,n,r,hl,e⟩:=I.lstM hH
 refine call_meets F.slot_list_append ⟨_,e,rfl⟩ F.entry_list_append (F.args_list_append_2 _ _) (PySem.list_append l its.toArray n u (by rw [List.size_toArray]; omega)) ⟨e,?_⟩
 refine⟨.non,_,I.lset (its':=its++[u]) hH e (by simp) (r.append (.cons ru .nil)) ?_,rfl,q⟩
 rw [List.length_append,List.length_singleton]
 omega
def zjS:V→List V→Hp→VK→Prop:=fun x vs H Q=>∃ l b xs zs,x = .ref l∧vs = [.ref b]∧H l=some (.lst xs)∧H b=some (.lst zs)∧xs.length+zs.length≤sizeLine∧Q .non (upd H l (.lst (xs++zs)))
theorem zeu:MtM X "list.extend" zjS:=by
 intro pins s σ H x vs v us Q I rx rv h
 obtain⟨l,b,xs,zs,rfl,rfl,hH,hB,hz,q⟩:=h
 cases rx
 obtain⟨u,rfl,ru⟩:=rv.one
 cases ru
 obtain⟨z,its,n,r,hl,e⟩:=I.lstM hH
 obtain⟨z2,its2,n2,r2,hl2,e2⟩:=I.lstM hB
 have hsz:its.toArray.size+its2.toArray.size≤sizeLine:=by rw [List.size_toArray,List.size_toArray]; omega
 have hlong:¬ (!its.toArray.isEmpty && Builtin.List.listTooLong (its.toArray.size+its2.toArray.size))=true:=by
  rw [zcE hsz,Bool.and_false]
  exact Bool.false_ne_true
 refine call_meets F.slot_list_extend ⟨_,e,rfl⟩ F.entry_list_extend (F.args_list_extend_2 _ _)
  (AutoSeq1.list_extend_list_list_0 l its.toArray n b its2.toArray n2 hlong (by rw [List.size_toArray]; omega) (by omega)) ⟨e,e2,?_⟩
 refine⟨.non,_,I.lset (its':=its++its2) hH e (by simp) (r.append r2) ?_,rfl,q⟩
 rw [List.length_append]
 omega
def zk7:V→List V→Hp→VK→Prop:=fun x vs H Q=>∃ l xs i k y,x = .ref l∧vs = [.int i]∧H l=some (.lst xs)∧-(2 ^ 63)≤i∧i < 2 ^ 63∧seqIndex? i xs.length=some k∧xs[k]? = some y∧Q y (upd H l (.lst (xs.eraseIdx k)))
theorem ziy:MtM X "list.pop" zk7:=by
 intro pins s σ H x vs v us Q I rx rv h
 obtain⟨l,xs,i,k,y,rfl,rfl,hH,h1,h2,hk,hy,q⟩:=h
 cases rx
 obtain⟨u,rfl,ru⟩:=rv.one
 obtain⟨t,rfl⟩:=ru
 obtain⟨z,its,n,r,hl,e⟩:=I.lstM hH
 obtain⟨w,hw,rw'⟩:=r.get hy
 refine call_meets F.slot_list_pop ⟨_,e,rfl⟩ F.entry_list_pop (F.args_list_pop_2 _ _)
  (MeetsSeq.list_pop_at l its.toArray n i t k w (fitsIndex_both h1 h2) (by rw [List.size_toArray,← hl]; exact hk) (by rw [← Array.getElem?_toList]; exact hw) (by rw [List.size_toArray]; omega)) ⟨e,?_⟩
 refine⟨y,_,I.lset (its':=its.eraseIdx k) hH e ?_ (r.eraseIdx k) ?_,rw',q⟩
 ·show its.toArray.eraseIdxIfInBounds k=(its.eraseIdx k).toArray
  rw [List.eraseIdxIfInBounds_toArray]
 ·have:=zet xs k
  omega
def zmt:R2:=fun x y H Q=>∃ l b xs zs,x = .ref l∧y = .ref b∧H l=some (.lst xs)∧H b=some (.lst zs)∧xs.length+zs.length≤sizeLine∧∀ p,H p=none→Q (.ref p) (upd H p (.lst (xs++zs)))
theorem zct:OpR X (binaryOp .Add) zmt:=by
 intro pins s σ H x y v u Q I rx ry h
 obtain⟨l,b,xs,zs,rfl,rfl,hH,hB,hz,q⟩:=h
 cases rx
 cases ry
 obtain⟨z,its,n,r,hl,e⟩:=I.lstM hH
 obtain⟨z2,its2,n2,r2,hl2,e2⟩:=I.lstM hB
 refine PySem.P.add_list e e2 ?_ (by rw [List.size_toArray,List.size_toArray]; omega)
 have ea:its.toArray++its2.toArray=(its++its2).toArray:=by simp
 rw [ea]
 exact⟨.ref _,_,I.lnew (t':=s.toks) (r.append r2) (by rw [List.length_append]; omega),rfl,q _ I.fresh⟩
def zmu:R2:=fun x y H Q=>∃ l k xs,x = .ref l∧y = .int k∧H l=some (.lst xs)∧-(2 ^ 63)≤k∧k < 2 ^ 63∧xs.length*k.toNat≤sizeLine ∧
 ∀ p,H p=none→Q (.ref p) (upd H p (.lst (List.replicate k.toNat xs).flatten))
theorem len_rep {α:Type} (xs:List α) (k:Nat):(List.replicate k xs).flatten.length=k*xs.length:=by
 induction k with
 | zero=>simp
 | succ k ih=>rw [List.replicate_succ,List.flatten_cons,List.length_append,ih,Nat.succ_mul,Nat.add_comm]
theorem zgh:OpR X (binaryOp .Mult) zmu:=by
 intro pins s σ H x y v u Q I rx ry h
 obtain⟨l,k,xs,rfl,rfl,hH,h1,h2,hz,q⟩:=h
 cases rx
 obtain⟨t,rfl⟩:=ry
 obtain⟨z,its,n,r,hl,e⟩:=I.lstM hH
 have hlen:its.toArray.size*k.toNat≤sizeLine:=by rw [List.size_toArray,← hl]; exact hz
 have hcap:¬ its.toArray.size*k.toNat > (2 ^ 63 - 1) / 8:=by
  have:(sizeLine:Nat)≤(2 ^ 63 - 1) / 8:=by decide
  omega
 have hfit:¬ (!Builtin.List.listFitsIndex k)=true:=by
  rw [fitsIndex_both h1 h2]
  exact Bool.false_ne_true
 have hlong:¬ Builtin.List.listTooLong (its.toArray.size*k.toNat)=true:=by
  rw [zcE hlen]
  exact Bool.false_ne_true
 have hnew:List.foldl (fun x1 x2=>x1++x2) #[] (List.replicate (if its.toArray.isEmpty=true then 0 else k.toNat) its.toArray)=(List.replicate k.toNat its).flatten.toArray:=by
  have f0:∀ m:Nat,List.foldl (fun x1 x2=>x1++x2) #[] (List.replicate m its.toArray)=(List.replicate m its).flatten.toArray:=fun m=>by
   have:=foldl_rep its m []
   rw [List.nil_append] at this
   exact this
  rw [f0]
  cases its with
  | nil=>simp
  | cons a r'=>rw [if_neg (by simp)]
 refine wpAny_binaryOp_repeat_ref (T:="list") (U:="int") (by decide) ⟨_,e,rfl⟩ (fun s'=>typeIs_int s' k t) noFill_list_mul F.fills_int_mul F.slot_int_rmul repeat_list F.slot_int_index.lookup
  (call_meets F.slot_int_rmul (typeIs_int s k t) F.entry_int_rmul (F.args_int_rmul_2 _ _) (int___rmul___int_list k t l its.toArray n)
   ⟨e,rfl,⟨_,e,rfl⟩,call_meets F.slot_list_mul ⟨_,e,rfl⟩ F.entry_list_mul (F.args_list_mul_2 _ _) (AutoListH.list___mul___list_int_3 l its.toArray n k t hfit hcap hlong) ⟨e,?_⟩⟩)
 rw [hnew]
 exact⟨.ref _,_,I.lnew (t':=s.toks) (r.rep k.toNat) (by rw [len_rep,Nat.mul_comm]; exact hz),rfl,q _ I.fresh⟩
end
section
variable {prog:Program} {w:World} {A:Around} {E:Value→Shared→Prop} {s:Shared}
end
section
variable {X:Cx}
end
end L2
namespace Att
open PySem PySem.W PySem.Calls PyProof.Rows
theorem zdh {P:Params} {h:Heap}:∀ (ns:List Int) (vs:List Value),WellAll P h vs (ns.map WData.int)→IntsAre vs ns:=by
 intro ns
 induction ns with
 | nil =>
  intro vs w
  rw [List.map_nil] at w
  cases w
  exact .nil
 | cons n ns ih =>
  intro vs w
  rw [List.map_cons] at w
  cases w with
  | cons a b =>
   cases a
   exact .cons _ _ (ih _ b)
theorem zhA {l:OpenLaw} {n:Nat} (hn:l.most=some n) {P:Params} {h:Heap} {args:List WData} {vals:List Value}
  (hpre:l.row.toRowW.claim.pre args=true) (hwl:WellAll P h vals args) :
  ∃ a vs ns,vals = [Value.ref a]∧args = [WData.list (ns.map WData.int)]∧h.get? a=some { cls:=.type "list",data:=.seq vs.toArray }∧IntsAre vs ns∧ns.length≤n:=by
 have hsh:WShape.hasAll [] args [.list .int]=true:=(pre_splitW hpre).1
 have hc:l.pre.holds [] { args:=args }=true:=(pre_splitW hpre).2
 obtain⟨d,r,rfl,h1,h2⟩:=hasAllW_cons hsh
 obtain rfl:=hasAllW_nil h2
 obtain⟨xs,rfl,h3⟩:=hasW_list h1
 obtain⟨ns,rfl⟩:=items_int h3
 have hlen:ns.length≤n:=by
  unfold OpenLaw.pre at hc
  have h4:(WTm.not (.lt (.lit (.int (n:Int))) (.len (.arg 0)))).holds [] { args:=[.list (ns.map .int)] }=true:=by
   have h4:=(holds_andW hc).1
   rw [hn] at h4
   exact h4
  have h5:=condW_of h4 (w_not (w_lt w_lit (w_len_list (w_arg rfl))))
  rw [List.length_map] at h5
  refine Nat.le_of_not_lt fun q=>?_
  have q':(n:Int) < ((ns.length:Nat):Int):=by omega
  first
   | (rw [decide_eq_true q'] at h5; exact absurd h5 (by decide))
   | (simp at h5; omega)
 cases hwl with
 | cons w1 w2 =>
  cases w2
  cases w1 with
  | list ho hall=>exact⟨_,_,ns,rfl,rfl,ho,zdh ns _ hall,hlen⟩
theorem zhB (l:OpenLaw) (args:List WData):l.row.toRowW.claim.post args (.bool true) args=true :=
 postW_of (r:=l.row.toRowW) (X:=(true == true))
  (show WShape.has [] (.bool true) .bool=true by first | rfl | decide | simp [WShape.has,WShape.arms,WShape.armsAll])
  (show (WTm.eq .res (.lit (.bool true))).value [] { args:=args,res:=some (.bool true),after:=args }=some (.bool (true == true)) from w_eq_bool (w_res rfl) w_lit) rfl
theorem attach_call {l:OpenLaw} {n:Nat} {q:Program} {loose:List Str} {XP:(Str→Option Value)→Heap→Prop} {YP:World→Heap→Prop} {d:DefRec}
  (hn:l.most=some n) (hdf:d.params.defaults = [])
  (call:∀ (w:World) (s₀ s₁:Shared) (mg mb:Str→Option Value) (fa:Addr) (o:Obj) (pm cd doc:Value) (a:Addr) (vs:List Value) (ns:List Int),
   Ground q loose [] XP w s₀ mg mb s₁.heap→YP w s₁.heap →
   s₁.heap.get? fa=some o→o.data = .func (docDef d.name d.params d.body d.scope pm cd doc)→s₁.heap.CodeRec cd d.name→mg d.name=some (.ref fa) →
   s₁.heap.get? a=some { cls:=.type "list",data:=.seq vs.toArray }→IntsAre vs ns→ns.length≤n→s₁.gens = #[] →
   codeAny (model l.prog w) callerA (.call (.ref fa) ⟨[.ref a],[]⟩) (fun r s'=>r = .ok (.ret (.bool true))∧OldK s₁.heap s'.heap∧s'.os=s₁.os∧AllBare s'.gens) s₁) :
  WalkO q loose XP YP l.row.toRowW d [] (fun f vs=>PySem.call f vs):=by
 intro w s₀ s₁ mg mb G Y fa o pm cd doc dV kV ho hd hcd hD hmg hg args vals as hpre hlay hrd hwl hlo
 obtain rfl:dV = .none:=Dflts.none hD hdf
 obtain rfl:kV = .none:=Dflts.noKw hD
 obtain⟨a,vs,ns,rfl,rfl,hobj,hints,hlen⟩:=zhA hn hpre hwl
 refine enter_call (codeAny_mono (call w s₀ s₁ mg mb fa o pm cd doc a vs ns G Y ho (fd_plain hd) hcd hmg hobj hints hlen hg) fun r s' hq=>?_)
 obtain⟨rfl,h2,h3,h4⟩:=hq
 exact⟨.inl ⟨.bool true,.bool true,[],rfl,fun _=>rfl,.bool true,zhB l _,fun _=>⟨List.Pairwise.nil,fun _ hm=>(nomatch hm)⟩⟩,h2,h3,h4⟩
section
variable {prog:Program} {w:World} {A:Around} {E:Value→Shared→Prop} {s:Shared} {K:Frag}
end
end Att
namespace L2
open PySem PySem.Spec PyProof.Rows
theorem zew:∀ {vs:List Value} {ns:List Int},IntsAre vs ns→zE (ns.map V.int) vs
 | _,_,.nil=>.nil
 | _,_,.cons n t h=>.cons ⟨t,rfl⟩ (zew h)
def zk8 (H:Hp):Prop:=∀ b,H b=none∨∃ o xs,H b=some (.frz o (.lst xs))
theorem ziz {P:Program} {w:World} {K:PySem.W.Frag} {mg mb:Str→Option Value} {CX:CXT} {k:Nat} {fa a:Addr} {fd:FuncData} {x:Str} {sp:Sp} {s₁:Shared} {vs:List Value} {ns:List Int}
  (KX:K.In s₁.heap) (hns:s₁.heap.Ns mainGlobals mg) (hb:s₁.heap.Ns builtinsNs mb) (hbb:∀ x:Str,x≠"__name__"→mb x=bootBuiltins x) (hlim:s₁.heap.NoLimit) (hg:s₁.gens = #[])
  (ha:s₁.heap.get? a=some { cls:=.type "list",data:=.seq vs.toArray }) (hi:IntsAre vs ns) (hl:ns.length≤sizeLine) (hr:Room k callerA)
  (F:∀ base:Heap,K.In base→base.Ns mainGlobals mg→FnOk P w K mg base CX k fa fd [x] sp) (hbind:∀ (s:Shared) (u:Value),BindsTo s fd ⟨[u],[]⟩ [(x,u)])
  (hsp:∀ H:Hp,zk8 H→SqL K H a (ns.map V.int)→sp [.ref a] H (fun v _=>v = .bl true) fun _ _ _=>False)
  (hCX:∀ H e s',CX [] H s₁ (fun _ _ _=>False) e s'→False) :
  codeAny (model P w) callerA (.call (.ref fa) ⟨[.ref a],[]⟩) (fun r s'=>r = .ok (.ret (.bool true))∧OldK s₁.heap s'.heap∧s'.os=s₁.os∧AllBare s'.gens) s₁:=by
 have rv:=zew hi
 have lenV:=hi.length
 have core:∀ H:Hp,zk8 H→SqL K H a (ns.map V.int)→HOk P w H s₁.heap→(∀ b,H b≠none→b=a)→(H a≠none→K.lookup a=none) →
   codeAny (model P w) callerA (.call (.ref fa) ⟨[.ref a],[]⟩) (fun r s'=>r = .ok (.ret (.bool true))∧OldK s₁.heap s'.heap∧s'.os=s₁.os∧AllBare s'.gens) s₁:=by
  intro H hO hS hok hA hK
  have base_of:∀ {b:Addr} {o:Obj},s₁.heap.get? b=some o→H b=none→(zeK s₁.heap H).get? b=some o:=fun e n=>zik e n
  have noA:∀ {b:Addr} {o:Obj} {es:Array DictEntry} {ep:Nat},s₁.heap.get? b=some o→o.data = .dict es ep→H b=none:=fun {b o es ep} e d=>by
   cases q:H b with
   | none=>rfl
   | some u =>
    have e':b=a:=hA b (by rw [q]; simp)
    subst e'
    rw [ha] at e; cases e
    have d':Data.seq vs.toArray _=Data.dict es ep:=d
    cases d'
  have nsK:∀ {b:Addr} {m:Str→Option Value},s₁.heap.Ns b m→(zeK s₁.heap H).Ns b m:=fun {b m} ⟨o,es,ep,e,d,r⟩=>⟨o,es,ep,base_of e (noA e d),d,r⟩
  have hKb:K.In (zeK s₁.heap H):=fun b o e=>base_of (KX b o e) (by
   cases q:H b with
   | none=>rfl
   | some u =>
    have e':b=a:=hA b (by rw [q]; simp)
    subst e'
    rw [hK (by rw [q]; simp)] at e; cases e)
  have hM:Mod K mg (zeK s₁.heap H):=⟨hKb,nsK hns,⟨mb,nsK hb,hbb⟩,let ⟨mc,h1,h2⟩:=hlim; ⟨mc,nsK h1,h2⟩⟩
  have e0:Env0 P w K mg (zeK s₁.heap H) callerA [] s₁ H:=⟨rfl,hM,fun b o e=>zjK e,Nat.le_of_eq (zhu _ _),trivial,fun b hb=>absurd (show b∈([]:List Addr) from hb) (by simp),hok,.of_eq hg⟩
  refine codeAny_mono ((F _ hKb (nsK hns)).run callerA [] s₁ H ⟨[.ref a],[]⟩ [.ref a] [.ref a] _ _ hr e0 (hbind s₁ (.ref a)) (.cons rfl .nil) (hsp H hO hS)) fun r s' h=>?_
  cases r with
  | error e=>exact (hCX H e s' h).elim
  | ok fl =>
   cases fl with
   | next=>exact False.elim h
   | brk=>exact False.elim h
   | cont=>exact False.elim h
   | ret u =>
    obtain⟨v,H',os,bare,un,hok',r',q⟩:=h
    have q':v = .bl true:=q
    subst q'
    obtain rfl:u=Value.bool true:=r'
    refine⟨rfl,OldK.of_keep fun b o e=>?_,os,bare⟩
    cases q:H b with
    | none=>exact un.keep b o e q (by intro z; exact absurd (show b∈([]:List Addr) from z) (by simp)) (by simp)
    | some u =>
     rcases hO b with z | ⟨ob,xs,z⟩
     ·rw [q] at z; cases z
     ·have z2:=un.frzs b ob _ z
      obtain⟨e1,_⟩:=hok b _ z
      obtain⟨e2,_⟩:=hok' b _ z2
      rw [e] at e1; cases e1
      exact e2
 cases hk:K.lookup a with
 | some o =>
  have e:=KX a o hk
  rw [ha] at e
  cases e
  refine core (fun _=>none) (fun _=>.inl rfl) (.inr ⟨_,vs.toArray,_,hk,rfl,rfl,rfl,by rw [List.size_toArray,lenV]; exact hl,by simpa using rv⟩) (fun b u z=>by have z':(none:Option HO)=some u:=z; cases z') (fun b z=>absurd rfl z) fun z=>absurd rfl z
 | none =>
  refine core (fun b=>if b=a then some (.frz { cls:=.type "list",data:=.seq vs.toArray } (.lst (ns.map V.int))) else none) (fun b=>?_) (.inl (.inr ⟨{ cls:=.type "list",data:=.seq vs.toArray },if_pos rfl⟩)) (fun b u z=>?_) (fun b z=>?_) fun _=>hk
  ·by_cases hb:b=a
   ·exact .inr ⟨_,_,if_pos hb⟩
   ·exact .inl (if_neg hb)
  ·by_cases hb:b=a
   ·have z':=(if_pos hb).symm.trans z
    cases z'
    subst hb
    exact⟨ha,by rw [List.length_map]; exact hl,vs,_,rv,ha⟩
   ·have z':=(if_neg hb).symm.trans z
    cases z'
  ·by_cases hb:b=a
   ·exact hb
   ·exact absurd (if_neg hb) z
end L2
namespace L2
open PySem PySem.Spec PyProof.Rows
theorem zjT {l:PySem.W.OpenLaw} {n k:Nat} {q:Program} {loose:List Str} {XP:(Str→Option Value)→Heap→Prop} {YP:World→Heap→Prop} {d:DefRec} {K:Params→PySem.W.Frag} {CX:World→CXT} {sp:World→Sp} {x:Str}
  (hn:l.most=some n) (hn2:n≤sizeLine) (hdf:d.params.defaults = []) (hr:Room k callerA)
  (hY:∀ (w:World) (h:Heap),YP w h→(K w.params).In h)
  (F:∀ (w:World) (mg:Str→Option Value) (fa:Addr) (h:Heap),(K w.params).In h→h.Ns mainGlobals mg→mg d.name=some (.ref fa) →
   ∃ fd:FuncData,(∀ (s:Shared) (u:Value),BindsTo s fd ⟨[u],[]⟩ [(x,u)]) ∧
    ∀ base:Heap,(K w.params).In base→base.Ns mainGlobals mg→FnOk l.prog w (K w.params) mg base (CX w) k fa fd [x] (sp w))
  (hsp:∀ (w:World) (H:Hp) (a:Addr) (ns:List Int),ns.length≤n→zk8 H→SqL (K w.params) H a (ns.map V.int)→sp w [.ref a] H (fun v _=>v = .bl true) fun _ _ _=>False)
  (hCX:∀ (w:World) (H:Hp) (s:Shared) (e:Value) (s':Shared),CX w [] H s (fun _ _ _=>False) e s'→False) :
  PySem.W.WalkO q loose XP YP l.row.toRowW d [] (fun f vs=>PySem.call f vs):=by
 refine Att.attach_call hn hdf fun w s₀ s₁ mg mb fa o pm cd doc a vs ns G Y ho hd hcd hmg hobj hints hlen hg=>?_
 have KX:=hY w _ Y
 obtain⟨fd,hb,hF⟩:=F w mg fa _ KX G.T.g hmg
 exact ziz KX G.T.g G.T.b G.T.builtins G.T.nolimit hg hobj hints (Nat.le_trans hlen hn2) hr hF hb (fun H hO hS=>hsp w H a ns hlen hO hS) fun H e s'=>hCX w H s₁ e s'
end L2
namespace L2
open PySem PySem.Spec PyProof.Rows
def zbu (s:Stmt):Arguments:=match s with
 | .FunctionDef _ a _ _ _ _ _ _ _ _=>a
 | _=>{ posonlyargs:=[],args:=[],vararg:=none,kwonlyargs:=[],kw_defaults:=[],kwarg:=none,defaults:=[] }
def zaT (s:Stmt):List Stmt:=match s with
 | .FunctionDef _ _ b _ _ _ _ _ _ _=>b
 | _=>[]
def zh (s:Stmt):Scope:=match s with
 | .FunctionDef _ _ _ _ _ _ sc _ _ _=>sc
 | _=>{ kind:=.function,names:=[],isGenerator:=false,isCoroutine:=false }
abbrev CX0:CXT:=fun _ _ _ _ _ _=>False
abbrev E0:XK:=fun _ _ _=>False
theorem zW {X:Cx}:zeQ CX0 X E0:=fun _ _ _ _ _ _ _ h=>h.elim
structure Fun (K:PySem.W.Frag) (x qual:Str) (st:Stmt) (f:Addr) (fd:FuncData):Prop where
 ex:∃ (oc:Value) (od:Option Addr) (kV doc pm:Value) (an:Option Addr) (cdv ct:Value) (osl:Array (Option Value)),
  fd=PySem.W.fnOf x qual (zbu st) (zaT st) (zh st) .none kV doc pm an cdv ct∧K.lookup f=some ⟨oc,od,.func fd,osl⟩∧PySem.W.codeIn K cdv qual=true
 kp:PySem.W.keepIn K (.ref f)=true
section
variable {P:Program} {w:World} {K:PySem.W.Frag} {mg:Str→Option Value} {base:Heap}
theorem Fun.ok {x qual:Str} {st:Stmt} {f:Addr} {fd:FuncData} {N ps:List Str} {k:Nat} {sp:Sp} (F:Fun K x qual st f fd) (S:FnScope N ps (zh st)) (len:∀ vs H Q E,sp vs H Q E→vs.length=ps.length)
  (hbody:∀ (cdv:Value) (A:Around) (outer:List Env) (s:Shared) (H:Hp) (vs:List V) (Q:VK) (E:XK),Room k (A.deeper (envOfC qual (zh st) s.heap.objs.size f cdv))→sp vs H Q E →
   ∃ t,PSs (zbr CX0 P w K mg base N qual (zh st) f cdv A outer s H E).nox (zaT st) t∧t { nx:=fun _ H'=>Q .non H',rt:=Q } (start N vs) H):FnOk P w K mg base CX0 (k+1) f fd ps sp:=by
 obtain⟨oc,od,kV,doc,pm,an,cdv,ct,osl,rfl,lk,hcd⟩:=F.ex
 refine zkE lk hcd S len fun A outer s H vs Q E hr hsp=>?_
 obtain⟨t,h,q⟩:=hbody cdv A outer s H vs Q E hr hsp
 exact⟨t,h.nox,q⟩
theorem Fun.binds {x qual:Str} {st:Stmt} {f:Addr} {fd:FuncData} {ps:List Str} (F:Fun K x qual st f fd)
  (h:∀ (kV doc pm:Value) (an:Option Addr) (cdv ct:Value) (us:List Value),us.length=ps.length→bindArgs (PySem.W.fnOf x qual (zbu st) (zaT st) (zh st) .none kV doc pm an cdv ct) ⟨us,[]⟩=pure (ps.zip us)):Binds K fd ps []:=by
 obtain⟨oc,od,kV,doc,pm,an,cdv,ct,osl,rfl,lk,hcd⟩:=F.ex
 exact .all (h kV doc pm an cdv ct)
theorem ziA {x qual:Str} {st:Stmt} {f:Addr} {oc:Value} {od an:Option Addr} {osl:Array (Option Value)} {kV doc pm cdv ct:Value} (l:K.lookup f=some ⟨oc,od,.func (PySem.W.fnOf x qual (zbu st) (zaT st) (zh st) .none kV doc pm an cdv ct),osl⟩)
  (c:PySem.W.codeIn K cdv qual=true) (k:PySem.W.keepIn K (.ref f)=true):Fun K x qual st f (PySem.W.fnOf x qual (zbu st) (zaT st) (zh st) .none kV doc pm an cdv ct):=⟨⟨oc,od,kV,doc,pm,an,cdv,ct,osl,rfl,l,c⟩,k⟩
end
section
variable {X:Cx}
end
theorem zcu {A B:Prop} (h:B):if false=true then A else B:=by
 rw [if_neg Bool.false_ne_true]
 exact h
theorem zhC {A B:Prop} (h:A):if true=true then A else B:=by
 rw [if_pos rfl]
 exact h
theorem zap {c A B:Prop} [Decidable c] (h1:c→A) (h2:¬ c→B):if c then A else B:=by
 by_cases h:c
 ·rw [if_pos h]
  exact h1 h
 ·rw [if_neg h]
  exact h2 h
def zy (H H':Hp):Prop:=∀ b o,H b=some o→H' b=some o
theorem zy.trans {H H1 H2:Hp} (a:zy H H1) (b:zy H1 H2):zy H H2:=fun c o h=>b c o (a c o h)
theorem zy.free {H H':Hp} (e:zy H H') {l:Addr} (h:H' l=Option.none):H l=Option.none:=by
 cases q:H l with
 | none=>rfl
 | some o =>
  rw [e l o q] at h
  cases h
theorem zy.seq {K:PySem.W.Frag} {H H':Hp} {a:Addr} {xs:List V} (e:zy H H') (h:SqL K H a xs):SqL K H' a xs:=by
 rcases h with (h | ⟨o,h⟩) | h
 ·exact .inl (.inl (e _ _ h))
 ·exact .inl (.inr ⟨o,e _ _ h⟩)
 ·exact .inr h
end L2
section
set_option maxHeartbeats 3999000
namespace L2
open PySem PySem.Spec PyProof.Rows
def zab (cs:List (Str×Addr)):List (Str×NameKind)→List (Str×Addr)→List (Str×Addr)
 | [],acc=>acc
 | (n,k) :: r,acc=>if k == .free then zab cs r ((n,(cs.lookup n).getD 0) :: acc) else zab cs r acc
theorem zcp {scope:Scope} {env:Env} (h:∀ y∈scope.names,y.2 = .free→∃ c,env.cells.lookup y.1=some c) :
  closureFor scope env=pure (zab env.cells scope.names []):=by
 have go:∀ (names:List (Str×NameKind)) (acc:List (Str×Addr)),(∀ y∈names,y.2 = .free→∃ c,env.cells.lookup y.1=some c) →
   (forIn names acc (fun (x:Str×NameKind) (cs:List (Str×Addr))=>(if (x.2 == NameKind.free)=true then do
    let a ← cellOf env x.1
    pure (ForInStep.yield ((x.1,a) :: cs)) else pure (ForInStep.yield cs):Sem (ForInStep (List (Str×Addr))))))=(pure (zab env.cells names acc):Sem _):=by
  intro names
  induction names with
  | nil=>intro acc _; rfl
  | cons y r ih =>
   intro acc hy
   obtain⟨n,k⟩:=y
   rw [List.forIn_cons]
   cases hk:(k == NameKind.free) with
   | true =>
    obtain⟨c,hc⟩:=hy (n,k) List.mem_cons_self (by simpa using hk)
    have hcell:cellOf env n=pure c:=by
     unfold cellOf
     have hc':env.cells.lookup n=some c:=hc
     rw [hc']
    simp only [hk,if_true,hcell]
    have e:=ih ((n,c) :: acc) fun y hy'=>hy y (List.mem_cons_of_mem _ hy')
    have hc':env.cells.lookup n=some c:=hc
    simp only [zab,hk,if_true,hc',Option.getD_some]
    exact e
   | false =>
    simp only [hk,Bool.false_eq_true,if_false]
    have e:=ih acc fun y hy'=>hy y (List.mem_cons_of_mem _ hy')
    simp only [zab,hk,Bool.false_eq_true,if_false]
    exact e
 have e:=go scope.names [] h
 unfold closureFor
 show (forIn scope.names [] _ >>= fun cs=>pure cs)=_
 first
  | (rw [e]; rfl)
  | (simp only []; rw [e]; rfl)
  | (have e':=e; simp at e' ⊢; exact e')
theorem zby {cs:List (Str×Addr)}:∀ (names:List (Str×NameKind)) (acc:List (Str×Addr)),
  (∀ y∈names,y.2 = .free→∃ c,cs.lookup y.1=some c)→(∀ x c,acc.lookup x=some c→cs.lookup x=some c) →
  ∀ x c,(zab cs names acc).lookup x=some c→cs.lookup x=some c
 | [],acc,_,h,x,c,e=>h x c e
 | (n,k) :: r,acc,hy,h,x,c,e=>by
  have hr:∀ y∈r,y.2 = .free→∃ c,cs.lookup y.1=some c:=fun y hy'=>hy y (List.mem_cons_of_mem _ hy')
  unfold zab at e
  cases hk:(k == NameKind.free) with
  | false =>
   rw [hk] at e
   exact zby r acc hr h x c e
  | true =>
   rw [hk] at e
   obtain⟨d,hd⟩:=hy (n,k) List.mem_cons_self (by simpa using hk)
   have hd':cs.lookup n=some d:=hd
   refine zby r _ hr (fun x c e'=>?_) x c e
   rw [hd',Option.getD_some,List.lookup_cons] at e'
   cases hx:(x == n) with
   | true =>
    rw [hx] at e'
    have:x=n:=by simpa using hx
    subst this
    rw [hd']
    exact e'
   | false =>
    rw [hx] at e'
    exact h x c e'
theorem zbR {cs:List (Str×Addr)}:∀ (names:List (Str×NameKind)) (acc:List (Str×Addr)) (x:Str),
  ((∃ c,acc.lookup x=some c)∨(x,NameKind.free)∈names)→∃ c,(zab cs names acc).lookup x=some c
 | [],acc,x,h=>by
  rcases h with h | h
  ·exact h
  ·cases h
 | (n,k) :: r,acc,x,h=>by
  unfold zab
  cases hk:(k == NameKind.free) with
  | false =>
   refine zbR r acc x ?_
   rcases h with h | h
   ·exact .inl h
   ·rcases List.mem_cons.mp h with h | h
    ·cases h
     exact absurd hk (by decide)
    ·exact .inr h
  | true =>
   refine zbR r _ x ?_
   cases hx:(x == n) with
   | true=>exact .inl ⟨_,by rw [List.lookup_cons,hx]⟩
   | false =>
    rcases h with ⟨c,h⟩ | h
    ·exact .inl ⟨c,by rw [List.lookup_cons,hx]; exact h⟩
    ·rcases List.mem_cons.mp h with h | h
     ·cases h
      simp at hx
     ·exact .inr h
theorem lookup_mem {α:Type}:∀ {l:List (Str×α)} {x:Str} {k:α},l.lookup x=some k→(x,k)∈l
 | [],x,k,h=>by simp at h
 | (n,j) :: r,x,k,h=>by
  rw [List.lookup_cons] at h
  cases hx:(x == n) with
  | true =>
   rw [hx] at h
   have:x=n:=by simpa using hx
   subst this
   cases h
   exact List.mem_cons_self
  | false =>
   rw [hx] at h
   exact List.mem_cons_of_mem _ (lookup_mem h)
theorem zbi {env:Env}:∀ {names:List (Str×NameKind)} {x:Str},names.lookup x=some .free →
  (names.map fun (n,k)=>if (k == NameKind.free && env.scope.kind == .function && env.kindOf n == some .cell) then (n,NameKind.cell) else (n,k)).lookup x=some .cell ∨
  (names.map fun (n,k)=>if (k == NameKind.free && env.scope.kind == .function && env.kindOf n == some .cell) then (n,NameKind.cell) else (n,k)).lookup x=some .free
 | [],_,h=>by simp at h
 | (n,k) :: r,x,h=>by
  have ih:=@zbi env r x
  simp only [List.map_cons]
  cases hx:x == n with
  | true =>
   simp only [List.lookup_cons,hx] at h; cases h
   by_cases hc:(NameKind.free == NameKind.free && env.scope.kind == .function && env.kindOf n == some .cell)=true
   ·rw [if_pos hc]; left; simp only [List.lookup_cons,hx]
   ·rw [if_neg hc]; right; simp only [List.lookup_cons,hx]
  | false =>
   simp only [List.lookup_cons,hx] at h; rcases Classical.em ((k == NameKind.free && env.scope.kind == .function && env.kindOf n == some .cell)=true) with hc | hc
   ·exact (by rw [if_pos hc]; simp only [List.lookup_cons,hx]; exact ih h)
   ·exact (by rw [if_neg hc]; simp only [List.lookup_cons,hx]; exact ih h)
theorem zcF {env:Env}:∀ {names:List (Str×NameKind)} {x:Str},
  ((names.map fun (n,k)=>if (k == NameKind.free && env.scope.kind == .function && env.kindOf n == some .cell) then (n,NameKind.cell) else (n,k)).lookup x=some .cell ∨
  (names.map fun (n,k)=>if (k == NameKind.free && env.scope.kind == .function && env.kindOf n == some .cell) then (n,NameKind.cell) else (n,k)).lookup x=some .free) →
  names.lookup x=some .free∨names.lookup x=some .cell
 | [],_,h=>by simp at h
 | (n,k) :: r,x,h=>by
  have ih:=@zcF env r x
  simp only [List.map_cons] at h
  cases hx:x == n with
  | true =>
   rcases Classical.em ((k == NameKind.free && env.scope.kind == .function && env.kindOf n == some .cell)=true) with hc | hc
   ·have hk:k = .free:=by
     simp only [Bool.and_eq_true] at hc; simpa using hc.1.1
    subst hk
    exact .inl (by simp only [List.lookup_cons,hx])
   ·rw [if_neg hc] at h
    simp only [List.lookup_cons,hx] at h ⊢
    rcases h with h | h
    ·exact .inr h
    ·exact .inl h
  | false =>
   rcases Classical.em ((k == NameKind.free && env.scope.kind == .function && env.kindOf n == some .cell)=true) with hc | hc
   ·rw [if_pos hc] at h
    simp only [List.lookup_cons,hx] at h ⊢
    exact ih h
   ·rw [if_neg hc] at h
    simp only [List.lookup_cons,hx] at h ⊢
    exact ih h
end L2
end
section
set_option maxHeartbeats 3999000
namespace L2
open PySem PySem.Spec PyProof.Rows
theorem zeU:∀ (names:List (Str×NameKind)) (n:Nat) (acc:List (Str×Addr)) (x:Str),(x,NameKind.cell)∉names→(cellsFrom n names acc).lookup x=acc.lookup x
 | [],_,_,_,_=>rfl
 | (y,k) :: r,n,acc,x,h=>by
  have hr:(x,NameKind.cell)∉r:=fun z=>h (List.mem_cons_of_mem _ z)
  unfold cellsFrom
  split
  ·rename_i hk
   have hk':k = .cell:=by simpa using hk
   rw [zeU r _ _ x hr,List.lookup_cons]
   cases hx:(x == y) with
   | true =>
    have:x=y:=by simpa using hx
    subst this
    subst hk'
    exact absurd List.mem_cons_self h
   | false=>rfl
  ·exact zeU r _ _ x hr
theorem zeV:∀ (names:List (Str×NameKind)) (n:Nat) (acc:List (Str×Addr)) (x:Str),(x,NameKind.cell)∈names→∃ c,(cellsFrom n names acc).lookup x=some c∧n≤c
 | (y,k) :: r,n,acc,x,h=>by
  by_cases hr:(x,NameKind.cell)∈r
  ·unfold cellsFrom
   split
   ·obtain⟨c,e,l⟩:=zeV r (n+1) ((y,n) :: acc) x hr
    exact⟨c,e,by omega⟩
   ·exact zeV r n acc x hr
  ·rcases List.mem_cons.mp h with e | e
   ·cases e
    unfold cellsFrom
    rw [if_pos (by decide),zeU r _ _ _ hr,List.lookup_cons,beq_self_eq_true]
    exact⟨n,rfl,Nat.le_refl _⟩
   ·exact absurd e hr
structure CO (h:Heap) (lo:Nat) (old cs:List (Str×Addr)):Prop where
 each:∀ x c,cs.lookup x=some c→(h.IsCell c none∧lo≤c)∨(old.lookup x=some c∧c < lo)
 inj:∀ x y c,cs.lookup x=some c→cs.lookup y=some c→x=y
theorem ziB {lo:Nat} {old:List (Str×Addr)}:∀ (names:List (Str×NameKind)) (h:Heap) (acc:List (Str×Addr)),CO h lo old acc→lo≤h.objs.size→CO (pushCells h names) lo old (cellsFrom h.objs.size names acc)
 | [],_,_,a,_=>a
 | (y,k) :: r,h,acc,a,hl=>by
  unfold pushCells cellsFrom
  split
  ·have lt:∀ x c,acc.lookup x=some c→c < h.objs.size:=fun x c e=>(a.each x c e).elim (fun z=>z.1.lt) fun z=>Nat.lt_of_lt_of_le z.2 hl
   have key:∀ x c,List.lookup x ((y,h.objs.size) :: acc)=some c→(x=y∧c=h.objs.size)∨acc.lookup x=some c:=fun x c e=>by
    rw [List.lookup_cons] at e
    cases hx:(x == y) with
    | true =>
     rw [hx] at e
     exact .inl ⟨by simpa using hx,(Option.some.inj e).symm⟩
    | false =>
     rw [hx] at e
     exact .inr e
   have:=ziB (lo:=lo) (old:=old) r (h.push { cls:=.type "cell",data:=.cell none }) ((y,h.objs.size) :: acc) ⟨fun x c e=>?_,fun x z c e1 e2=>?_⟩ (by rw [Heap.size_push]; omega)
   ·rw [Heap.size_push] at this
    exact this
   ·rcases key x c e with ⟨_,rfl⟩ | e
    ·exact .inl ⟨⟨_,Heap.get?_push_size _ rfl,rfl⟩,hl⟩
    ·rcases a.each x c e with z | z
     ·exact .inl ⟨z.1.keeps fun b o e=>Heap.get?_push_of_some _ e,z.2⟩
     ·exact .inr z
   ·rcases key x c e1 with ⟨p1,q1⟩ | f1 <;> rcases key z c e2 with ⟨p2,q2⟩ | f2
    ·exact p1.trans p2.symm
    ·exact absurd (lt _ _ f2) (by rw [q1]; exact Nat.lt_irrefl _)
    ·exact absurd (lt _ _ f1) (by rw [q2]; exact Nat.lt_irrefl _)
    ·exact a.inj x z c f1 f2
  ·exact ziB r h acc a hl
theorem zhD {M:Model} {A:Around} {E:Value→Shared→Prop} {s:Shared} {scope:Scope} {globals:Addr} {closure:List (Str×Addr)} {qual:Str} {env:Env} {Q:Env→Shared→Prop}
  (h:Q (newEnv scope s.heap.objs.size globals (cellsFrom (s.heap.objs.size+1) scope.names closure) qual none .none (some env) builtinsNs) { s with heap:=pushCells (s.heap.push { cls:=.type "dict",data:=.dict #[] }) scope.names }) :
  wpAny M A (newFunctionEnv scope globals closure [] qual none .none (some env)) Q E s:=by
 (simp only [newFunctionEnv,Option.isSome_some,if_true])
 (refine wpAny_bind (wpAny_alloc ?_))
 (refine wpAny_bind (wpAny_layCells _ (fun name kind cells=>by cases hkc:kind == NameKind.cell <;> simp [hkc]) _ _ _ _ ?_))
 rw [show ({ s with heap:=s.heap.push { cls:=.type "dict",data:=.dict #[] } }:Shared).heap.objs.size=s.heap.objs.size+1 from Heap.size_push ..]
 (exact wpAny_bind (wpAny_pure (wpAny_pure h)))
abbrev zO (X:Cx) (N':List Str) (scope:Scope) (s₃:Shared) (H₃:Hp) (ex:List Addr) (pins:List (Addr×Obj)):Cx :=
 { X with N:=N',s₀:=s₃,H₀:=H₃,env:=compEnvC scope (cellsFrom (s₃.heap.objs.size+1) scope.names (zab X.env.cells scope.names [])) s₃.heap.objs.size X.env,outer:=X.stack,stack:=X.stack,ex:=ex,fn:=fun x=>scope.names.lookup x == some .cell,pn:=X.pn++pins,xe:=fun _ _=>False }
def zgi (ifs:List Expr) (env:Env):Sem Bool :=
 forIn ifs true fun c r=>if r=true then do let ok ← isTrue c env (eval c env); pure (ForInStep.yield ok) else pure (ForInStep.yield r)
def zdi (X:Cx) (ifs:List Expr) (t:TT):Prop :=
 ∀ (pins:List (Addr×Obj)) (s:Shared) (σ:St) (H:Hp) (Q:Bool→Hp→Prop),Inv X pins σ H s→t σ H Q→wpAny (model X.prog X.w) X.A (zgi ifs X.env) (TP X pins σ Q) X.xe s
def zjU:TT:=fun _ H Q=>Q true H
theorem zw {X:Cx}:zdi X [] zjU:=fun _ _ _ H _ I h=>wpAny_pure ⟨H,I,h⟩
theorem zbG {X:Cx} {c:Expr} {t:TT} (h:PT X c t):zdi X [c] t:=by
 intro pins s σ H Q I hw
 unfold zgi
 rw [List.forIn_cons]
 simp only [if_true]
 exact wpAny_bind (wpAny_bind (thn (h pins s σ H _ I hw) fun b s1 q=>wpAny_pure (wpAny_pure q)))
structure CompSc (X:Cx) (N':List Str) (ix:List (Option Nat)) (scope:Scope):Prop where
 kind:scope.kind = .function
 cells:∀ y∈scope.names,y.2 = .cell→scope.names.lookup y.1=some .cell
 names:∀ y∈scope.names,y.2 = .local→scope.names.lookup y.1=some .local
 free:∀ y∈scope.names,y.2 = .free→X.env.kindOf y.1=some .cell∨X.env.kindOf y.1=some .free
 len:N'.length=ix.length
 cap:∀ j i:Nat,ix[j]? = some (some i)→∃ x,N'[j]? = some x∧X.N[i]? = some x∧scope.names.lookup x=some .free
def zg5 (osc:Scope) (oN N':List Str) (ix:List (Option Nat)) (scope:Scope):Bool :=
 (scope.kind == .function) && (scope.names.all fun y=>y.2 != .cell || scope.names.lookup y.1 == some .cell) && (scope.names.all fun y=>y.2 != .local || scope.names.lookup y.1 == some .local) &&
 (scope.names.all fun y=>y.2 != .free || (osc.names.lookup y.1 == some .cell || osc.names.lookup y.1 == some .free)) && (N'.length == ix.length) &&
 ((List.range ix.length).all fun j=>match ix[j]? with
  | some (some i)=>(match N'[j]? with
   | some x=>oN[i]? == some x && scope.names.lookup x == some .free
   | none=>false)
  | _=>true)
theorem CompSc.of {X:Cx} {N':List Str} {ix:List (Option Nat)} {scope:Scope} (osc:Scope) (oN:List Str) (h1:X.env.scope=osc) (h2:X.N=oN) (hb:zg5 osc oN N' ix scope=true):CompSc X N' ix scope:=by
 unfold zg5 at hb
 simp only [Bool.and_eq_true,List.all_eq_true] at hb
 obtain⟨⟨⟨⟨⟨a,b⟩,c⟩,d⟩,e⟩,f⟩:=hb
 refine⟨?_,fun y hy hl=>?_,fun y hy hl=>?_,fun y hy hf=>?_,by simpa using e,fun j i hj=>?_⟩
 ·revert a
  cases scope.kind <;> first | (intro _; rfl) | (intro h; exact absurd h (by decide))
 ·have:=b y hy
  rw [hl] at this
  simpa using this
 ·have:=c y hy
  rw [hl] at this
  simpa using this
 ·have:=d y hy
  rw [hf] at this
  have e1:X.env.kindOf y.1=osc.names.lookup y.1:=by rw [← h1]; rfl
  rw [e1]
  simpa using this
 ·have hlt:j < ix.length:=(List.getElem?_eq_some_iff.mp hj).1
  have:=f j (List.mem_range.mpr hlt)
  rw [hj] at this
  cases hN:N'[j]? with
  | none =>
   rw [hN] at this
   simp at this
  | some x =>
   rw [hN] at this
   refine⟨x,rfl,?_⟩
   rw [h2]
   simpa using this
def zcG (ix:List (Option Nat)) (σ:St):St:=ix.map fun o=>match o with
 | none=>none
 | some i=>(σ[i]?).join
theorem Inv.track {X:Cx} {pins:List (Addr×Obj)} {σ:St} {H:Hp} {s:Shared} {D:Addr} {o:HO} (I:Inv X pins σ H s) (hn:H D=none) (hs:X.s₀.heap.objs.size≤D) (hL:X.env.locals≠D)
  (hC:∀ x c,X.env.cells.lookup x=some c→c≠D) (hp:∀ p∈X.pn++pins,p.1≠D) (ok:z7 X.prog X.w (upd H D o) s.heap D o):Inv X pins σ (upd H D o) s:=by
 have ne:∀ b u,H b=some u→b≠D:=fun b u e=>zp e hn
 refine⟨I.ok,I.os,I.bare,⟨I.base.keep,I.base.slot,fun b u e n hx=>?_,I.base.there,fun b xs e=>?_,fun b u xs e=>?_,fun b ps e=>?_⟩,I.loc,I.cell,?_,fun x c e=>?_,fun p hp'=>?_,fun b u e=>?_,I.len⟩
 ·have:b≠D:=Nat.ne_of_lt (Nat.lt_of_lt_of_le (Heap.lt_size e) hs)
  rw [zl this]
  exact I.base.free b u e n hx
 ·have:=I.base.tups b xs e
  rw [zl (ne b _ this)]
  exact this
 ·have:=I.base.frzs b u xs e
  rw [zl (ne b _ this)]
  exact this
 ·obtain⟨more,q⟩:=I.base.tbls b ps e
  exact⟨more,by rw [zl (ne b _ q)]; exact q⟩
 ·rw [zl hL]
  exact I.free
 ·rw [zl (hC x c e)]
  exact I.freeC x c e
 ·obtain⟨a1,a2,a3⟩:=I.pin p hp'
  exact⟨a1,by rw [zl (hp p hp')]; exact a2,a3⟩
 ·by_cases hb:b=D
  ·subst hb
   rw [zc] at e
   cases e
   exact ok
  ·rw [zl hb] at e
   exact (I.hok b u e).stay (fun c v _ q=>q) (fun c q=>by rw [zl (ne c _ q)]; exact q) fun c xs q=>by rw [zl (ne c _ q)]; exact q
def cGo (g:TG) (ts:TT) (te:TE) (σ0:St) (J:It) (Q:VK) (H1:Hp):Prop :=
 ∃ W:Nat→Nat→List V→Hp→Prop,(∃ m,W 0 m [] H1)∧∀ i m ys H,W i m ys H →
  (J.stop i H∧∀ D,H D=none→Q (.ref D) (upd H D (.lst ys))) ∨
  (J.go i H∧∃ N:List V→Hp→Prop,(∀ ys' H',N ys' H'→∃ m',m' < m∧W (i+1) m' ys' H')∧∀ x H',J.yld i H x H'→g x σ0 H' fun σ2 H2=>ts σ2 H2 fun b H3 =>
   if b=true then te σ2 H3 fun y H4=>ys.length < sizeLine∧N (ys++[y]) H4 else N ys H3)
def zkF (ix:List (Option Nat)) (wi:TI) (g:TG) (ts:TT) (te:TE):TE:=fun σ H Q=>wi σ H fun J H1=>cGo g ts te (zcG ix σ) J Q H1
theorem zM {J:It} {n:Nat} {g:TG} {ts:TT} {te:TE} {σ0:St} {Q:VK} {H:Hp} (Pv:Nat→List V→Hp→Prop) (h0:Pv 0 [] H) (hgo:∀ i ys H,i < n→Pv i ys H→J.go i H) (hst:∀ ys H,Pv n ys H→J.stop n H)
  (hs:∀ i x ys H H',i < n→Pv i ys H→J.yld i H x H'→g x σ0 H' fun σ2 H2=>ts σ2 H2 fun b H3=>if b=true then te σ2 H3 fun y H4=>ys.length < sizeLine∧Pv (i+1) (ys++[y]) H4 else Pv (i+1) ys H3)
  (hd:∀ ys H D,Pv n ys H→H D=none→Q (.ref D) (upd H D (.lst ys))):cGo g ts te σ0 J Q H:=by
 refine⟨fun i m ys H=>m=n - i∧i≤n∧Pv i ys H,⟨n,by simp,Nat.zero_le _,h0⟩,?_⟩
 rintro i m ys H ⟨rfl,hi,p⟩
 by_cases hlt:i < n
 ·exact .inr ⟨hgo i ys H hlt p,Pv (i+1),fun ys' H' p'=>⟨n - (i+1),by omega,rfl,hlt,p'⟩,fun x H' y=>hs i x ys H H' hlt p y⟩
 ·have e:i=n:=by omega
  subst e
  exact .inl ⟨hst ys H p,fun D hD=>hd ys H D p hD⟩
theorem zgj {J:It} {n:Nat} {g:TG} {tb:TS} {D:Ends} {σ:St} {H:Hp} (Pv:Nat→St→Hp→Prop) (h0:Pv 0 σ H) (hgo:∀ i σ H,i < n→Pv i σ H→J.go i H) (hst:∀ σ H,Pv n σ H→J.stop n H)
  (hs:∀ i x σ H H',i < n→Pv i σ H→J.yld i H x H'→g x σ H' fun σ2 H2=>tb { D with nx:=Pv (i+1),ct:=Pv (i+1),bk:=D.nx } σ2 H2) (hd:∀ σ H,Pv n σ H→D.nx σ H) :
  ∃ W:Nat→Nat→St→Hp→Prop,(∃ m,W 0 m σ H)∧∀ i m σ H,W i m σ H →
   (J.stop i H∧D.nx σ H)∨(J.go i H∧∃ N:St→Hp→Prop,(∀ σ' H',N σ' H'→∃ m',m' < m∧W (i+1) m' σ' H')∧∀ x H',J.yld i H x H'→g x σ H' fun σ2 H2=>tb { D with nx:=N,ct:=N,bk:=D.nx } σ2 H2):=by
 refine⟨fun i m σ H=>m=n - i∧i≤n∧Pv i σ H,⟨n,by simp,Nat.zero_le _,h0⟩,?_⟩
 rintro i m σ H ⟨rfl,hi,p⟩
 by_cases hlt:i < n
 ·exact .inr ⟨hgo i σ H hlt p,Pv (i+1),fun σ' H' p'=>⟨n - (i+1),by omega,rfl,hlt,p'⟩,fun x H' y=>hs i x σ H H' hlt p y⟩
 ·have e:i=n:=by omega
  subst e
  exact .inl ⟨hst σ H p,hd σ H p⟩
end L2
end
section
set_option maxHeartbeats 3999000
namespace L2
open PySem PySem.Spec PyProof.Rows
abbrev TM:=List V→St→Hp→(List V→Hp→Prop)→Prop
abbrev zdj (its:List Value) (nn:Nat):Obj:={ cls:=.type "list",data:=.seq its.toArray nn }
structure AccAt (Y:Cx) (pins:List (Addr×Obj)) (H:Hp) (s:Shared) (D:Addr) (ys:List V) (its:List Value) (nn:Nat):Prop where
 fp:zbx Y pins H D
 here:s.heap.get? D=some (zdj its nn)
 vals:zE ys its
 len:ys.length≤sizeLine
def zeW (js:List Nat) (σ:St):Prop:=∀ j∈js,∀ v,σ[j]?≠some (some v)
def Kp (js:List Nat) (σ σ2:St):Prop:=σ2.length=σ.length∧∀ j,j∉js→σ2[j]? = σ[j]?
theorem Kp.refl {js:List Nat} {σ:St}:Kp js σ σ:=⟨rfl,fun _ _=>rfl⟩
theorem Kp.set {js:List Nat} {σ σ2:St} {i:Nat} {v:Option V} (hi:i∈js) (h:Kp js σ σ2):Kp js σ (σ2.set i v):=by
 refine⟨by rw [List.length_set]; exact h.1,fun j hj=>?_⟩
 rw [List.getElem?_set_ne (fun z=>hj (by rw [← z]; exact hi))]
 exact h.2 j hj
def GS (js:List Nat) (g:TG):Prop:=∀ (σ σ1:St) (x:V) (H:Hp) (Q:St→Hp→Prop),Kp js σ σ1→g x σ1 H Q→g x σ1 H fun σ2 H2=>Kp js σ σ2∧Q σ2 H2
def GSs (js:List Nat) (g:TGs):Prop:=∀ (σ σ1:St) (xs:List V) (H:Hp) (Q:St→Hp→Prop),Kp js σ σ1→g xs σ1 H Q→g xs σ1 H fun σ2 H2=>Kp js σ σ2∧Q σ2 H2
theorem zeX {js:List Nat} {i:Nat} (hi:i∈js):GS js (zaO i):=fun σ σ1 x H Q hw h=>⟨hw.set hi,h⟩
theorem zjV {js:List Nat}:GSs js zim:=fun σ σ1 xs H Q hw h=>⟨h.1,hw,h.2⟩
theorem ziC {js:List Nat} {i:Nat} {u:TGs} (hi:i∈js) (h2:GSs js u):GSs js (zc3 (zaO i) u):=fun σ σ1 xs H Q hw h=>by
 obtain⟨v,r,e,h⟩:=h
 exact⟨v,r,e,h2 σ _ r H Q (hw.set hi) h⟩
theorem zk9 {js:List Nat} {K:PySem.W.Frag} {n:Nat} {t:TGs} (h:GSs js t):GS js (zhv K n t):=fun σ σ1 x H Q hw hg=>by
 obtain⟨a,xs,e,hq,hl,hg⟩:=hg
 exact⟨a,xs,e,hq,hl,h σ σ1 xs H Q hw hg⟩
theorem Inv.fewer {X:Cx} {pins pins':List (Addr×Obj)} {σ:St} {H:Hp} {s:Shared} (I:Inv X pins σ H s) (h:∀ p∈pins',p∈pins):Inv X pins' σ H s :=
 I.pins_of fun p hp=>I.pin p (List.mem_append_right _ (h p hp))
section
variable {Y:Cx} {pins:List (Addr×Obj)} {σ:St} {H:Hp} {s:Shared} {D:Addr} {ys:List V} {its:List Value} {nn:Nat}
theorem AccAt.pin (a:AccAt Y pins H s D ys its nn) (I:Inv Y pins σ H s):Inv Y (pins++[(D,zdj its nn)]) σ H s :=
 I.pins_of fun p hp=>by
  rcases (List.mem_append.mp hp) with hp | hp
  ·exact I.pin p (List.mem_append_right _ hp)
  ·obtain rfl:p=(D,zdj its nn):=by simpa using hp
   obtain⟨a0,a1,a2,_⟩:=a.fp
   exact⟨a.here,a0,a1,a2,fun v z=>by cases z⟩
theorem AccAt.back {pins':List (Addr×Obj)} {σ':St} {H':Hp} {s':Shared} (a:AccAt Y pins H s D ys its nn) (I:Inv Y pins' σ' H' s') (hm:(D,zdj its nn)∈pins'):AccAt Y pins H' s' D ys its nn:=by
 have p:=I.pin (D,zdj its nn) (List.mem_append_right _ hm)
 exact⟨⟨p.2.1,a.fp.2⟩,p.1,a.vals,a.len⟩
end
def PM (Y:Cx) (D:Addr) (js:List Nat) (mk:Sem Fin→Sem Fin) (tm:TM):Prop :=
 ∀ (last:Sem Fin) (pins:List (Addr×Obj)) (s:Shared) (σ:St) (H:Hp) (ys:List V) (its:List Value) (nn:Nat) (Q:List V→Hp→Prop) (Φ:Fin→Shared→Prop),Inv Y pins σ H s→AccAt Y pins H s D ys its nn→zeW js σ→tm ys σ H Q →
  (∀ (s':Shared) (ys':List V) (its':List Value) (nn':Nat) (H':Hp),Inv Y pins σ H' s'→AccAt Y pins H' s' D ys' its' nn'→Q ys' H'→wpAny (model Y.prog Y.w) Y.A last Φ (fun _ _=>False) s') →
  wpAny (model Y.prog Y.w) Y.A (mk last) Φ (fun _ _=>False) s
def zex (elt:Expr) (acc:Value) (env:Env) (last:Sem Fin):Sem Fin:=(eval elt env >>= fun x=>call (.builtin "list.append") [acc,x] >>= fun _=>pure ()) >>= fun _=>last
def zg6 (e iter:Expr) (d:Nat) (acc:Value) (env:Env) (last:Sem Fin):Sem Fin :=
 eval iter env >>= fun x=>standAt iter.pos >>= fun _=>foldedSetIterable iter env x >>= fun x=>holding [x] (pyIter x) >>= fun itv=>runOwn (.compStart e d itv acc env) env >>= fun _=>last
def ziD (te:TE):TM:=fun ys σ H Q=>te σ H fun y H4=>ys.length < sizeLine∧Q (ys++[y]) H4
def cIn (g:TG) (ts:TT) (tm:TM) (σ:St) (J:It) (Q:List V→Hp→Prop) (ys:List V) (H1:Hp):Prop :=
 ∃ W:Nat→Nat→List V→Hp→Prop,(∃ m,W 0 m ys H1)∧∀ i m ys H,W i m ys H →
  (J.stop i H∧Q ys H) ∨
  (J.go i H∧∃ N:List V→Hp→Prop,(∀ ys' H',N ys' H'→∃ m',m' < m∧W (i+1) m' ys' H')∧∀ x H',J.yld i H x H'→g x σ H' fun σ2 H2=>ts σ2 H2 fun b H3 =>
   if b=true then tm ys σ2 H3 N else N ys H3)
def ziE (wi:TI) (g:TG) (ts:TT) (tm:TM):TM:=fun ys σ H Q=>wi σ H fun J H1=>cIn g ts tm σ J Q ys H1
def zgk (ix:List (Option Nat)) (wi:TI) (g:TG) (ts:TT) (tm:TM):TE:=fun σ H Q=>wi σ H fun J H1=>cIn g ts tm (zcG ix σ) J (fun ys H'=>∀ D,H' D=none→Q (.ref D) (upd H' D (.lst ys))) [] H1
theorem thx {α:Type} {X:Cx} {m:Sem α} {P Q:α→Shared→Prop} {E:Value→Shared→Prop} {s:Shared} (hx:X.xe=fun _ _=>False) (h:wpAny (model X.prog X.w) X.A m P X.xe s) (k:∀ a s',P a s'→Q a s'):wpAny (model X.prog X.w) X.A m Q E s :=
 wpAny_mono h k fun _ _ z=>by rw [hx] at z; exact z.elim
theorem zgl {Y:Cx} {D:Addr} {elt:Expr} {te:TE} (hx:Y.xe=fun _ _=>False) (he:PE Y elt te):PM Y D [] (zex elt (.ref D) Y.env) (ziD te):=by
 intro last pins s σ H ys its nn Q Φ I a no h k
 unfold zex
 refine wpAny_bind (wpAny_bind (thx hx (he (pins++[(D,zdj its nn)]) s σ H _ (a.pin I) h) fun yv s1 ⟨y,H1,I1,r1,hz,q1⟩=>wpAny_bind ?_))
 have a1:=a.back I1 (List.mem_append_right _ List.mem_cons_self)
 have J1:Inv Y pins σ H1 s1:=I1.fewer fun p hp=>List.mem_append_left _ hp
 have hvl:=a1.vals.length
 refine call_meets F.slot_list_append ⟨_,a1.here,rfl⟩ F.entry_list_append (F.args_list_append_2 _ _) (PySem.list_append D its.toArray nn yv (by rw [List.size_toArray]; omega)) ⟨a1.here,?_⟩
 refine wpAny_pure ?_
 have q:=PySem.IsL.update a1.here (·.push yv)
 have k10:∀ b o,b≠D→s1.heap.get? b=some o→(s1.heap.update D (Obj.mapSeq (·.push yv))).get? b=some o:=fun b o hb e=>(Heap.get?_update_other s1.heap (Obj.mapSeq (·.push yv)) (Ne.symm hb)).trans e
 obtain⟨b0,b1,b2,b3,b4,b5⟩:=a1.fp
 have I11:Inv Y pins σ H1 { s1 with heap:=s1.heap.update D (Obj.mapSeq (·.push yv)) }:=J1.turned (t':=s1.toks) k10 b0 b1 b3 b4 b5
 have e1:its.toArray.push yv=(its++[yv]).toArray:=by simp
 rw [e1] at q
 refine k _ (ys++[y]) (its++[yv]) _ H1 I11 ⟨a1.fp,q,a1.vals.append (.cons r1 .nil),?_⟩ q1
 rw [List.length_append,List.length_singleton]
 omega
section
variable {Y:Cx} {D:Addr} {js js':List Nat} {elt:Expr} {gens:List Comprehension} {scope:Scope} {pos:Pos} {d:Nat} {tg:Expr} {ifs:List Expr} {p:Pos} {mk:Sem Fin→Sem Fin} {g:TG} {ts:TT} {tm:TM}
def zbS (tg:Expr) (ifs:List Expr) (p:Pos) (mk:Sem Fin→Sem Fin) (c:Code) (it:Value) (env:Env):Sem Fin :=
 standAt p >>= fun _=>pyNext it >>= fun r=>match r with
  | none=>pure (.done .next)
  | some v=>letOwnedTupleGo tg it v >>= fun _=>assign tg env v >>= fun _=>zgi ifs env >>= fun ok=>if ok=true then mk (again c) else again c
theorem zg7 (hc:Y.calm=true) (hx:Y.xe=fun _ _=>False) (hgs:GS js g) (hdis:∀ j∈js,j∉js') (hg:PG Y tg g) (ht:zdi Y ifs ts) (hm:PM Y D js' mk tm)
  (hturn:∀ it,compTurn (.ListComp elt gens scope pos) d it (.ref D) Y.env=zbS tg ifs p mk (.compLoop (.ListComp elt gens scope pos) d it (.ref D) Y.env) it Y.env)
  {pins:List (Addr×Obj)} {σ:St} {H2:Hp} {s2:Shared} {it:Addr} {fp:List Addr} {tn:Nat→Heap→Prop} {J:It} {Q:List V→Hp→Prop} {R:Result→Shared→Prop} {ys:List V} {its:List Value} {nn:Nat}
  (I2:Inv Y pins σ H2 s2) (a2:AccAt Y pins H2 s2 D ys its nn) (no:zeW (js++js') σ) (T:Turn Y.prog Y.w Y.K tg J fp it tn) (st2:tn 0 s2.heap) (f2:∀ b∈fp,zbx Y pins H2 b) (fD:∀ b∈fp,b≠D) (q:cIn g ts tm σ J Q ys H2)
  (hR:∀ (s':Shared) (ys':List V) (its':List Value) (nn':Nat) (H':Hp),Inv Y pins σ H' s'→AccAt Y pins H' s' D ys' its' nn'→Q ys' H'→R (.ok .next) s') :
  codeAny (model Y.prog Y.w) Y.A (.compLoop (.ListComp elt gens scope pos) d (.ref it) (.ref D) Y.env) R s2:=by
 obtain⟨W,⟨m0,w0⟩,turn⟩:=q
 have fpY:∀ {H':Hp} {its:List Value} {nn:Nat},(∀ b∈fp,H' b=none)→∀ b∈fp,zbx Y (pins++[(D,zdj its nn)]) H' b:=fun {H' its nn} hn b hb=>by
  obtain⟨_,a1,a2,a3,a4,a5⟩:=f2 b hb
  refine⟨hn b hb,a1,a2,a3,a4,fun p hp=>?_⟩
  rcases (List.mem_append.mp hp) with hp | hp
  ·exact a5 p (List.mem_append_left _ hp)
  ·rcases (List.mem_append.mp hp) with hp | hp
   ·exact a5 p (List.mem_append_right _ hp)
   ·obtain rfl:p=(D,zdj its nn):=by simpa using hp
    exact (fD b hb).symm
 refine codeAny_loop rfl (fun n s'=>∃ i ys H' its nn,Inv Y pins σ H' s'∧tn i s'.heap∧(∀ b∈fp,H' b=none)∧AccAt Y pins H' s' D ys its nn∧W i n ys H') ?_ m0
  ⟨0,ys,H2,its,nn,I2,st2,fun b hb=>(f2 b hb).1,a2,w0⟩
 rintro n s5 ⟨i,ys,H5,its,nn,I5,st5,fr5,a5,w5⟩
 show wpAny _ Y.A ((compTurn (.ListComp elt gens scope pos) d (.ref it) (.ref D) Y.env).onRaise (fun x=>do noteFrame x Y.env; theTreesLotGoes x)) _ _ s5
 refine wpAny_noted ?_
 rw [hturn]
 unfold zbS
 have I5p:=a5.pin I5
 (refine wpAny_bind (wpAny_standAt (wpAny_bind ?_)))
 rcases turn i n ys H5 w5 with ⟨stop,qn⟩ | ⟨go,N,hN,step⟩
 ·refine wpAny_mono (T.done Y rfl rfl rfl hc i _ s5 _ H5 (fun _ _=>False) I5p (fpY fr5) st5 stop) (fun r s6 ⟨hr,I6⟩=>?_) fun _ _ z=>z.elim
  subst hr
  exact wpAny_pure (hR s6 ys its nn H5 (I6.fewer fun p hp=>List.mem_append_left _ hp) (a5.back I6 (List.mem_append_right _ List.mem_cons_self)) qn)
 ·refine wpAny_mono (T.item Y rfl rfl rfl hc i _ s5 _ H5 (fun _ _=>False) I5p (fpY fr5) st5 go) (fun r s6 ⟨u,hr,h6⟩=>?_) fun _ _ z=>z.elim
  subst hr
  refine wpAny_bind (wpAny_mono h6 (fun _ s7 ⟨x,H7,I7,r7,y7,st7,fr7⟩=>?_) fun _ _ z=>z.elim)
  have I7':=I7.pinned (fpY fr7) (T.obj _ _ st7)
  refine wpAny_bind (thx hx (hg _ s7 _ H7 x u _ I7' r7 (hgs σ σ x H7 _ Kp.refl (step x H7 y7))) fun _ s8 ⟨σ8,H8,I8,kp,q8⟩=>?_)
  refine wpAny_bind (thx hx (ht _ s8 σ8 H8 _ I8 q8) fun ok s9 ⟨H9,I9,q9⟩=>?_)
  have mD:(D,zdj its nn)∈(pins++[(D,zdj its nn)])++zbY fp s7.heap:=List.mem_append_left _ (List.mem_append_right _ List.mem_cons_self)
  have a9:=a5.back I9 mD
  have K9:Inv Y (pins++zbY fp s7.heap) σ8 H9 s9:=I9.fewer fun p hp=>(List.mem_append.mp hp).elim (fun z=>List.mem_append_left _ (List.mem_append_left _ z)) fun z=>List.mem_append_right _ z
  have wk:∀ (j:Nat) v,σ[j]? = some (some v)→σ8[j]? = some (some v):=fun j v e=>by
   have hj:j∉js:=fun z=>no j (List.mem_append_left _ z) v e
   rw [kp.2 j hj]
   exact e
  have back:∀ {H':Hp} {s':Shared},Inv Y (pins++zbY fp s7.heap) σ8 H' s'→Inv Y pins σ H' s'∧tn (i+1) s'.heap∧∀ b∈fp,H' b=none:=fun {H' s'} I'=>by
   refine⟨(I'.fewer fun p hp=>List.mem_append_left _ hp).weak kp.1.symm wk,T.keep _ _ _ st7 fun b hb o e=>(I'.pin (b,o) (List.mem_append_right _ (List.mem_append_right _ (zbP hb e)))).1,fun b hb=>?_⟩
   obtain⟨o,e,d⟩:=T.obj _ _ st7 b hb
   exact (I'.pin (b,o) (List.mem_append_right _ (List.mem_append_right _ (zbP hb e)))).2.1
  cases ok with
  | false =>
   rw [if_neg Bool.false_ne_true] at q9 ⊢
   obtain⟨m',hm',w9⟩:=hN _ _ q9
   obtain⟨b1,b2,b3⟩:=back K9
   exact wpAny_pure ⟨rfl,m',hm',i+1,ys,H9,its,nn,b1,b2,b3,a9,w9⟩
  | true =>
   rw [if_pos rfl] at q9 ⊢
   have a9':AccAt Y (pins++zbY fp s7.heap) H9 s9 D ys its nn:=by
    obtain⟨b0,b1,b2,b3,b4,b5⟩:=a9.fp
    refine⟨⟨b0,b1,b2,b3,b4,fun p hp=>?_⟩,a9.here,a9.vals,a9.len⟩
    rcases (List.mem_append.mp hp) with hp | hp
    ·exact b5 p (List.mem_append_left _ hp)
    ·rcases (List.mem_append.mp hp) with hp | hp
     ·exact b5 p (List.mem_append_right _ hp)
     ·exact fD _ (zem hp).1
   have no':zeW js' σ8:=fun j hj v e=>by
    have hj':j∉js:=fun z=>hdis j z hj
    rw [kp.2 j hj'] at e
    exact no j (List.mem_append_right _ hj) v e
   refine wpAny_mono (hm (again _) _ s9 σ8 H9 ys its nn N (fun fin s'=>match fin with | .done f=>R (.ok f) s' | .again c'=>c'=_∧∃ m,m < n∧_) K9 a9' no' q9 fun s' ys' its' nn' H' I' a' n'=>?_) (fun _ _ z=>z) fun _ _ z=>z.elim
   obtain⟨m',hm',w'⟩:=hN _ _ n'
   obtain⟨b1,b2,b3⟩:=back I'
   obtain⟨c0,c1,c2,c3,c4,c5⟩:=a'.fp
   refine wpAny_pure ⟨rfl,m',hm',i+1,ys',H',its',nn',b1,b2,b3,⟨⟨c0,c1,c2,c3,c4,fun p hp=>?_⟩,a'.here,a'.vals,a'.len⟩,w'⟩
   rcases (List.mem_append.mp hp) with hp | hp
   ·exact c5 p (List.mem_append_left _ hp)
   ·exact c5 p (List.mem_append_right _ (List.mem_append_left _ hp))
theorem zfu {prog:Program} {w:World} {A:Around} {R:Result→Shared→Prop} {s:Shared} {iter:Expr} {it acc:Value} {env:Env} (hd:gens[d]? = some ⟨tg,iter,ifs,0⟩)
  (h0:codeAny (model prog w) A (.compLoop (.ListComp elt gens scope pos) d it acc env) R s)
  (h:wpAny (model prog w) A (pyIter it) (fun it' s'=>codeAny (model prog w) A (.compLoop (.ListComp elt gens scope pos) d it' acc env) R s') (fun _ _=>False) s) :
  codeAny (model prog w) A (.compStart (.ListComp elt gens scope pos) d it acc env) R s:=by
 refine codeAny_of_tree ?_
 show wpAny _ _ ((compStart (.ListComp elt gens scope pos) d it acc env).onRaise (fun x=>do noteFrame x env; standAt theWindowsPlace)) _ _ s
 refine wpAny_notedAt ?_
 unfold compStart
 have e1:(clausesOf (.ListComp elt gens scope pos))[d]? = some ⟨tg,iter,ifs,0⟩:=hd
 rw [e1]
 (show wpAny _ _ (ask >>= _) _ _ s)
 (refine wpAny_bind (wpAny_askSetting (wpAny_ite ?_)))
 split
 ·first
   | (exact wpAny_bind (wpAny_pure (wpAny_pure ⟨rfl,h0⟩)))
   | (exact wpAny_pure ⟨rfl,h0⟩)
 ·first
   | exact wpAny_bind (wpAny_rule (wpAny_bind (wpAny_standAt (wpAny_bind (wpAny_mono h (fun it' s' h'=>wpAny_pure (And.intro rfl h')) fun _ _ x=>x.elim)))))
   | (refine wpAny_bind (wpAny_rule ?_); show wpAny _ _ (standAt iter.pos >>= _) _ _ s; exact wpAny_bind (wpAny_standAt (wpAny_bind (wpAny_mono h (fun it' s' h'=>wpAny_pure (And.intro rfl h')) fun _ _ x=>x.elim))))
theorem zla {iter:Expr} {wi:TI} (hc:Y.calm=true) (hx:Y.xe=fun _ _=>False) (hgs:GS js g) (hdis:∀ j∈js,j∉js') (hi:PI Y tg iter wi) (hg:PG Y tg g) (ht:zdi Y ifs ts) (hm:PM Y D js' mk tm) (hd:gens[d]? = some ⟨tg,iter,ifs,0⟩)
  (hturn:∀ it,compTurn (.ListComp elt gens scope pos) d it (.ref D) Y.env=zbS tg ifs p mk (.compLoop (.ListComp elt gens scope pos) d it (.ref D) Y.env) it Y.env)
  (hs:∀ x,foldedSetIterable iter Y.env x=pure x:=by intro _; rfl) :
  PM Y D (js++js') (zg6 (.ListComp elt gens scope pos) iter d (.ref D) Y.env) (ziE wi g ts tm):=by
 intro last pins s σ H ys its nn Q Φ I a no h k
 unfold zg6
 refine wpAny_bind (thx hx (hi (pins++[(D,zdj its nn)]) s σ H _ (a.pin I) h) fun v s1 h1=>wpAny_bind (wpAny_standAt (wpAny_bind ?_)))
 rw [hs v]
 refine wpAny_pure (wpAny_bind (wpAny_holding (thx hx h1 fun itv s2 h2=>?_)))
 obtain⟨it,fp,tn,J,H2,e,I2,T,st2,f2,q⟩:=h2
 subst e
 have a2:=a.back I2 (List.mem_append_right _ List.mem_cons_self)
 have J2:Inv Y pins σ H2 s2:=I2.fewer fun p hp=>List.mem_append_left _ hp
 have f2':∀ b∈fp,zbx Y pins H2 b:=fun b hb=>by
  obtain⟨c0,c1,c2,c3,c4,c5⟩:=f2 b hb
  refine⟨c0,c1,c2,c3,c4,fun p hp=>?_⟩
  rcases (List.mem_append.mp hp) with hp | hp
  ·exact c5 p (List.mem_append_left _ hp)
  ·exact c5 p (List.mem_append_right _ (List.mem_append_left _ hp))
 have fD:∀ b∈fp,b≠D:=fun b hb=>((f2 b hb).2.2.2.2.2 (D,zdj its nn) (List.mem_append_right _ (List.mem_append_right _ List.mem_cons_self))).symm
 have loop:codeAny (model Y.prog Y.w) Y.A (.compLoop (.ListComp elt gens scope pos) d (.ref it) (.ref D) Y.env) (fun r s'=>match r with | .ok f=>wpAny (model Y.prog Y.w) Y.A last Φ (fun _ _=>False) s' | .error e=>cameBackBy (model Y.prog Y.w) Y.A Y.env (fun _ _=>False) e s') s2 :=
  zg7 hc hx hgs hdis hg ht hm hturn J2 a2 no T st2 f2' fD q fun s' ys' its' nn' H' I' a' q'=>k s' ys' its' nn' H' I' a' q'
 exact wpAny_bind (wpAny_runOwn (zfu hd loop (T.self _ 0 _ _ _ st2 loop)))
end
section
variable {X:Cx} {elt tg iter:Expr} {ifs:List Expr} {gs:List Comprehension} {scope:Scope} {pos:Pos} {N':List Str} {ix:List (Option Nat)} {js js':List Nat} {g:TG} {ts:TT} {tm:TM} {mk:Addr→Env→Sem Fin→Sem Fin}
theorem zc6 {pins:List (Addr×Obj)} {σ:St} {H2:Hp} {s2:Shared} {it:Addr} {fp:List Addr} {tn:Nat→Heap→Prop} {J:It} {Q:VK} {E:Value→Shared→Prop} {RR:Value→Addr→Result→Shared→Prop}
  (SC:CompSc X N' ix scope) (hc:X.calm=true) (hgs:GS js g) (hdis:∀ j∈js,j∉js') (hjs:∀ j∈js++js',ix[j]? = some none)
  (hg:∀ s₃ H₃ ex pins,PG (zO X N' scope s₃ H₃ ex pins) tg g) (ht:∀ s₃ H₃ ex pins,zdi (zO X N' scope s₃ H₃ ex pins) ifs ts) (hm:∀ s₃ H₃ ex pins D,PM (zO X N' scope s₃ H₃ ex pins) D js' (mk D (zO X N' scope s₃ H₃ ex pins).env) tm)
  (hturn:∀ it D env,compTurn (.ListComp elt (⟨tg,iter,ifs,0⟩ :: gs) scope pos) 0 it (.ref D) env=zbS tg ifs iter.pos (mk D env) (.compLoop (.ListComp elt (⟨tg,iter,ifs,0⟩ :: gs) scope pos) 0 it (.ref D) env) it env)
  (I2:Inv X pins σ H2 s2) (T:Turn X.prog X.w X.K tg J fp it tn) (st2:tn 0 s2.heap) (f2:∀ b∈fp,zbx X pins H2 b) (q:cIn g ts tm (zcG ix σ) J (fun ys H'=>∀ D,H' D=none→Q (.ref D) (upd H' D (.lst ys))) [] H2)
  (hRR:∀ (D C:Addr) (s':Shared) (ys:List V) (H':Hp) (m:Str→Option Value),Inv X pins σ (upd H' D (.lst ys)) s'→zbx X pins (upd H' D (.lst ys)) C→s'.heap.Ns C m→Q (.ref D) (upd H' D (.lst ys))→RR (.ref D) C (.ok .next) s') :
  wpAny (model X.prog X.w) X.A (newList []) (fun acc s₃=>wpAny (model X.prog X.w) X.A (newFunctionEnv scope X.env.globals (zab X.env.cells scope.names []) [] X.env.qual none .none (some X.env)) (fun cenv s₄ =>
   codeAny (model X.prog X.w) X.A (.compStart (.ListComp elt (⟨tg,iter,ifs,0⟩ :: gs) scope pos) 0 (.ref it) acc { cenv with scope:=relabel scope X.env }) (RR acc cenv.locals) s₄) E s₃) E s2:=by
 have hfr:∀ y∈scope.names,y.2 = .free→∃ c,X.env.cells.lookup y.1=some c:=fun y hy hf=>I2.ok.has y.1 (SC.free y hy hf)
 have hcl:∀ x c,(zab X.env.cells scope.names []).lookup x=some c→X.env.cells.lookup x=some c:=zby scope.names [] hfr (fun x c e=>by simp at e)
 refine wpAny_newObj_type (zhD ?_)
 have I3:Inv X pins σ H2 { s2 with heap:=s2.heap.push { cls:=.type "list",dict:=none,data:=.seq ([]:List Value).toArray } }:=I2.kept (t':=s2.toks) fun b o e=>Heap.get?_push_of_some _ e
 have hD3:(s2.heap.push { cls:=.type "list",dict:=none,data:=.seq ([]:List Value).toArray }).get? s2.heap.objs.size=some { cls:=.type "list",dict:=none,data:=.seq ([]:List Value).toArray }:=Heap.get?_push_size _ rfl
 have hst3:tn 0 (s2.heap.push { cls:=.type "list",dict:=none,data:=.seq ([]:List Value).toArray }):=T.keep _ _ _ st2 fun b hb o e=>Heap.get?_push_of_some _ e
 have hsz3:(s2.heap.push { cls:=.type "list",dict:=none,data:=.seq ([]:List Value).toArray }).objs.size=s2.heap.objs.size+1:=Heap.size_push _ _
 generalize hh3:s2.heap.push { cls:=.type "list",dict:=none,data:=.seq ([]:List Value).toArray }=h3 at *
 have hfpO:=T.obj _ _ st2
 have hfpLt:∀ b∈fp,b < s2.heap.objs.size:=fun b hb=>by obtain⟨o,e,_⟩:=hfpO b hb; exact Heap.lt_size e
 have stk:∀ b∈frs X.stack,b=X.env.locals∨b∈X.fs:=fun b hb=>List.mem_cons.mp (I2.stkSub b hb)
 have hDok:zbx X pins H2 s2.heap.objs.size:=I2.fpOk (Nat.le_refl _) I2.fresh
 have exOk:∀ b∈s2.heap.objs.size :: fp,zbx X pins H2 b:=fun b hb=>by
  rcases (List.mem_cons.mp hb) with e | hb
  ·rw [e]; exact hDok
  ·exact f2 b hb
 have exLt:∀ b∈s2.heap.objs.size :: fp,b < h3.objs.size:=fun b hb=>by
  rw [hsz3]
  rcases (List.mem_cons.mp hb) with e | hb; · rw [e]; exact Nat.lt_succ_self _
  ·exact Nat.lt_succ_of_lt (hfpLt b hb)
 have exStk:∀ b∈s2.heap.objs.size :: fp,b∉frs X.stack:=fun b hb z=>by
  obtain⟨_,a1,a2,_⟩:=exOk b hb
  rcases stk b z with e | e
  ·exact a1 e
  ·exact a2 e
 have hns₁:(pushCells (h3.push { cls:=.type "dict",data:=.dict #[] }) scope.names).Ns h3.objs.size (fun _=>none):=(Heap.Ns.new h3 (.type "dict")).keeps (pushCells_keeps _ _)
 have old:∀ b o,h3.get? b=some o→(pushCells (h3.push { cls:=.type "dict",data:=.dict #[] }) scope.names).get? b=some o:=fun b o e=>pushCells_keeps _ _ b o (Heap.get?_push_of_some _ e)
 have cOld:∀ x c,X.env.cells.lookup x=some c→c < h3.objs.size:=fun x c e=>by
  obtain⟨v,q⟩:=I3.cell x c e
  exact q.lt
 have co:CO (pushCells (h3.push { cls:=.type "dict",data:=.dict #[] }) scope.names) (h3.objs.size+1) (zab X.env.cells scope.names []) (cellsFrom (h3.objs.size+1) scope.names (zab X.env.cells scope.names [])):=by
  have:=ziB (lo:=h3.objs.size+1) (old:=zab X.env.cells scope.names []) scope.names (h3.push { cls:=.type "dict",data:=.dict #[] }) (zab X.env.cells scope.names [])
   ⟨fun x c e=>.inr ⟨e,Nat.lt_succ_of_lt (cOld x c (hcl x c e))⟩,fun x y c e1 e2=>I2.ok.inj x y c (hcl x c e1) (hcl y c e2)⟩ (by rw [Heap.size_push]; exact Nat.le_refl _)
  rw [Heap.size_push] at this
  exact this
 generalize pushCells (h3.push { cls:=.type "dict",data:=.dict #[] }) scope.names=h₁ at hns₁ old co ⊢
 have clo:∀ {x c},(cellsFrom (h3.objs.size+1) scope.names (zab X.env.cells scope.names [])).lookup x=some c→(h₁.IsCell c none∧h3.objs.size+1≤c)∨X.env.cells.lookup x=some c:=fun {x c} e=>(co.each x c e).elim .inl fun z=>.inr (hcl x c z.1)
 have cfr:∀ x,scope.names.lookup x=some .free→(cellsFrom (h3.objs.size+1) scope.names (zab X.env.cells scope.names [])).lookup x=(zab X.env.cells scope.names []).lookup x:=fun x hx=>zeU _ _ _ _ fun z=>by
  have:=SC.cells _ z rfl
  rw [hx] at this
  cases this
 let s3:Shared:={ s2 with heap:=h3 }
 let Y:Cx:=zO X N' scope s3 H2 (s2.heap.objs.size :: fp) pins
 have I3':Inv X pins σ H2 s3:=I3
 have okY:Y.Ok:=by
  refine⟨I2.ok.mod,SC.kind,I2.ok.glob,I2.ok.blt,Nat.le_refl _,co.inj,fun x hx=>?_,fun x c z e=>?_,I2.ok.hd,I2.ok.frames,.inl rfl,fun b hb=>?_,fun b o e=>I3'.bs b o e,?_,fun b o e hb=>?_,exStk,I3'.stack,I3'.stkFree⟩
  ·have hx':=zcF (env:=X.env) (names:=scope.names) (x:=x) hx
   rcases hx' with hx' | hx'
   ·obtain⟨c,e⟩:=zbR (cs:=X.env.cells) scope.names [] x (.inr (lookup_mem hx'))
    exact⟨c,(cfr x hx').trans e⟩
   ·obtain⟨c,e,_⟩:=zeV scope.names (h3.objs.size+1) (zab X.env.cells scope.names []) x (lookup_mem hx')
    exact⟨c,e⟩
  ·obtain⟨c',e',l'⟩:=zeV scope.names (h3.objs.size+1) (zab X.env.cells scope.names []) x (lookup_mem (by have z':(scope.names.lookup x == some NameKind.cell)=true:=z; simpa using z'))
   have e2:(cellsFrom (h3.objs.size+1) scope.names (zab X.env.cells scope.names [])).lookup x=some c:=e
   rw [e'] at e2
   cases e2
   exact Nat.le_of_succ_le l'
  ·refine⟨Nat.ne_of_lt (exLt b hb),fun x c e=>(clo e).elim (fun z y=>?_) fun z=>(exOk b hb).2.2.2.2.1 x c z⟩
   subst y
   exact Nat.lt_irrefl _ (Nat.lt_of_lt_of_le (exLt _ hb) (Nat.le_of_succ_le z.2))
  ·exact Nat.le_trans I2.ok.bsz I3'.sz
  ·obtain⟨_,_,_,a3,_⟩:=exOk b hb
   rcases a3 with z | z
   ·exact I2.ok.noex b o e z
   ·have:=(I2.ok.bs b o e).1
    exact absurd (Nat.lt_of_lt_of_le (Heap.lt_size this) z) (Nat.lt_irrefl _)
 have inv4:Inv Y [] (zcG ix σ) H2 { s3 with heap:=h₁ }:=by
  refine⟨okY,rfl,I2.bare,Un.kept old,⟨_,hns₁,fun j x v e1 e2 e3=>?_⟩,fun x c e=>?_,I3'.fresh,fun x c e=>(clo e).elim (fun z=>I3'.hok.fresh (Nat.le_of_succ_le z.2)) fun z=>I2.freeC x c z,fun p hp=>?_,I3'.hok.kept old,?_⟩
  ·unfold zcG at e2
   rw [List.getElem?_map] at e2
   cases hj:ix[j]? with
   | none=>rw [hj] at e2; simp at e2
   | some oi =>
    rw [hj] at e2
    cases oi with
    | none=>simp at e2
    | some i =>
     obtain⟨y,h1,h2,h3'⟩:=SC.cap j i hj
     have hxy:y=x:=by
      have e1':N'[j]? = some x:=e1
      rw [h1] at e1'
      exact Option.some.inj e1'
     subst hxy
     have e2':(σ[i]?).join=some v:=by simpa using e2
     have e2'':σ[i]? = some (some v):=by
      cases hs:σ[i]? with
      | none=>rw [hs] at e2'; simp at e2'
      | some w=>rw [hs] at e2'; simp at e2'; rw [e2']
     obtain⟨m,hn,hl⟩:=I3'.loc
     have hk:=SC.free (y,.free) (lookup_mem h3') rfl
     have hvis:Vis X.env.scope y:=hk.elim (fun z=>.inr (.inl z)) fun z=>.inr (.inr z)
     obtain⟨u,r,l⟩:=hl i y v h2 e2'' hvis
     refine⟨u,r,.inr ⟨zbi h3',?_⟩⟩
     obtain⟨c,hcc⟩:=zbR (cs:=X.env.cells) scope.names [] y (.inr (lookup_mem h3'))
     refine⟨c,(cfr y h3').trans hcc,?_⟩
     rcases l with ⟨hk',_⟩ | ⟨_,c',hc',hcell⟩
     ·rcases hk with hk | hk
      ·have hk2:X.env.kindOf y=some .cell:=hk
       rw [hk2] at hk'; cases hk'
      ·have hk2:X.env.kindOf y=some .free:=hk
       rw [hk2] at hk'; cases hk'
     ·have:=hcl y c hcc
      rw [hc'] at this
      cases this
      obtain⟨o,ho,hd⟩:=hcell
      exact⟨o,old _ _ ho,hd⟩
  ·rcases clo e with z | z
   ·exact⟨_,z.1⟩
   ·obtain⟨v,o,ho,hd⟩:=I3'.cell x c z
    exact⟨v,o,old _ _ ho,hd⟩
  ·have hp':p∈X.pn++pins:=by
    have:p∈(X.pn++pins)++([]:List (Addr×Obj)):=hp
    simpa using this
   obtain⟨a1,a2,a3,a4,a5⟩:=I3'.pin p hp'
   exact⟨old _ _ a1,a2,Nat.ne_of_lt (Heap.lt_size a1),fun z=>(stk _ z).elim a3 a4,a5⟩
  ·unfold zcG
   rw [List.length_map]
   exact SC.len.symm
 have fpY:∀ {H':Hp},(∀ b∈s2.heap.objs.size :: fp,H' b=none)→∀ b∈s2.heap.objs.size :: fp,zbx Y [] H' b:=fun {H'} hn b hb=>by
  obtain⟨_,a1,a2,a3,a4,a5⟩:=exOk b hb
  refine⟨hn b hb,Nat.ne_of_lt (exLt b hb),exStk b hb,.inl hb,(okY.exf b hb).2,fun p hp=>?_⟩
  have:p∈(X.pn++pins)++([]:List (Addr×Obj)):=hp
  exact a5 p (by simpa using this)
 have nn2:∀ b∈s2.heap.objs.size :: fp,H2 b=none:=fun b hb=>(exOk b hb).1
 have noA:zeW (js++js') (zcG ix σ):=fun j hj v e=>by
  unfold zcG at e
  rw [List.getElem?_map,hjs j hj] at e
  simp at e
 have loop:∀ s₅:Shared,s₅ = { s2 with heap:=h₁ } →
   codeAny (model X.prog X.w) X.A (.compLoop (.ListComp elt (⟨tg,iter,ifs,0⟩ :: gs) scope pos) 0 (.ref it) (.ref s2.heap.objs.size) (compEnvC scope (cellsFrom (h3.objs.size+1) scope.names (zab X.env.cells scope.names [])) h3.objs.size X.env)) (RR (.ref s2.heap.objs.size) h3.objs.size) s₅:=by
  rintro s₅ rfl
  refine zg7 (Y:=Y) (pins:=[]) (σ:=zcG ix σ) (its:=[]) (nn:=0) hc rfl hgs hdis (hg s3 H2 _ pins) (ht s3 H2 _ pins) (hm s3 H2 _ pins s2.heap.objs.size) (fun it=>hturn it _ _) inv4 ⟨fpY nn2 _ List.mem_cons_self,old _ _ hD3,.nil,Nat.zero_le _⟩ noA T (T.keep _ _ _ hst3 fun b hb o e=>old b o e)
   (fun b hb=>fpY nn2 b (List.mem_cons_of_mem _ hb)) (fun b hb=>Nat.ne_of_lt (hfpLt b hb)) q fun s6 ys its nn H5 I6 a6 qn=>?_
  have dn5:H5 s2.heap.objs.size=none:=a6.fp.1
  have I7:Inv X pins σ H5 s6:=by
   refine I3'.call' (s':=s6) (ch:=s2.heap.objs.size :: fp) I6.os I6.base I6.hok I6.bare fun b hb=>?_
   obtain⟨_,a1,a2,a3,a4,a5⟩:=exOk b hb
   exact⟨a3,a1,a4,a5⟩
  have I8:Inv X pins σ (upd H5 s2.heap.objs.size (.lst ys)) s6:=by
   obtain⟨_,a1,a2,a3,a4,a5⟩:=hDok
   exact I7.track dn5 I2.sz (Ne.symm a1) a4 a5 ⟨a6.len,its,nn,a6.vals,a6.here⟩
  obtain⟨mm,hmm,_⟩:=I6.loc
  have dne:h3.objs.size≠s2.heap.objs.size:=by rw [hsz3]; exact Nat.succ_ne_self _
  refine hRR _ _ s6 ys H5 mm I8 (I3'.fpOk (H':=upd H5 s2.heap.objs.size (.lst ys)) (Nat.le_refl _) ?_) hmm (qn _ dn5)
  show upd H5 s2.heap.objs.size (.lst ys) h3.objs.size=none
  rw [zl dne]
  exact I6.free
 exact zfu rfl (loop _ rfl) (T.self _ 0 _ _ _ (T.keep _ _ _ hst3 fun b hb o e=>old b o e) (loop _ rfl))
theorem zfv {wi:TI} (SC:CompSc X N' ix scope) (hc:X.calm=true) (hgs:GS js g) (hdis:∀ j∈js,j∉js') (hjs:∀ j∈js++js',ix[j]? = some none) (hi:PI X tg iter wi)
  (hg:∀ s₃ H₃ ex pins,PG (zO X N' scope s₃ H₃ ex pins) tg g) (ht:∀ s₃ H₃ ex pins,zdi (zO X N' scope s₃ H₃ ex pins) ifs ts) (hm:∀ s₃ H₃ ex pins D,PM (zO X N' scope s₃ H₃ ex pins) D js' (mk D (zO X N' scope s₃ H₃ ex pins).env) tm)
  (hturn:∀ it D env,compTurn (.ListComp elt (⟨tg,iter,ifs,0⟩ :: gs) scope pos) 0 it (.ref D) env=zbS tg ifs iter.pos (mk D env) (.compLoop (.ListComp elt (⟨tg,iter,ifs,0⟩ :: gs) scope pos) 0 it (.ref D) env) it env)
  (hs:∀ x,foldedSetIterable iter X.env x=pure x:=by intro _; rfl):PE X (.ListComp elt (⟨tg,iter,ifs,0⟩ :: gs) scope pos) (zgk ix wi g ts tm):=by
 intro pins s σ H Q I h
 rw [eval_ListComp]
 have hfr:∀ y∈scope.names,y.2 = .free→∃ c,X.env.cells.lookup y.1=some c:=fun y hy hf=>I.ok.has y.1 (SC.free y hy hf)
 refine wpAny_comprehension_free (use:=none) rfl hs (zcp hfr) SC.kind SC.names (thn (hi pins s σ H _ I h) fun v s1 h1=>thn h1 fun itv s2 h2=>?_)
 obtain⟨it,fp,tn,J,H2,e,I2,T,st2,f2,q⟩:=h2
 subst e
 refine zc6 (RR:=fun acc C=>compPost (model X.prog X.w) X.A X.xe none (EP X pins σ Q) acc C) SC hc hgs hdis hjs hg ht hm hturn I2 T st2 f2 q ?_
 intro D C s' ys H' m I' fpC hm q'
 refine⟨m,hm,fun h'' hs''=>⟨.ref D,_,?_,rfl,q'⟩⟩
 obtain⟨f0,f1,f2',f3,f4,f5⟩:=fpC
 exact I'.turned (t':=s'.toks) (fun b o hb e=>hs''.extBut b o hb e) f0 f1 f3 f4 f5
theorem zfw {wi:TI} {i:Nat} {x:Str} {pos' spos:Pos} (hN:X.N.Nodup) (hxi:X.N[i]? = some x) (hx:Loc X.env.scope x) (SC:CompSc X N' ix scope) (hc:X.calm=true) (hgs:GS js g) (hdis:∀ j∈js,j∉js') (hjs:∀ j∈js++js',ix[j]? = some none) (hi:PI X tg iter wi)
  (hg:∀ s₃ H₃ ex pins,PG (zO X N' scope s₃ H₃ ex pins) tg g) (ht:∀ s₃ H₃ ex pins,zdi (zO X N' scope s₃ H₃ ex pins) ifs ts) (hm:∀ s₃ H₃ ex pins D,PM (zO X N' scope s₃ H₃ ex pins) D js' (mk D (zO X N' scope s₃ H₃ ex pins).env) tm)
  (hturn:∀ it D env,compTurn (.ListComp elt (⟨tg,iter,ifs,0⟩ :: gs) scope pos) 0 it (.ref D) env=zbS tg ifs iter.pos (mk D env) (.compLoop (.ListComp elt (⟨tg,iter,ifs,0⟩ :: gs) scope pos) 0 it (.ref D) env) it env)
  (hsw:swapsWith (.ListComp elt (⟨tg,iter,ifs,0⟩ :: gs) scope pos) (some (.Name x pos')) spos.line X.env=pure true:=by rfl)
  (hs:∀ x,foldedSetIterable iter X.env x=pure x:=by intro _; rfl) (hf:X.fn x=true∨X.env.scope.names.lookup x=some .local:=by first | exact .inl rfl | exact .inr rfl | assumption) :
  PS X (.Assign [.Name x pos'] (.ListComp elt (⟨tg,iter,ifs,0⟩ :: gs) scope pos) spos) (zeO (zgk ix wi g ts tm) (zaO i)):=by
 intro pins s σ H D I h
 have hfr:∀ y∈scope.names,y.2 = .free→∃ c,X.env.cells.lookup y.1=some c:=fun y hy hf=>I.ok.has y.1 (SC.free y hy hf)
 rw [exec_Assign_Name_used _ _ _ _ hsw]; refine wpAny_bind (wpAny_standAt (wpAny_bind ?_))
 show wpAny _ X.A (do let _ ← comprehension (.ListComp elt (⟨tg,iter,ifs,0⟩ :: gs) scope pos) scope X.env _ (newList []) false (eval iter X.env) (some (assign (.Name x pos') X.env))) _ _ s
 refine wpAny_bind (wpAny_mono (wpAny_comprehension_free (use:=some (assign (.Name x pos') X.env)) (Q:=fun _ s'=>SP X pins D .next s') rfl hs (zcp hfr) SC.kind SC.names
  (thn (hi pins s σ H _ I h) fun v s1 h1=>thn h1 fun itv s2 h2=>?_)) (fun _ s' hq=>wpAny_pure (wpAny_pure hq)) fun _ _ e=>e)
 obtain⟨it,fp,tn,J,H2,e,I2,T,st2,f2,q⟩:=h2
 subst e
 refine zc6 (Q:=fun x H1=>zaO i x σ H1 D.nx) (RR:=fun acc C=>compPost (model X.prog X.w) X.A X.xe (some (assign (.Name x pos') X.env)) (fun _ s'=>SP X pins D .next s') acc C) SC hc hgs hdis hjs hg ht hm hturn I2 T st2 f2 q ?_
 intro Da C s' ys H' m I' fpC hm q'
 show wpAny _ X.A (assign (.Name x pos') X.env (.ref Da)) _ _ _
 refine wpAny_assign_Name (zej I' hN hxi hx (show RelV (.ref Da) (.ref Da) from rfl) (fun s'' I'' ⟨a,hsb,ha⟩=>?_) hf)
 obtain⟨f0,f1,f2',f3,f4,f5⟩:=fpC
 have hCa:C≠a:=by
  rcases ha with e | e
  ·rw [e]; exact f1
  ·exact Ne.symm (f4 x a e)
 refine⟨m,hm.sameBut hsb hCa,fun h₃ hs₃=>⟨_,_,?_,q'⟩⟩
 exact I''.turned (t':=s''.toks) (fun b o hb e=>hs₃.extBut b o hb e) f0 f1 f3 f4 f5
end
theorem zlb {elt t1 i1 t2 i2:Expr} {f1 f2:List Expr} {scope:Scope} {pos:Pos} (it:Value) (D:Addr) (env:Env):compTurn (.ListComp elt [⟨t1,i1,f1,0⟩,⟨t2,i2,f2,0⟩] scope pos) 0 it (.ref D) env =
  zbS t1 f1 i1.pos (zg6 (.ListComp elt [⟨t1,i1,f1,0⟩,⟨t2,i2,f2,0⟩] scope pos) i2 1 (.ref D) env) (.compLoop (.ListComp elt [⟨t1,i1,f1,0⟩,⟨t2,i2,f2,0⟩] scope pos) 0 it (.ref D) env) it env:=by rfl
theorem zlc {elt t1 i1 t2 i2:Expr} {f1 f2:List Expr} {scope:Scope} {pos:Pos} (it:Value) (D:Addr) (env:Env):compTurn (.ListComp elt [⟨t1,i1,f1,0⟩,⟨t2,i2,f2,0⟩] scope pos) 1 it (.ref D) env =
  zbS t2 f2 i2.pos (zex elt (.ref D) env) (.compLoop (.ListComp elt [⟨t1,i1,f1,0⟩,⟨t2,i2,f2,0⟩] scope pos) 1 it (.ref D) env) it env:=by rfl
def zcW (ix:List (Option Nat)):List Nat:=(List.range ix.length).filter fun j=>ix[j]? == some none
theorem zbT {ix:List (Option Nat)} {i:Nat}:i∈zcW ix↔ix[i]? = some none:=by
 unfold zcW
 rw [List.mem_filter,List.mem_range,beq_iff_eq]
 exact⟨fun h=>h.2,fun h=>⟨(List.getElem?_eq_some_iff.mp h).1,h⟩⟩
def GK (ix:List (Option Nat)) (g:TG):Prop:=GS (zcW ix) g
def GKs (ix:List (Option Nat)) (g:TGs):Prop:=GSs (zcW ix) g
theorem z0 {ix:List (Option Nat)} {i:Nat} (hi:ix[i]? = some none):GK ix (zaO i):=zeX (zbT.2 hi)
theorem zaj {ix:List (Option Nat)}:GKs ix zim:=zjV
theorem zr {ix:List (Option Nat)} {i:Nat} {u:TGs} (hi:ix[i]? = some none) (h2:GKs ix u):GKs ix (zc3 (zaO i) u):=ziC (zbT.2 hi) h2
theorem zaH {ix:List (Option Nat)} {K:PySem.W.Frag} {n:Nat} {t:TGs} (h:GKs ix t):GK ix (zhv K n t):=zk9 h
theorem zkG {elt t1 i1:Expr} {f1:List Expr} {scope:Scope} {pos:Pos} (it:Value) (D:Addr) (env:Env):compTurn (.ListComp elt [⟨t1,i1,f1,0⟩] scope pos) 0 it (.ref D) env =
  zbS t1 f1 i1.pos (zex elt (.ref D) env) (.compLoop (.ListComp elt [⟨t1,i1,f1,0⟩] scope pos) 0 it (.ref D) env) it env:=by rfl
section
variable {X:Cx} {elt tg iter:Expr} {ifs:List Expr} {scope:Scope} {pos:Pos} {N':List Str} {ix:List (Option Nat)} {g:TG} {ts:TT} {te:TE}
theorem zG {wi:TI} (SC:CompSc X N' ix scope) (hc:X.calm=true) (hk:GK ix g) (hi:PI X tg iter wi)
  (hg:∀ s₃ H₃ ex pins,PG (zO X N' scope s₃ H₃ ex pins) tg g) (ht:∀ s₃ H₃ ex pins,zdi (zO X N' scope s₃ H₃ ex pins) ifs ts) (he:∀ s₃ H₃ ex pins,PE (zO X N' scope s₃ H₃ ex pins) elt te)
  (hs:∀ x,foldedSetIterable iter X.env x=pure x:=by intro _; rfl):PE X (.ListComp elt [⟨tg,iter,ifs,0⟩] scope pos) (zkF ix wi g ts te) :=
 zfv (mk:=fun D env=>zex elt (.ref D) env) (js:=zcW ix) (js':=[]) SC hc hk (fun _ _ h=>nomatch h) (fun j h=>zbT.1 (by simpa using h)) hi hg ht (fun s₃ H₃ ex pins D=>zgl rfl (he s₃ H₃ ex pins)) (fun _ _ _=>zkG _ _ _) hs
theorem zaL {wi:TI} {i:Nat} {x:Str} {pos' spos:Pos} (hN:X.N.Nodup) (hxi:X.N[i]? = some x) (hx:Loc X.env.scope x) (SC:CompSc X N' ix scope) (hc:X.calm=true) (hk:GK ix g) (hi:PI X tg iter wi)
  (hg:∀ s₃ H₃ ex pins,PG (zO X N' scope s₃ H₃ ex pins) tg g) (ht:∀ s₃ H₃ ex pins,zdi (zO X N' scope s₃ H₃ ex pins) ifs ts) (he:∀ s₃ H₃ ex pins,PE (zO X N' scope s₃ H₃ ex pins) elt te)
  (hsw:swapsWith (.ListComp elt [⟨tg,iter,ifs,0⟩] scope pos) (some (.Name x pos')) spos.line X.env=pure true:=by rfl)
  (hs:∀ x,foldedSetIterable iter X.env x=pure x:=by intro _; rfl) (hf:X.fn x=true∨X.env.scope.names.lookup x=some .local:=by first | exact .inl rfl | exact .inr rfl | assumption) :
  PS X (.Assign [.Name x pos'] (.ListComp elt [⟨tg,iter,ifs,0⟩] scope pos) spos) (zeO (zkF ix wi g ts te) (zaO i)) :=
 zfw (mk:=fun D env=>zex elt (.ref D) env) (js:=zcW ix) (js':=[]) hN hxi hx SC hc hk (fun _ _ h=>nomatch h) (fun j h=>zbT.1 (by simpa using h)) hi hg ht (fun s₃ H₃ ex pins D=>zgl rfl (he s₃ H₃ ex pins)) (fun _ _ _=>zkG _ _ _) hsw hs hf
end
end L2
end
section
set_option maxHeartbeats 3999000
namespace L2
open PySem PySem.Spec PyProof.Rows
section
variable {X:Cx} {pins:List (Addr×Obj)} {σ:St} {H:Hp} {s:Shared} {h':Heap}
theorem Inv.turnedL {t':Nat} {ch:List Addr} (I:Inv X pins σ H s) (k:∀ b o,b∉ch→s.heap.get? b=some o→h'.get? b=some o) (hf:∀ b∈ch,zbx X pins H b)
  (th:∀ b∈ch,∃ o,h'.get? b=some o):Inv X pins σ H { s with heap:=h',toks:=t' }:=by
 have nit:∀ b u,H b=some u→b∉ch:=fun b u e z=>by rw [(hf b z).1] at e; cases e
 refine I.step (g':=s.gens) (d':=s.drawn) (ch:=ch) (fun b hb=>?_) (fun b o _ _ hc e _=>k b o hc e) (fun b o _ _ hc e _=>⟨o.slots,k b o hc e⟩) (fun _ _ _ _ n=>n)
  (fun b o hc e=>⟨o,k b o hc e⟩) (fun _ _ e=>e) (fun _ _ _ e=>e) (fun b ps e=>⟨#[],by rw [e]; simp⟩) (fun m hm=>?_) (fun b u e=>?_) I.bare
 ·obtain⟨_,a1,_,a3,a4,a5⟩:=hf b hb
  exact⟨a3,a1,a4,a5⟩
 ·obtain⟨o,es,ep,ho,r⟩:=hm
  exact⟨o,es,ep,k _ o (fun z=>(hf _ z).2.1 rfl) ho,r⟩
 ·refine (I.hok b u e).stay (fun c v hc q=>k c v ?_ q) (fun _ q=>q) fun _ _ q=>q
  rcases hc with z | z
  ·rw [z]; exact nit b u e
  ·exact nit c _ z
theorem Inv.turnedNew {t':Nat} {ch:List Addr} {T:Addr} {o:HO} (I:Inv X pins σ H s) (k:∀ b o,b∉ch→s.heap.get? b=some o→h'.get? b=some o) (hf:∀ b∈ch,zbx X pins H b)
  (th:∀ b∈ch,∃ o,h'.get? b=some o) (hT:s.heap.objs.size≤T) (ok:z7 X.prog X.w (upd H T o) h' T o):Inv X pins σ (upd H T o) { s with heap:=h',toks:=t' }:=by
 have I1:Inv X pins σ H { s with heap:=h',toks:=t' }:=I.turnedL k hf th
 have hn:H T=none:=I.hok.fresh hT
 obtain⟨_,a1,a2,a3,a4,a5⟩:=I.fpOk (H':=H) hT hn
 exact I1.track hn (Nat.le_trans I.sz hT) (Ne.symm a1) a4 a5 ok
end
def ziF (Sq:Hp→Addr→List V→Prop) (a:Addr):It :=
 ⟨fun i H=>∃ xs x,Sq H a xs∧xs[i]? = some x,fun i H x H'=>∃ T v,H T=none∧x = .ref T∧H'=upd H T (.tup [.int i,v])∧∀ xs,Sq H a xs→xs[i]? = some v,fun i H=>∃ xs,Sq H a xs∧xs.length≤i⟩
theorem zbU {h:Heap} {T:Addr} {a b:Value} (e:h.get? T=some { cls:=.type "tuple",data:=.seq #[a,b] }):IsTup h T ([a,b]:List Value).toArray:=⟨_,e,rfl,_,rfl⟩
theorem zaQ:2≤sizeLine:=by rw [sizeLine_eq]; decide
theorem zgm {P:Program} {w:World} {K:PySem.W.Frag} {es:List Expr} {k:Nat} {pos:Pos} (a it e:Addr) (hei:e≠it):Turn P w K (.Tuple es k pos) (ziF (SqL K) a) [e,it] e (fun i h=>(∃ old,IsEnum h e it i old)∧h.IsListIter it a i) where
 mem:=by simp
 obj:=fun i h st b hb=>by
  obtain⟨⟨old,he⟩,o,ho,hc,hd⟩:=st
  rcases List.mem_cons.mp hb with z | z
  ·subst z
   exact⟨_,he,fun v z=>by cases z⟩
  ·have z:b=it:=by simpa using z
   subst z
   exact⟨o,ho,fun v z=>by rw [hd] at z; cases z⟩
 keep:=fun i h h' st kk=>⟨st.1.imp fun old he=>kk e (by simp) _ he,st.2.at fun o eo=>kk it (by simp) o eo⟩
 item:=by
  intro X hP hw hK hc i pins s σ H E I hf st hg
  subst hP hw hK
  obtain⟨xs,x,hq,hx⟩:=hg
  obtain⟨⟨old,he⟩,hit⟩:=st
  obtain⟨its,rv,p,hz⟩:=I.list hq
  obtain⟨u,hu,ru⟩:=rv.get hx
  have hes:e < s.heap.objs.size:=Heap.lt_size he
  have hits:it < s.heap.objs.size:=by obtain⟨o,ho,_⟩:=hit; exact Heap.lt_size ho
  refine wpAny_pyNext_enum_item he hit p.isList (x:=u) (by simpa using hu) hei fun h' ho' hit' hT hsz kk=>?_
  have k1:∀ b o,b∉[e,it]→s.heap.get? b=some o→h'.get? b=some o:=fun b o hb eo=>kk b o (fun z=>hb (by simp [z])) (fun z=>hb (by simp [z])) eo
  have th1:∀ b∈[e,it],∃ o,h'.get? b=some o:=fun b hb=>by
   rcases List.mem_cons.mp hb with z | z
   ·subst z; exact⟨_,ho'⟩
   ·have z:b=it:=by simpa using z
    subst z
    obtain⟨o,eo,_⟩:=hit'
    exact⟨o,eo⟩
  have I1:Inv X pins σ (upd H s.heap.objs.size (.tup [.int i,x])) { s with heap:=h',toks:=s.toks+1 } :=
   I.turnedNew k1 hf th1 (Nat.le_refl _) ⟨zaQ,_,.cons ⟨s.toks,rfl⟩ (.cons ru .nil),zbU hT⟩
  refine⟨_,rfl,wpAny_letOwnedTupleGo_enum ho' fun h'' he'' hs''=>?_⟩
  have fr:∀ b∈[e,it],upd H s.heap.objs.size (.tup [.int i,x]) b=none:=fun b hb=>by
   have hlt:b < s.heap.objs.size:=by
    rcases List.mem_cons.mp hb with z | z
    ·subst z; exact hes
    ·have z:b=it:=by simpa using z
     subst z; exact hits
   rw [zl (Nat.ne_of_lt hlt)]
   exact (hf b hb).1
  have I2:Inv X pins σ (upd H s.heap.objs.size (.tup [.int i,x])) { s with heap:=h'',toks:=s.toks+1 } :=
   Inv.turnedL (s:={ s with heap:=h',toks:=s.toks+1 }) (ch:=[e]) (t':=s.toks+1) I1 (fun b o hb eo=>hs''.extBut b o (by simpa using hb) eo) (fun b hb=>by
    have z:b=e:=by simpa using hb
    subst z
    exact⟨fr b (by simp),(hf b (by simp)).2⟩) (fun b hb=>by
    have z:b=e:=by simpa using hb
    subst z
    exact⟨_,he''⟩)
  refine⟨.ref s.heap.objs.size,_,I2,rfl,⟨_,x,I.fresh,rfl,rfl,fun ys hy=>by rw [I.list_inj hy hq]; exact hx⟩,⟨⟨_,by simpa using he''⟩,hit'.extBut hs''.extBut (Ne.symm hei)⟩,fr⟩
 done:=by
  intro X hP hw hK hc i pins s σ H E I hf st hg
  subst hP hw hK
  obtain⟨xs,hq,hx⟩:=hg
  obtain⟨⟨old,he⟩,hit⟩:=st
  obtain⟨its,rv,p,hz⟩:=I.list hq
  have hl:=rv.length
  obtain⟨f0,f1,f2,f3,f4,f5⟩:=hf it (by simp)
  exact wpAny_pyNext_enum_end (I.ok.hd hc) he hit p.isList (by simp; omega) fun h' eb=>⟨rfl,I.turned (t':=s.toks) (fun b o hb e=>eb b o hb e) f0 f1 f3 f4 f5⟩
 self:=fun _ _ _ _ _ st h=>by
  obtain⟨⟨old,he⟩,_⟩:=st
  exact wpAny_pyIter_enum he h
def iEn (Sq:Hp→Addr→List V→Prop) (ta:TA):TI:=fun σ H R=>ta σ H fun vs H1=>∃ a xs,vs = [.ref a]∧Sq H1 a xs∧R (ziF Sq a) H1
theorem zfx {X:Cx} {es:List Expr} {k:Nat} {tpos p pos:Pos} {a:Expr} {ta:TA} (hg:Gl X "enumerate") (hm:X.mg "enumerate" = none) (ha:PA X [a] ta) (hs:starEach [a] X.env = [(false,eval a X.env)]:=by rfl) :
  PI X (.Tuple es k tpos) (.Call (.Name "enumerate" p) [a] [] pos) (iEn (SqL X.K) ta):=by
 intro pins s σ H R I h
 refine Call_ (zbn I hg hm boot_enumerate (PyProof.Rows.callWith_type1 (thn (ha pos pins s σ H _ I h) fun us s1 ⟨vs,H1,I1,r1,q1⟩=>?_) hs rfl))
 obtain⟨l,xs,e,hq,q⟩:=q1
 subst e
 cases r1 with
 | cons r rr =>
  cases rr
  cases r
  obtain⟨its,rv,pl,hz⟩:=I1.list hq
  refine call_enumerate_list pl.isList fun h' he hi hsz kk=>?_
  have I2:Inv X pins σ H1 { s1 with heap:=h' }:=I1.kept (t':=s1.toks) kk
  refine wpAny_pyIter_enum he ?_; refine⟨_,[s1.heap.objs.size+1,s1.heap.objs.size],_,ziF (SqL X.K) l,H1,rfl,I2,zgm l s1.heap.objs.size (s1.heap.objs.size+1) (Nat.succ_ne_self _),⟨⟨_,he⟩,hi⟩,fun b hb=>?_,q⟩
  have hle:s1.heap.objs.size≤b:=by
   rcases List.mem_cons.mp hb with z | z
   ·rw [z]; exact Nat.le_succ _
   ·have z:b=s1.heap.objs.size:=by simpa using z
    rw [z]; exact Nat.le_refl _
  exact I1.fpOk hle (I1.hok.fresh hle)
def zhE (Sq1 Sq2:Hp→Addr→List V→Prop) (a b:Addr):It :=
 ⟨fun i H=>∃ xs ys x y,Sq1 H a xs∧Sq2 H b ys∧xs[i]? = some x∧ys[i]? = some y,
  fun i H x H'=>∃ T u v,H T=none∧x = .ref T∧H'=upd H T (.tup [u,v])∧(∀ xs,Sq1 H a xs→xs[i]? = some u)∧∀ ys,Sq2 H b ys→ys[i]? = some v,
  fun i H=>∃ xs ys,Sq1 H a xs∧Sq2 H b ys∧(xs.length≤i∨ys.length≤i)⟩
theorem zhF {P:Program} {w:World} {K:PySem.W.Frag} {es:List Expr} {k:Nat} {pos:Pos} (a b:Addr) (n:Nat) (ha:a < n) (hb:b < n):Turn P w K (.Tuple es k pos) (zhE (SqL K) (SqL K) a b) [n+4,n+2,n+3,n,n+1] (n+4)
  (fun i h=>IsZip h (n+4) (n+2) (n+3) .none∧IsPair h (n+2) (.ref n) (.ref (n+1))∧(∃ u v,IsPair h (n+3) u v)∧h.IsListIter n a i∧h.IsListIter (n+1) b i) where
 mem:=by simp
 obj:=fun i h st c hc=>by
  obtain⟨h1,h2,⟨u,v,h3⟩,⟨o4,e4,_,d4⟩,⟨o5,e5,_,d5⟩⟩:=st
  simp only [List.mem_cons,List.not_mem_nil,or_false] at hc
  rcases hc with z | z | z | z | z <;> subst z
  ·exact⟨_,h1,fun v z=>by cases z⟩
  ·exact⟨_,h2,fun v z=>by cases z⟩
  ·exact⟨_,h3,fun v z=>by cases z⟩
  ·exact⟨_,e4,fun v z=>by rw [d4] at z; cases z⟩
  ·exact⟨_,e5,fun v z=>by rw [d5] at z; cases z⟩
 keep:=fun i h h' st kk=>by
  obtain⟨h1,h2,⟨u,v,h3⟩,h4,h5⟩:=st
  exact⟨kk _ (by simp) _ h1,kk _ (by simp) _ h2,⟨u,v,kk _ (by simp) _ h3⟩,h4.at fun o eo=>kk _ (by simp) o eo,h5.at fun o eo=>kk _ (by simp) o eo⟩
 item:=by
  intro X hP hw hK hc i pins s σ H E I hf st hg
  subst hP hw hK
  obtain⟨xs,ys,x,y,hq1,hq2,hx,hy⟩:=hg
  obtain⟨h1,h2,⟨u0,v0,h3⟩,h4,h5⟩:=st
  obtain⟨its1,rv1,p1,hz1⟩:=I.list hq1
  obtain⟨its2,rv2,p2,hz2⟩:=I.list hq2
  obtain⟨u,hu,ru⟩:=rv1.get hx
  obtain⟨v,hv,rv⟩:=rv2.get hy
  have hzs:n+4 < s.heap.objs.size:=Heap.lt_size h1
  refine wpAny_pyNext_zip_item (zipApart_new ha hb) h1 h2 h3 h4 h5 p1.isList p2.isList (x:=u) (y:=v) (by simpa using hu) (by simpa using hv) fun h' a1 a2 a3 a4 a5 a6 kk=>?_
  have k1:∀ c o,c∉[n+4,n+3,n,n+1]→s.heap.get? c=some o→h'.get? c=some o:=fun c o hc' eo =>
   kk c o (fun z=>hc' (by simp [z])) (fun z=>hc' (by simp [z])) (fun z=>hc' (by simp [z])) (fun z=>hc' (by simp [z])) eo
  have sub:∀ c∈[n+4,n+3,n,n+1],c∈[n+4,n+2,n+3,n,n+1]:=fun c hc'=>by
   simp only [List.mem_cons,List.not_mem_nil,or_false] at hc' ⊢
   rcases hc' with z | z | z | z <;> subst z <;> simp
  have th1:∀ c∈[n+4,n+3,n,n+1],∃ o,h'.get? c=some o:=fun c hc'=>by
   simp only [List.mem_cons,List.not_mem_nil,or_false] at hc'
   rcases hc' with z | z | z | z <;> subst z
   ·exact⟨_,a1⟩
   ·exact⟨_,a2⟩
   ·obtain⟨o,e,_⟩:=a3; exact⟨o,e⟩
   ·obtain⟨o,e,_⟩:=a4; exact⟨o,e⟩
  have I1:Inv X pins σ (upd H s.heap.objs.size (.tup [x,y])) { s with heap:=h' } :=
   I.turnedNew (t':=s.toks) k1 (fun c hc'=>hf c (sub c hc')) th1 (Nat.le_refl _) ⟨zaQ,_,.cons ru (.cons rv .nil),zbU a5⟩
  refine⟨_,rfl,wpAny_letOwnedTupleGo_zip a1 fun h'' hz'' hs''=>?_⟩
  have fr:∀ c∈[n+4,n+2,n+3,n,n+1],upd H s.heap.objs.size (.tup [x,y]) c=none:=fun c hc'=>by
   have hlt:c < s.heap.objs.size:=by
    simp only [List.mem_cons,List.not_mem_nil,or_false] at hc'
    rcases hc' with z | z | z | z | z <;> subst z <;> omega
   rw [zl (Nat.ne_of_lt hlt)]
   exact (hf c hc').1
  have I2:Inv X pins σ (upd H s.heap.objs.size (.tup [x,y])) { s with heap:=h'' } :=
   Inv.turnedL (s:={ s with heap:=h' }) (ch:=[n+4]) (t':=s.toks) I1 (fun c o hc' eo=>hs''.extBut c o (by simpa using hc') eo) (fun c hc'=>by
    have z:c=n+4:=by simpa using hc'
    subst z
    exact⟨fr _ (by simp),(hf _ (by simp)).2⟩) (fun c hc'=>by
    have z:c=n+4:=by simpa using hc'
    subst z
    exact⟨_,hz''⟩)
  refine⟨.ref s.heap.objs.size,_,I2,rfl,⟨_,x,y,I.fresh,rfl,rfl,fun zs hz=>by rw [I.list_inj hz hq1]; exact hx,fun zs hz=>by rw [I.list_inj hz hq2]; exact hy⟩,
   ⟨hz'',hs''.extBut _ _ (zipApart_new ha hb).TIz (kk _ _ (zipApart_new ha hb).TIz (zipApart_new ha hb).TITO (zipApart_new ha hb).TIi1 (zipApart_new ha hb).TIi2 h2),⟨_,_,hs''.extBut _ _ (zipApart_new ha hb).TOz a2⟩,a3.extBut hs''.extBut (zipApart_new ha hb).i1z,a4.extBut hs''.extBut (zipApart_new ha hb).i2z⟩,fr⟩
 done:=by
  intro X hP hw hK hc i pins s σ H E I hf st hg
  subst hP hw hK
  obtain⟨xs,ys,hq1,hq2,hx⟩:=hg
  obtain⟨h1,h2,⟨u0,v0,h3⟩,h4,h5⟩:=st
  obtain⟨its1,rv1,p1,hz1⟩:=I.list hq1
  obtain⟨its2,rv2,p2,hz2⟩:=I.list hq2
  have hl1:=rv1.length
  have hl2:=rv2.length
  refine wpAny_pyNext_zip_end (I.ok.hd hc) (zipApart_new ha hb) h1 h2 h3 h4 h5 p1.isList p2.isList ?_ fun h' kk=>⟨rfl,?_⟩
  ·rcases hx with z | z
   ·exact .inl (by simp; omega)
   ·exact .inr (by simp; omega)
  ·have hth:∀ c∈[n+4,n+3,n,n+1],c∈[n+4,n+2,n+3,n,n+1]:=fun c hc'=>by
    simp only [List.mem_cons,List.not_mem_nil,or_false] at hc' ⊢
    rcases hc' with z | z | z | z <;> subst z <;> simp
   refine I.step (g':=s.gens) (d':=s.drawn) (t':=s.toks) (ch:=[n+4,n+3,n,n+1]) (fun c hc'=>?_) (fun c o _ _ hcc e _=>kk c o (fun z=>hcc (by simp [z])) (fun z=>hcc (by simp [z])) (fun z=>hcc (by simp [z])) (fun z=>hcc (by simp [z])) e)
    (fun c o _ _ hcc e _=>⟨o.slots,kk c o (fun z=>hcc (by simp [z])) (fun z=>hcc (by simp [z])) (fun z=>hcc (by simp [z])) (fun z=>hcc (by simp [z])) e⟩) (fun _ _ _ _ n=>n)
    (fun c o hcc e=>⟨o,kk c o (fun z=>hcc (by simp [z])) (fun z=>hcc (by simp [z])) (fun z=>hcc (by simp [z])) (fun z=>hcc (by simp [z])) e⟩) (fun _ _ e=>e) (fun _ _ _ e=>e) (fun c ps e=>⟨#[],by rw [e]; simp⟩) (fun m hm=>?_) (fun c u e=>?_) I.bare
   ·obtain⟨_,a1,_,a3,a4,a5⟩:=hf c (hth c hc')
    exact⟨a3,a1,a4,a5⟩
   ·obtain⟨o,es',ep,ho,r⟩:=hm
    have ne:∀ c∈[n+4,n+2,n+3,n,n+1],X.env.locals≠c:=fun c hc'=>Ne.symm (hf c hc').2.1
    exact⟨o,es',ep,kk _ o (ne _ (by simp)) (ne _ (by simp)) (ne _ (by simp)) (ne _ (by simp)) ho,r⟩
   ·have nit:∀ d u',H d=some u'→∀ c∈[n+4,n+2,n+3,n,n+1],d≠c:=fun d u' e' c hc' z=>by rw [z,(hf c hc').1] at e'; cases e'
    refine (I.hok c u e).stay (fun d v' hd q=>kk d v' ?_ ?_ ?_ ?_ q) (fun _ q=>q) fun _ _ q=>q
    all_goals
     rcases hd with z | z
     ·rw [z]; exact nit c u e _ (by simp)
     ·exact nit d _ z _ (by simp)
 self:=fun _ _ _ _ _ st h=>wpAny_pyIter_zip st.1 h
def iZp (Sq1 Sq2:Hp→Addr→List V→Prop) (ta:TA):TI:=fun σ H R=>ta σ H fun vs H1=>∃ a b xs ys,vs = [.ref a,.ref b]∧Sq1 H1 a xs∧Sq2 H1 b ys∧R (zhE Sq1 Sq2 a b) H1
theorem zdt {X:Cx} {es:List Expr} {k:Nat} {tpos p pos:Pos} {a b:Expr} {ta:TA} (hg:Gl X "zip") (hm:X.mg "zip" = none) (ha:PA X [a,b] ta) (hs:starEach [a,b] X.env = [(false,eval a X.env),(false,eval b X.env)]:=by rfl) (hs2:starEach [b] X.env = [(false,eval b X.env)]:=by rfl) :
  PI X (.Tuple es k tpos) (.Call (.Name "zip" p) [a,b] [] pos) (iZp (SqL X.K) (SqL X.K) ta):=by
 intro pins s σ H R I h
 refine Call_ (zbn I hg hm boot_zip (PyProof.Rows.callWith_type1 (thn (ha pos pins s σ H _ I h) fun us s1 ⟨vs,H1,I1,r1,q1⟩=>?_) (by rw [hs,hs2]) (by rw [hs2]; rfl)))
 obtain⟨l1,l2,xs,ys,e,hq1,hq2,q⟩:=q1
 subst e
 cases r1 with
 | cons r rr =>
  cases rr with
  | cons r' rr =>
   cases rr
   cases r
   cases r'
   obtain⟨its1,rv1,pl1,hz1⟩:=I1.list hq1
   obtain⟨its2,rv2,pl2,hz2⟩:=I1.list hq2
   have hlt1:l1 < s1.heap.objs.size:=by obtain⟨_,_,e,_⟩:=pl1; exact Heap.lt_size e
   have hlt2:l2 < s1.heap.objs.size:=by obtain⟨_,_,e,_⟩:=pl2; exact Heap.lt_size e
   refine call_zip_2 pl1.isList pl2.isList fun h' b1 b2 b3 b4 b5 b6 kk=>?_
   have I2:Inv X pins σ H1 { s1 with heap:=h' }:=I1.kept (t':=s1.toks) kk
   refine wpAny_pyIter_zip b1 ?_
   refine⟨_,_,_,zhE (SqL X.K) (SqL X.K) l1 l2,H1,rfl,I2,zhF l1 l2 s1.heap.objs.size hlt1 hlt2,⟨b1,b2,⟨_,_,b3⟩,b4,b5⟩,fun c hc=>?_,q⟩
   have hle:s1.heap.objs.size≤c:=by
    simp only [List.mem_cons,List.not_mem_nil,or_false] at hc
    rcases hc with z | z | z | z | z <;> subst z <;> omega
   exact I1.fpOk hle (I1.hok.fresh hle)
end L2
end
section
set_option maxHeartbeats 3999000
namespace PySem
namespace F
end F
section
variable {prog:Program} {w:World} {A:Around} {E:Value→Shared→Prop} {s:Shared}
open PyProof.Rows
end
end PySem
namespace PySem
section
variable {prog:Program} {w:World} {A:Around} {E:Value→Shared→Prop} {s:Shared}
theorem zfy {it t:Addr} {i:Nat} {items:Array Value} {x:Value} {Q:Value→Shared→Prop} (hit:s.heap.IsTupleIter it t i) (ht:s.heap.IsTuple t items) (hx:items[i]? = some x)
  (hQ:∀ h',h'.IsTupleIter it t (i+1)→Heap.SameBut it s.heap h'→Q x { s with heap:=h' }):wpAny (model prog w) A (Builtin.SmallTypes.nextOf (.ref it)) Q E s:=by
 obtain⟨o,ho,hc,hd⟩:=id hit; obtain⟨ot,hot,_,nt,hdt⟩:=ht
 unfold Builtin.SmallTypes.nextOf; refine wpAny_bind (wpAny_callSpecial?_slot (name:=Str.ofString "__next__") hit.typeIs F.slot_tuple_iterator_next (wpAny_call_entry F.slot_tuple_iterator_next hit.typeIs F.entry_tuple_iterator_next ?_ (F.args_tuple_iterator_next_1 _)))
 show wpAny _ _ (field (.ref it) 0 >>= _) _ _ s; refine wpAny_bind (wpAny_field ho hd (x:=.ref t) rfl ?_); show wpAny _ _ (if (Value.ref t == Value.none)=true then _ else _) _ _ _; rw [if_neg (by exact Bool.false_ne_true)]
 refine wpAny_bind (wpAny_field ho hd (x:=.int _ 0) rfl ?_); refine wpAny_bind (m:=seqItems? _) (wpAny_seqItems hot hdt ?_); simp only [Int.toNat_natCast,hx]
 have hn:=Heap.get?_update_self (Obj.mapFields (·.setIfInBounds 1 (rawInt ((i+1:Nat):Int)))) ho (Obj.isFreed_of_fields (Obj.data_mapFields hd _))
 refine wpAny_bind (wpAny_setField ho hd (by simp) (wpAny_pure ⟨x,rfl,wpAny_pure (hQ _ ⟨_,hn,(Obj.cls_mapFields ..).trans hc,?_⟩ (Heap.SameBut.update ..))⟩)); rw [Obj.data_mapFields hd]; simp [rawInt]
theorem zc7 {it t:Addr} {i:Nat} {items:Array Value} {Q:Value→Shared→Prop} (hh:A.handled=none) (hit:s.heap.IsTupleIter it t i) (ht:s.heap.IsTuple t items) (hx:items[i]? = none)
  (hE:∀ h' e,Heap.ExtBut it s.heap h'→(∃ o,h'.get? e=some o∧o.cls = .type "StopIteration")→E (.ref e) { s with heap:=h' }):wpAny (model prog w) A (Builtin.SmallTypes.nextOf (.ref it)) Q E s:=by
 obtain⟨o,ho,hc,hd⟩:=id hit; obtain⟨ot,hot,_,nt,hdt⟩:=ht
 unfold Builtin.SmallTypes.nextOf; refine wpAny_bind (wpAny_callSpecial?_slot (name:=Str.ofString "__next__") hit.typeIs F.slot_tuple_iterator_next (wpAny_call_entry F.slot_tuple_iterator_next hit.typeIs F.entry_tuple_iterator_next ?_ (F.args_tuple_iterator_next_1 _)))
 show wpAny _ _ (field (.ref it) 0 >>= _) _ _ s; refine wpAny_bind (wpAny_field ho hd (x:=.ref t) rfl ?_); show wpAny _ _ (if (Value.ref t == Value.none)=true then _ else _) _ _ _; rw [if_neg (by exact Bool.false_ne_true)]
 refine wpAny_bind (wpAny_field ho hd (x:=.int _ 0) rfl ?_); refine wpAny_bind (m:=seqItems? _) (wpAny_seqItems hot hdt ?_); simp only [Int.toNat_natCast,hx]
 refine wpAny_bind (wpAny_rule (wpAny_bind (wpAny_setField ho hd (by simp) ?_))); show wpAny _ _ (newExc (.type "StopIteration") [] >>= _) _ _ _; refine wpAny_bind ?_
 simp only [newExc,newTuple]; refine wpAny_bind (wpAny_newObj_type ?_ (by size_fits)); refine wpAny_bind (m:=firstArgMember _ _) (wpAny_of_eq (a:=Value.none) (by first | rfl | (simp only [firstArgMember]; rfl)) ?_)
 refine wpAny_newObj_type ?_ (by size_fits); simp only [raiseNew]; refine wpAny_bind (wpAny_handled ?_); first | rw [show A.in1.handled=none from hh] | rw [hh]
 refine wpAny_bind (wpAny_pure (wpAny_throw ?_)); exact hE _ _ (((Heap.SameBut.update ..).extBut.push _).push _) ⟨_,Heap.get?_push_size _ rfl,rfl⟩
end
theorem Draws.tuple {prog:Program} {w:World} {A:Around} (hh:A.handled=none) (it t:Addr) (hne:t≠it) (items:Array Value):Draws prog w A it [it,t] items.size (fun i v=>items[i]? = some v) (fun i h=>h.IsTupleIter it t i∧h.IsTuple t items) where
 live:=fun i h st=>st.1.imp fun o r=>r.1
 frame:=fun i h h' st kk=>⟨st.1.at fun o=>kk it (by simp) o,st.2.at fun o=>kk t (by simp) o⟩
 item:=fun i s Q E hi st hQ=>zfy st.1 st.2 (x:=items[i]) (by simp [hi]) fun h' a b=>hQ _ h' s.toks (by simp [hi]) ⟨a,st.2.extBut b.extBut hne⟩ b
 done:=fun s Q E st hE=>zc7 hh st.1 st.2 (by simp) hE
def zbj (t:Addr):Obj:={ cls:=.type "tuple_iterator",data:=.fields #[.ref t,.int 0 0] }
def ziG (it:Addr):Obj:={ cls:=.type "enumerate",data:=.fields #[.none,.bool false,.ref it,rawInt 0,.none,.none] }
open AutoSeq1 (wpAny_loadPart') in
theorem zfz (l:Addr) (items:Array Value) (n:Nat) (dct:Option Addr) (sl:Array (Option Value)) :
  Meets (Builtin.«enumerate.__new__» ⟨[.type "enumerate",.ref l],[]⟩) (fun _ R s=>s.heap.get? l=some { cls:=.type "tuple",dict:=dct,data:=.seq items n,slots:=sl } ∧
   R (.ok (.ret (.ref (s.heap.push (zbj l)).objs.size))) { s with heap:=(s.heap.push (zbj l)).push (ziG s.heap.objs.size) }) :=
 .of_wp fun prog w A R s h=>by
  obtain⟨hp,g,d,tk,os⟩:=s; obtain⟨hl,h⟩:=h; have hT:Heap.IsTuple (Shared.heap ⟨hp,g,d,tk,os⟩) l items:=⟨_,hl,rfl,n,rfl⟩
  have hsub:=sub_enumerate; wp_walk using wpAny_loadPart' hl
  refine wpAny_stack_any fun st=>wpAny_pure ?_; split
  ·rename_i c _ _ _ _ _; cases (c == Value.type "enumerate") <;> (wp_walk using wpAny_loadPart' hl,wpAny_pyIter_tuple hT; exact⟨_,rfl,h⟩)
  ·wp_walk using wpAny_loadPart' hl,wpAny_pyIter_tuple hT; exact⟨_,rfl,h⟩
theorem zb2 {prog:Program} {w:World} {A:Around} {E:Value→Shared→Prop} {s:Shared} {l:Addr} {items:Array Value} {Q:Value→Shared→Prop} (hL:s.heap.IsTuple l items)
  (h:∀ h',IsEnum h' (s.heap.objs.size+1) s.heap.objs.size 0 .none→h'.IsTupleIter s.heap.objs.size l 0→h'.objs.size=s.heap.objs.size+2 →
   (∀ b o,s.heap.get? b=some o→h'.get? b=some o)→Q (.ref (s.heap.objs.size+1)) { s with heap:=h' }):wpAny (model prog w) A (call (.type "enumerate") [.ref l]) Q E s:=by
 obtain⟨⟨c,dct,dt,sl⟩,hl,hc,n,hd⟩:=hL; replace hc:c = .type "tuple":=hc; replace hd:dt = .seq items n:=hd; subst hc hd
 refine callType_new F.called_enumerate (by decide) (F.typeCall_enumerate_1 _) (F.newCall_enumerate_1 _) (fun obj=>F.args_object_init_2 obj _) F.entry_enumerate_new (zfz l items n dct sl) ⟨hl,?_⟩
 have hz:(s.heap.push (zbj l)).objs.size=s.heap.objs.size+1:=Heap.size_push ..
 have he:=Heap.get?_push_size (s.heap.push (zbj l)) (o:=ziG s.heap.objs.size) rfl
 show _∧_
 rw [hz] at he ⊢
 exact⟨⟨_,he,rfl⟩,h _ he ⟨_,Heap.get?_push_of_some _ (Heap.get?_push_size _ rfl),rfl,rfl⟩ (by rw [Heap.size_push,hz]) fun b o x=>Heap.get?_push_of_some _ (Heap.get?_push_of_some _ x)⟩
end PySem
namespace L2
open PySem PySem.Spec PyProof.Rows
theorem zgn {P:Program} {w:World} {K:PySem.W.Frag} {es:List Expr} {k:Nat} {pos:Pos} (a it e:Addr) (hei:e≠it) (hai:a≠it) (hae:a≠e):Turn P w K (.Tuple es k pos) (ziF (SqT K) a) [e,it] e (fun i h=>(∃ old,IsEnum h e it i old)∧h.IsTupleIter it a i) where
 mem:=by simp
 obj:=fun i h st b hb=>by
  obtain⟨⟨old,he⟩,o,ho,hc,hd⟩:=st
  rcases List.mem_cons.mp hb with z | z
  ·subst z
   exact⟨_,he,fun v z=>by cases z⟩
  ·have z:b=it:=by simpa using z
   subst z
   exact⟨o,ho,fun v z=>by rw [hd] at z; cases z⟩
 keep:=fun i h h' st kk=>⟨st.1.imp fun old he=>kk e (by simp) _ he,st.2.at fun o eo=>kk it (by simp) o eo⟩
 item:=by
  intro X hP hw hK hc i pins s σ H E I hf st hg
  subst hP hw hK
  obtain⟨xs,x,hq,hx⟩:=hg
  obtain⟨⟨old,he⟩,hit⟩:=st
  obtain⟨its,rv,p,hz⟩:=I.tuple hq
  obtain⟨u,hu,ru⟩:=rv.get hx
  have hes:e < s.heap.objs.size:=Heap.lt_size he
  have hits:it < s.heap.objs.size:=by obtain⟨o,ho,_⟩:=hit; exact Heap.lt_size ho
  have hlt:i < its.toArray.size:=by
   have:=(List.getElem?_eq_some_iff.mp hu).1
   simpa using this
  have hh:X.A.in1.handled=none:=by simp [I.ok.hd hc]
  refine wpAny_pyNext_enum_itemD (Draws.tuple hh it a hai its.toArray) he ⟨hit,(show s.heap.IsTuple a its.toArray from p)⟩ hlt hei (by simp [hei,Ne.symm hae]) fun u' h' tk hPu ho' hst' hT hsz kk=>?_
  obtain⟨hit',htup'⟩:=hst'
  have eu:u'=u:=by
   have e1:its[i]? = some u':=by simpa using hPu
   rw [hu] at e1
   exact (Option.some.inj e1).symm
  subst eu
  have k1:∀ b o,b∉[e,it]→s.heap.get? b=some o→h'.get? b=some o:=fun b o hb eo=>kk b o (fun z=>hb (by simp [z])) (fun z=>hb (by simp [z])) eo
  have th1:∀ b∈[e,it],∃ o,h'.get? b=some o:=fun b hb=>by
   rcases List.mem_cons.mp hb with z | z
   ·subst z; exact⟨_,ho'⟩
   ·have z:b=it:=by simpa using z
    subst z
    obtain⟨o,eo,_⟩:=hit'
    exact⟨o,eo⟩
  have I1:Inv X pins σ (upd H s.heap.objs.size (.tup [.int i,x])) { s with heap:=h',toks:=tk+1 } :=
   I.turnedNew k1 hf th1 (Nat.le_refl _) ⟨zaQ,_,.cons ⟨tk,rfl⟩ (.cons ru .nil),zbU hT⟩
  refine⟨_,rfl,wpAny_letOwnedTupleGo_enum ho' fun h'' he'' hs''=>?_⟩
  have fr:∀ b∈[e,it],upd H s.heap.objs.size (.tup [.int i,x]) b=none:=fun b hb=>by
   have hlt:b < s.heap.objs.size:=by
    rcases List.mem_cons.mp hb with z | z
    ·subst z; exact hes
    ·have z:b=it:=by simpa using z
     subst z; exact hits
   rw [zl (Nat.ne_of_lt hlt)]
   exact (hf b hb).1
  have I2:Inv X pins σ (upd H s.heap.objs.size (.tup [.int i,x])) { s with heap:=h'',toks:=tk+1 } :=
   Inv.turnedL (s:={ s with heap:=h',toks:=tk+1 }) (ch:=[e]) (t':=tk+1) I1 (fun b o hb eo=>hs''.extBut b o (by simpa using hb) eo) (fun b hb=>by
    have z:b=e:=by simpa using hb
    subst z
    exact⟨fr b (by simp),(hf b (by simp)).2⟩) (fun b hb=>by
    have z:b=e:=by simpa using hb
    subst z
    exact⟨_,he''⟩)
  refine⟨.ref s.heap.objs.size,_,I2,rfl,⟨_,x,I.fresh,rfl,rfl,fun ys hy=>by rw [I.tuple_inj hy hq]; exact hx⟩,⟨⟨_,by simpa using he''⟩,hit'.extBut hs''.extBut (Ne.symm hei)⟩,fr⟩
 done:=by
  intro X hP hw hK hc i pins s σ H E I hf st hg
  subst hP hw hK
  obtain⟨xs,hq,hx⟩:=hg
  obtain⟨⟨old,he⟩,hit⟩:=st
  obtain⟨its,rv,p,hz⟩:=I.tuple hq
  have hl:=rv.length
  obtain⟨f0,f1,f2,f3,f4,f5⟩:=hf it (by simp)
  have hT:s.TypeIs (.ref e) "enumerate":=⟨_,he,rfl⟩; have hh:X.A.in1.handled=none:=by simp [I.ok.hd hc]
  unfold pyNext; refine wpAny_bind (wpAny_attempt (wpAny_callSpecial?_slot (name:=Str.ofString "__next__") hT F.slot_enumerate_next (wpAny_call_entry F.slot_enumerate_next hT F.entry_enumerate_next ?_ (F.args_enumerate_next_1 _))))
  show wpAny _ _ (field (.ref e) 2 >>= _) _ _ _; refine wpAny_bind (wpAny_field he rfl (x:=.ref it) rfl ?_)
  refine wpAny_bind (zc7 hh hit (show s.heap.IsTuple a its.toArray from p) (by simp; omega) fun h' x he' hx'=>?_)
  obtain⟨o,ho,hc⟩:=hx'
  refine wpAny_bind (wpAny_isInstance (T:="StopIteration") (b:=true) ⟨o,ho,hc⟩ isSubtype_stop ?_); exact wpAny_pure ⟨rfl,I.turned (t':=s.toks) (fun b o hb e=>he' b o hb e) f0 f1 f3 f4 f5⟩
 self:=fun _ _ _ _ _ st h=>by
  obtain⟨⟨old,he⟩,_⟩:=st
  exact wpAny_pyIter_enum he h
theorem zfA {X:Cx} {es:List Expr} {k:Nat} {tpos p pos:Pos} {a:Expr} {ta:TA} (hg:Gl X "enumerate") (hm:X.mg "enumerate" = none) (ha:PA X [a] ta) (hs:starEach [a] X.env = [(false,eval a X.env)]:=by rfl) :
  PI X (.Tuple es k tpos) (.Call (.Name "enumerate" p) [a] [] pos) (iEn (SqT X.K) ta):=by
 intro pins s σ H R I h
 refine Call_ (zbn I hg hm boot_enumerate (PyProof.Rows.callWith_type1 (thn (ha pos pins s σ H _ I h) fun us s1 ⟨vs,H1,I1,r1,q1⟩=>?_) hs rfl))
 obtain⟨l,xs,e,hq,q⟩:=q1
 subst e
 cases r1 with
 | cons r rr =>
  cases rr
  cases r
  obtain⟨its,rv,pl,hz⟩:=I1.tuple hq
  have hlt:l < s1.heap.objs.size:=by obtain⟨_,e,_⟩:=pl; exact Heap.lt_size e
  refine zb2 (show s1.heap.IsTuple l its.toArray from pl) fun h' he hi hsz kk=>?_
  have I2:Inv X pins σ H1 { s1 with heap:=h' }:=I1.kept (t':=s1.toks) kk
  refine wpAny_pyIter_enum he ?_; refine⟨_,[s1.heap.objs.size+1,s1.heap.objs.size],_,ziF (SqT X.K) l,H1,rfl,I2,zgn l s1.heap.objs.size (s1.heap.objs.size+1) (Nat.succ_ne_self _) (Nat.ne_of_lt hlt) (Nat.ne_of_lt (Nat.lt_succ_of_lt hlt)),⟨⟨_,he⟩,hi⟩,fun b hb=>?_,q⟩
  have hle:s1.heap.objs.size≤b:=by
   rcases List.mem_cons.mp hb with z | z
   ·rw [z]; exact Nat.le_succ _
   ·have z:b=s1.heap.objs.size:=by simpa using z
    rw [z]; exact Nat.le_refl _
  exact I1.fpOk hle (I1.hok.fresh hle)
end L2
end
section
set_option maxHeartbeats 3999000
namespace L2
open PySem PySem.Spec PyProof.Rows
inductive EqD (K:PySem.W.Frag) (H:Hp):Nat→V→V→Bool→Prop where
 | flat {d:Nat} {x y:V} (hx:zb0 x=true) (hy:zb0 y=true):EqD K H d x y (eqV x y)
 | same {d:Nat} {a:Addr}:EqD K H d (.ref a) (.ref a) true
 | lists {d:Nat} {a b:Addr} {xs ys:List V} {e:Nat→Bool} (hne:a≠b) (ha:SqL K H a xs) (hb:SqL K H b ys) (hl:xs.length=ys.length)
   (he:∀ (j:Nat) x y,xs[j]? = some x→ys[j]? = some y→EqD K H d x y (e j)):EqD K H (d+1) (.ref a) (.ref b) ((List.range xs.length).all e)
 | lens {d:Nat} {a b:Addr} {xs ys:List V} (hne:a≠b) (ha:SqL K H a xs) (hb:SqL K H b ys) (hl:xs.length≠ys.length):EqD K H (d+1) (.ref a) (.ref b) false
 | tups {d:Nat} {a b:Addr} {xs ys:List V} {e:Nat→Bool} (hne:a≠b) (ha:SqT K H a xs) (hb:SqT K H b ys)
   (he:∀ (j:Nat) x y,xs[j]? = some x→ys[j]? = some y→EqD K H d x y (e j)):EqD K H (d+1) (.ref a) (.ref b) ((List.range (min xs.length ys.length)).all e && xs.length == ys.length)
theorem zE.getE {xs:List V} {us:List Value} (r:zE xs us) {j:Nat} (h:j < us.toArray.size):∃ x,xs[j]? = some x∧RelV x us.toArray[j]:=by
 have hl:=r.length
 have hj:j < xs.length:=by rw [hl]; simpa using h
 obtain⟨u,hu,ru⟩:=r.get (i:=j) (x:=xs[j]) (by simp)
 refine⟨xs[j],by simp,?_⟩
 have:us.toArray[j]=u:=by
  have h2:j < us.length:=by simpa using h
  rw [List.getElem?_eq_getElem h2] at hu
  simpa using Option.some.inj hu
 rw [this]
 exact ru
theorem EqD.at {X:Cx} {pins:List (Addr×Obj)} {σ:St} {H:Hp} {s:Shared} (I:Inv X pins σ H s) {d:Nat} {x y:V} {b:Bool} (h:EqD X.K H d x y b) :
  ∀ (A:Around) (u v:Value),RelV x u→RelV y v→A.units+d < cLine→SeqAt.EqAt A s u v b:=by
 induction h with
 | flat hx hy=>exact fun A u v rx ry _=>ziw rx ry hx hy
 | same=>intro A u v rx ry _; cases rx; cases ry; exact SeqAt.EqAt.same _
 | lists hne ha hb hl he ih =>
  intro A u v rx ry hu
  cases rx; cases ry
  obtain⟨is1,r1,p1,_⟩:=I.list ha
  obtain⟨is2,r2,p2,_⟩:=I.list hb
  have l1:=r1.length
  have l2:=r2.length
  refine SeqAt.EqAt.of_refs hne ?_
  have q:=SeqAt.RcAt.lists (A:=A) p1.isList p2.isList (by simp only [List.size_toArray]; omega) (by omega) fun j h1 h2=>by
   obtain⟨x,hx,rx⟩:=r1.getE h1
   obtain⟨y,hy,ry⟩:=r2.getE h2
   exact ih j x y hx hy A.in1 _ _ rx ry (by simp only [Around.in1_units]; omega)
  rw [List.size_toArray,← l1] at q
  exact q
 | lens hne ha hb hl =>
  intro A u v rx ry hu
  cases rx; cases ry
  obtain⟨is1,r1,p1,_⟩:=I.list ha
  obtain⟨is2,r2,p2,_⟩:=I.list hb
  have l1:=r1.length
  have l2:=r2.length
  exact SeqAt.EqAt.of_refs hne (SeqAt.RcAt.lists_lengths p1.isList p2.isList (by simp only [List.size_toArray,bne_iff_ne]; omega) (by omega))
 | tups hne ha hb he ih =>
  intro A u v rx ry hu
  cases rx; cases ry
  obtain⟨is1,r1,p1,_⟩:=I.tuple ha
  obtain⟨is2,r2,p2,_⟩:=I.tuple hb
  have l1:=r1.length
  have l2:=r2.length
  refine SeqAt.EqAt.of_refs hne ?_
  have q:=SeqAt.RcAt.tuples (A:=A) (s:=s) p1 p2 (by omega) fun j h1 h2=>by
   obtain⟨x,hx,rx⟩:=r1.getE h1
   obtain⟨y,hy,ry⟩:=r2.getE h2
   exact ih j x y hx hy A.in1 _ _ rx ry (by simp only [Around.in1_units]; omega)
  rw [List.size_toArray,List.size_toArray,← l1,← l2] at q
  exact q
def zlZ (K:PySem.W.Frag) (neg:Bool):R2:=fun x y H Q=>∃ a b xs ys,x = .ref a∧y = .ref b∧((SqL K H a xs∧SqL K H b ys)∨(SqT K H a xs∧SqT K H b ys)) ∧
 ((xs.length≠ys.length∧(∀ (j:Nat) x y,xs[j]? = some x→ys[j]? = some y→∃ c,EqD K H 8 x y c)∧Q (.bl neg) H) ∨
  (xs.length=ys.length∧∃ e:Nat→Bool,(∀ (j:Nat) x y,xs[j]? = some x→ys[j]? = some y→EqD K H 8 x y (e j))∧Q (.bl (if neg then !(List.range xs.length).all e else (List.range xs.length).all e)) H))
theorem zeY {X:Cx} (hu:X.A.units+20 < cLine):OpR X (compareOp .NotEq) (zlZ X.K true):=by
 intro pins s σ H x y v u Q I rx ry h
 obtain⟨a,b,xs,ys,rfl,rfl,hk,h⟩:=h
 cases rx; cases ry
 rcases hk with ⟨ha,hb⟩ | ⟨ha,hb⟩
 ·obtain⟨is1,r1,p1,_⟩:=I.list ha
  obtain⟨is2,r2,p2,_⟩:=I.list hb
  have l1:=r1.length
  have l2:=r2.length
  rcases h with ⟨hl,_,q⟩ | ⟨hl,e,he,q⟩
  ·exact SeqAt.RcNeAt.lists_lengths p1.isList p2.isList (by simp only [List.size_toArray,bne_iff_ne]; omega) (by omega) _ _ _ _ ⟨.bl true,H,I,rfl,q⟩
  ·refine SeqAt.RcNeAt.lists p1.isList p2.isList (e:=e) (by simp only [List.size_toArray]; omega) (by omega) (fun j h1 h2=>?_) _ _ _ _ ⟨.bl _,H,I,rfl,?_⟩
   ·obtain⟨x,hx,rx⟩:=r1.getE h1
    obtain⟨y,hy,ry⟩:=r2.getE h2
    exact (he j x y hx hy).at I _ _ _ rx ry (by simp only [Around.in1_units]; omega)
   ·rw [List.size_toArray,← l1]
    exact q
 ·obtain⟨is1,r1,p1,_⟩:=I.tuple ha
  obtain⟨is2,r2,p2,_⟩:=I.tuple hb
  have l1:=r1.length
  have l2:=r2.length
  rcases h with ⟨hl,he,q⟩ | ⟨hl,e,he,q⟩
  ·have he':∀ j:Nat,∃ c:Bool,∀ x y,xs[j]? = some x→ys[j]? = some y→EqD X.K H 8 x y c:=fun j=>by
    cases hx:xs[j]? with
    | none=>exact⟨true,fun x y z=>by cases z⟩
    | some x =>
     cases hy:ys[j]? with
     | none=>exact⟨true,fun x y _ z=>by cases z⟩
     | some y =>
      obtain⟨c,hc⟩:=he j x y hx hy
      exact⟨c,fun x' y' z1 z2=>by cases z1; cases z2; exact hc⟩
   obtain⟨e,he''⟩:=Classical.axiomOfChoice he'
   refine SeqAt.RcNeAt.tuples (s:=s) p1 p2 (e:=e) (by omega) (fun j h1 h2=>?_) _ _ _ _ ⟨.bl _,H,I,rfl,?_⟩
   ·obtain⟨x,hx,rx⟩:=r1.getE h1
    obtain⟨y,hy,ry⟩:=r2.getE h2
    exact (he'' j x y hx hy).at I _ _ _ rx ry (by simp only [Around.in1_units]; omega)
   ·have hb':(is1.toArray.size == is2.toArray.size)=false:=by
     rw [List.size_toArray,List.size_toArray]; exact beq_eq_false_iff_ne.mpr (by omega)
    rw [hb',Bool.and_false]
    exact q
  ·refine SeqAt.RcNeAt.tuples (s:=s) p1 p2 (e:=e) (by omega) (fun j h1 h2=>?_) _ _ _ _ ⟨.bl _,H,I,rfl,?_⟩
   ·obtain⟨x,hx,rx⟩:=r1.getE h1
    obtain⟨y,hy,ry⟩:=r2.getE h2
    exact (he j x y hx hy).at I _ _ _ rx ry (by simp only [Around.in1_units]; omega)
   ·have hb':(is1.toArray.size == is2.toArray.size)=true:=by
     rw [List.size_toArray,List.size_toArray]; exact beq_iff_eq.mpr (by omega)
    have hmin:min is1.toArray.size is2.toArray.size=xs.length:=by rw [List.size_toArray,List.size_toArray]; omega
    rw [hb',Bool.and_true,hmin]
    exact q
theorem zbc {X:Cx}:zbb X (.builtin "isinstance") (fun xs H Q=>∃ x t n b,xs = [x,.ty n]∧TyOf X.K H x t∧PySem.W.kitOne X.K t (.type n)=some b∧Q (.bl b) H):=by
 intro pins s σ H xs us Q I r h
 obtain⟨x,t,n,b,rfl,ty,hk,q⟩:=h
 obtain⟨u,u',rfl,rx,r2⟩:=vals2 r
 cases r2
 exact zhy I rx ty hk fun tk=>⟨.bl b,H,I.tok tk,rfl,q⟩
theorem zfB {X:Cx}:zbb X (.type "range") (fun xs H Q=>∃ j:Int,xs = [.int j]∧∀ l,H l=none→Q (.ref l) (upd H l (.rng 0 j))):=by
 intro pins s σ H xs us Q I r h
 obtain⟨j,rfl,q⟩:=h
 obtain⟨u,rfl,t,rfl⟩:=vals1 r
 refine call_range_1 ?_
 exact⟨.ref s.heap.objs.size,_,I.laid (o:=.rng 0 j) (fun b o e=>Heap.get?_push_of_some _ e) (Nat.le_refl _) ⟨_,_,_,Heap.get?_push_size _ rfl⟩,rfl,q _ I.fresh⟩
def zbz (lo:Int) (n:Nat):List Int:=(List.range n).map fun (i:Nat)=>lo+(i:Int)
theorem zcq (lo:Int) (n:Nat):(zbz lo n).length=n:=by simp [zbz]
theorem zd7 {acc:Array Value} {lo:Int} {n:Nat} (h:ItemsOf (fun i v=>∃ t,v = .int (lo+(i:Nat)*1) t) acc n):zE ((zbz lo n).map V.int) acc.toList:=by
 obtain⟨hsz,hv⟩:=h
 have go:∀ (us:List Value) (k:Nat),(∀ (j:Nat) v,us[j]? = some v→∃ t,v = .int (lo+((k+j:Nat):Int)) t)→zE (((List.range us.length).map fun (i:Nat)=>V.int (lo+((k+i:Nat):Int)))) us:=by
  intro us
  induction us with
  | nil=>intro k _; exact .nil
  | cons u us ih =>
   intro k hu
   rw [List.length_cons,List.range_succ_eq_map,List.map_cons,List.map_map]
   refine .cons ?_ ?_
   ·obtain⟨t,e⟩:=hu 0 u rfl
    exact⟨t,e⟩
   ·have:=ih (k+1) fun j v e=>by
     obtain⟨t,z⟩:=hu (j+1) v (by simpa using e)
     exact⟨t,by rw [z]; congr 1; omega⟩
    have e2:(fun (i:Nat)=>V.int (lo+((k+1+i:Nat):Int)))=((fun (i:Nat)=>V.int (lo+((k+i:Nat):Int))) ∘ Nat.succ):=by
     funext i
     show V.int _=V.int _
     congr 2
     show ((k+1+i:Nat):Int)=((k+(i+1):Nat):Int)
     omega
    rw [← e2]
    exact this
 have h1:=go acc.toList 0 fun j v e=>by
  obtain⟨t,z⟩:=hv j v (by simpa using e)
  exact⟨t,by rw [z]; simp⟩
 have e1:acc.toList.length=n:=by simpa using hsz
 rw [e1] at h1
 unfold zbz
 rw [List.map_map]
 have e2:(V.int ∘ fun (i:Nat)=>lo+(i:Int))=fun (i:Nat)=>V.int (lo+((0+i:Nat):Int)):=by
  funext i
  show V.int (lo+(i:Int))=V.int (lo+((0+i:Nat):Int))
  rw [Nat.zero_add]
 rw [e2]
 exact h1
theorem zd8 {X:Cx} (hc:X.calm=true):zbb X (.type "list") (fun xs H Q=>∃ p hi,xs = [.ref p]∧H p=some (.rng 0 hi)∧0≤hi∧hi≤1000∧∀ l,H l=none→Q (.ref l) (upd H l (.lst ((zbz 0 hi.toNat).map V.int)))):=by
 intro pins s σ H xs us Q I r h
 obtain⟨p,hi,rfl,hp,h0,h1,q⟩:=h
 obtain⟨u,rfl,rx⟩:=vals1 r
 cases rx
 obtain⟨t,u',v,e⟩:=(show z7 X.prog X.w H s.heap p (.rng 0 hi) from I.hok p _ hp)
 have hsl:=sizeLine_eq
 refine call_list_range (n:=hi.toNat) (I.ok.hd hc) (show IsRange s.heap p 0 hi 1 t u' v from e) (small_one (by omega) (by omega) (by omega) (by omega)) (by rw [rangeSize_one]; split <;> omega) (by omega) fun h' tk acc' c' kk ho hacc=>?_
 have hv:=zd7 (lo:=0) (n:=hi.toNat) hacc
 refine⟨.ref s.heap.objs.size,_,I.laid kk (Nat.le_refl _) ?_,rfl,q _ I.fresh⟩
 exact⟨by rw [List.length_map,zcq]; omega,acc'.toList,c',hv,by simpa using ho⟩
end L2
namespace L2
open PySem PySem.Spec PyProof.Rows
def zmv (K:PySem.W.Frag) (tl:TE):TI:=fun σ H R=>tl σ H fun x H1=>∃ a,x = .ref a∧(((∃ xs,SqL K H1 a xs)∧R (Itl K a) H1)∨((∃ xs,SqT K H1 a xs)∧R (Itt K a) H1))
theorem zld {X:Cx} {tg l:Expr} {tl:TE} (hl:PE X l tl):PI X tg l (zmv X.K tl):=by
 intro pins s σ H R I h
 refine thn (hl pins s σ H _ I h) fun v s1 ⟨x,H1,I1,r1,q1⟩=>?_
 obtain⟨a,e,q⟩:=q1
 subst e
 cases r1
 rcases q with ⟨⟨xs,hq⟩,q⟩ | ⟨⟨xs,hq⟩,q⟩
 ·obtain⟨its,rv,p,hz⟩:=I1.list hq
  refine wpAny_pyIter_list p.isList ?_
  refine⟨s1.heap.objs.size,[s1.heap.objs.size],_,_,H1,rfl,I1.kept (t':=s1.toks) fun b o e=>Heap.get?_push_of_some _ e,zel a _,⟨_,Heap.get?_push_size _ rfl,rfl,rfl⟩,fun b hb=>?_,q⟩
  have e:b=s1.heap.objs.size:=by simpa using hb
  subst e
  exact I1.fpOk (Nat.le_refl _) (I1.hok.fresh (Nat.le_refl _))
 ·obtain⟨its,rv,p,hz⟩:=I1.tuple hq
  refine wpAny_pyIter_tuple (show s1.heap.IsTuple a its.toArray from p) ?_
  refine⟨s1.heap.objs.size,[s1.heap.objs.size],_,_,H1,rfl,I1.kept (t':=s1.toks) fun b o e=>Heap.get?_push_of_some _ e,zdE a _,⟨_,Heap.get?_push_size _ rfl,rfl,rfl⟩,fun b hb=>?_,q⟩
  have e:b=s1.heap.objs.size:=by simpa using hb
  subst e
  exact I1.fpOk (Nat.le_refl _) (I1.hok.fresh (Nat.le_refl _))
end L2
namespace L2
open PySem PySem.Spec PyProof.Rows
def intsOf:List Expr→Option (List Int)
 | []=>some []
 | .Constant (.int i) _ _ :: r=>(intsOf r).map (i :: ·)
 | _=>none
def zey (ns:List Int):TA:=fun _ H Q=>Q (ns.map V.int) H
theorem ziH {X:Cx}:∀ (es:List Expr) (ns:List Int),intsOf es=some ns→PA X es (zey ns):=by
 intro es
 induction es with
 | nil =>
  intro ns h
  have e:ns = []:=(Option.some.inj h).symm
  subst e
  exact ze
 | cons e r ih =>
  intro ns h
  unfold intsOf at h
  split at h
  ·rename_i heq
   cases heq
  ·rename_i i j p r' heq
   injection heq with e1 e2
   subst e1 e2
   cases hr:intsOf r with
   | none=>rw [hr] at h; cases h
   | some ms =>
    rw [hr] at h
    have e:i :: ms=ns:=Option.some.inj h
    subst e
    exact za zf (ih ms hr)
  ·cases h
theorem zjW {X:Cx} {es:List Expr} {ns:List Int} (h:intsOf es=some ns):PA X es (zey ns):=ziH es ns h
end L2
namespace L2
open PySem PySem.Spec PyProof.Rows
theorem zb3 {X:Cx} {i:Int} {j:Nat} {p:Pos} {es:List Expr} {t:TA} (hr:PA X es t):PA X (.Constant (.int i) j p :: es) (zg2 (tC (.int i)) t):=za zf hr
end L2
namespace L2
open PySem PySem.Spec PyProof.Rows
theorem ziI {X:Cx} {i:Nat} {x:Str} {pos' pos2 spos:Pos} {rest:List Stmt} {u:TS} {es:List Expr} {ns:List Int} (h:intsOf es=some ns) (hN:X.N.Nodup) (hi:X.N[i]? = some x) (hx:Loc X.env.scope x)
  (hf:X.fn x=true∨X.env.scope.names.lookup x=some .local) (hr:PSs X rest u):PSs X (.Assign [.Name x pos'] (.List es pos2) spos :: rest) (zkW (zeO (zgf (zey ns)) (zaO i)) u):=by
 have h1:PE X (.List es pos2) (zgf (zey ns)):=@zN X es (zey ns) pos2 (@zjW X es ns h)
 have h2:PS X (.Assign [.Name x pos'] (.List es pos2) spos) (zeO (zgf (zey ns)) (zaO i)):=zm hN hi hx h1 (by rfl) hf
 exact zd h2 hr
end L2
namespace L2
open PySem PySem.Spec PyProof.Rows
section
variable {X:Cx} {K:PySem.W.Frag}
theorem zaq (hK:X.K=K):IxR X (zlV K):=by subst hK; exact zq
theorem zjX (hK:X.K=K):IxR X (zlW K):=by subst hK; exact zbZ
theorem ziJ (hK:X.K=K):SlR X (zlY K):=by subst hK; exact zbQ
def zl0 (K:PySem.W.Frag):List V→Hp→VK→Prop:=fun xs H Q=>∃ p ys,xs = [.ref p]∧(SqL K H p ys∨SqT K H p ys)∧Q (.int ys.length) H
theorem zbA (hK:X.K=K):zbb X (.builtin "len") (zl0 K):=by subst hK; exact zx
def zmw (K:PySem.W.Frag):List V→Hp→VK→Prop:=fun xs H Q=>∃ x t n b,xs = [x,.ty n]∧TyOf K H x t∧PySem.W.kitOne K t (.type n)=some b∧Q (.bl b) H
theorem zeZ (hK:X.K=K):zbb X (.builtin "isinstance") (zmw K):=by subst hK; exact zbc
theorem zak {es:List Expr} {k:Nat} {t:TGs} {n:Nat} {pos:Pos} (hK:X.K=K) (hc:X.calm=true) (h:PGs X es t)
  (hn:(assignEach es X.env).length=n:=by rfl) (hst:(assignEach es X.env).findIdx? (·.1)=none:=by rfl):PG X (.Tuple es k pos) (zhv K n t):=by subst hK; exact za0 hc h hn hst
theorem zle {o e:Expr} {es:List Expr} {to:TE} {t:TA} {name:Str} {apos cpos:Pos} {T id:String} {r:V→List V→Hp→VK→Prop} (hK:X.K=K) (pa:PlainAttrs T) (slot:Slot T name id) (hty:typeOf (.builtin id)=pure (.type "method_descriptor")) (hm:MtR X id r) (ho:PE X o to) (ha:PA X (e :: es) t)
  (hbase:attributeBase o name X.env (eval o X.env)=eval o X.env:=by rfl)
  (hfew:((backTo cpos (starEach (e :: es) X.env)).all (fun x=>!x.1) && (backToKw cpos (keywordEach [] X.env)).all (fun x=>x.1.isSome)
   && decide ((e :: es).length+([]:List Keyword).length+(if ([]:List Keyword).isEmpty then 0 else 1) < 30))=true:=by rfl)
  (hline:(apos.endLine == cpos.line)=true:=by rfl) (hs:starEach (e :: es) X.env=(false,eval e X.env) :: starEach es X.env:=by rfl) (hplain:(backTo cpos (starEach es X.env)).any (·.1)=false:=by rfl) :
  PE X (.Call (.Attribute o name apos) (e :: es) [] cpos) (tBM K T r to t):=by subst hK; exact zbF pa slot hty hm ho ha hbase hfew hline hs hplain
end
end L2
namespace L2
end L2
end
section
namespace My
def Cg (p a b:Int):Prop:=∃ k,a=b+p*k
theorem Cg.refl (p a:Int):Cg p a a:=⟨0,by grind⟩
theorem Cg.symm {p a b:Int} (h:Cg p a b):Cg p b a:=by obtain⟨k,e⟩:=h; exact⟨-k,by grind⟩
theorem Cg.trans {p a b c:Int} (h:Cg p a b) (h':Cg p b c):Cg p a c:=by
 obtain⟨k,e⟩:=h; obtain⟨l,e'⟩:=h'; exact⟨k+l,by grind⟩
theorem Cg.add {p a b c d:Int} (h:Cg p a b) (h':Cg p c d):Cg p (a+c) (b+d):=by
 obtain⟨k,e⟩:=h; obtain⟨l,e'⟩:=h'; exact⟨k+l,by grind⟩
theorem Cg.sub {p a b c d:Int} (h:Cg p a b) (h':Cg p c d):Cg p (a - c) (b - d):=by
 obtain⟨k,e⟩:=h; obtain⟨l,e'⟩:=h'; exact⟨k - l,by grind⟩
theorem Cg.mul {p a b c d:Int} (h:Cg p a b) (h':Cg p c d):Cg p (a*c) (b*d):=by
 obtain⟨k,e⟩:=h; obtain⟨l,e'⟩:=h'
 exact⟨k*d+b*l+p*k*l,by subst e e'; grind⟩
theorem Cg.of_eq {p a b:Int} (h:a=b):Cg p a b:=h ▸ Cg.refl p a
theorem Cg.emod (p a:Int):Cg p (a % p) a:=⟨-(a / p),by have:=Int.emod_add_mul_ediv a p; grind⟩
theorem Cg.mod_eq {p a b:Int} (h:Cg p a b):a % p=b % p:=by
 obtain⟨k,e⟩:=h; rw [e,Int.add_mul_emod_self_left]
theorem Cg.of_mod {p a b:Int} (h:a % p=b % p):Cg p a b:=(Cg.emod p a).symm.trans (h ▸ Cg.emod p b)
theorem Cg.eq {p a b:Int} (h:Cg p a b) (ha:0≤a) (ha':a < p) (hb:0≤b) (hb':b < p):a=b:=by
 have:=h.mod_eq
 rwa [Int.emod_eq_of_lt ha ha',Int.emod_eq_of_lt hb hb'] at this
def zcH (p x:Int):List Int→Int
 | []=>0
 | c :: r=>(c+x*zcH p x r) % p
theorem zg8 {p x:Int} (hp:0 < p):∀ l,0≤zcH p x l
 | []=>Int.le_refl 0
 | _ :: _=>Int.emod_nonneg _ (by omega)
theorem zg9 {p x:Int} (hp:0 < p):∀ l,zcH p x l < p
 | []=>hp
 | _ :: _=>Int.emod_lt_of_pos _ hp
theorem zhG (p x c:Int) (r:List Int):Cg p (zcH p x (c :: r)) (c+x*zcH p x r):=Cg.emod _ _
def lv (p x:Int):Int→Int→List Int→Int
 | total,_,[]=>total
 | total,power,c :: r=>lv p x ((total+c*power) % p) (power*x % p) r
theorem zkH {p x:Int}:∀ (l:List Int) (total power:Int),Cg p (lv p x total power l) (total+power*zcH p x l)
 | [],total,power=>Cg.of_eq (by show total=total+power*0; grind)
 | c :: r,total,power=>by
  have h1:=zkH (p:=p) (x:=x) r ((total+c*power) % p) (power*x % p)
  refine h1.trans ?_
  have h2:Cg p ((total+c*power) % p+power*x % p*zcH p x r) (total+c*power+power*x*zcH p x r):=(Cg.emod p _).add ((Cg.emod p (power*x)).mul (Cg.refl p _))
  refine h2.trans ?_
  have h3:Cg p (total+power*(c+x*zcH p x r)) (total+power*zcH p x (c :: r)):=(Cg.refl p _).add ((Cg.refl p _).mul (zhG p x c r).symm)
  refine (Cg.of_eq ?_).trans h3
  grind
theorem ziK {p x:Int} (hp:0 < p):∀ (l:List Int) (total power:Int),0≤total→total < p→0≤lv p x total power l∧lv p x total power l < p
 | [],total,power,h1,h2=>⟨h1,h2⟩
 | c :: r,total,power,h1,h2=>ziK hp r _ _ (Int.emod_nonneg _ (by omega)) (Int.emod_lt_of_pos _ hp)
theorem zha {p x:Int} (hp:0 < p) (l:List Int):lv p x 0 1 l=zcH p x l:=by
 obtain⟨a,b⟩:=ziK (x:=x) hp l 0 1 (Int.le_refl _) hp
 exact ((zkH l 0 1).trans (Cg.of_eq (by grind))).eq a b (zg8 hp l) (zg9 hp l)
def zH:List Int:=[5,7,11,13,17,19,23,29,31,37,41,43,47,53,59,61,67,71,73,79,83,89,97]
def zcc (p:Int):Nat→Int→Int→Int→Int
 | 0,prod,_,_=>prod
 | n+1,prod,sq,left=>if 0 < left then zcc p n (if left % 2=1 then prod*sq % p else prod) (sq*sq % p) (left / 2) else prod
def inv (p h:Int):Int:=zcc p 7 1 (h % p) (p - 2)
def zmx:Bool:=zH.all fun p=>(List.range p.toNat).all fun h=>h == 0 || (inv p h*h) % p == 1
theorem zhH:zmx=true:=by decide +kernel
theorem zU {p:Int} (hp:p∈zH):5≤p∧p≤97:=by
 have:zH.all (fun p=>decide (5≤p∧p≤97))=true:=by decide +kernel
 have:=List.all_eq_true.mp this p hp
 simpa using this
theorem zgo {p h:Int} (hp:p∈zH) (h0:0 < h) (h1:h < p):Cg p (inv p h*h) 1:=by
 have e:=List.all_eq_true.mp (List.all_eq_true.mp zhH p hp) h.toNat (List.mem_range.mpr (by omega))
 have hh:((h.toNat:Nat):Int)=h:=by omega
 have:h.toNat≠0:=by omega
 simp only [Bool.or_eq_true,beq_iff_eq,hh,this,false_or] at e
 have hr:=zU hp
 exact Cg.of_mod (by rw [e,Int.emod_eq_of_lt (by omega) (by omega)])
def trF (p r:Int) (high low:Int):Int:=(high - r*low) % p
def zcI (p r:Int) (v:List Int):List Int:=List.zipWith (trF p r) (0 :: v) (v++[0])
theorem zcd (p r:Int) (v:List Int):(zcI p r v).length=v.length+1:=by simp [zcI]
theorem zdI {α β γ:Type} {f:α→β→γ}:∀ {as:List α} {bs:List β} {c:γ},c∈List.zipWith f as bs→∃ a b,c=f a b
 | [],_,c,h=>by simp at h
 | _ :: _,[],c,h=>by simp at h
 | a :: as,b :: bs,c,h=>by
  rcases List.mem_cons.mp h with e | e
  ·exact⟨a,b,e⟩
  ·exact zdI e
structure Pts (p:Int) (pts:List (Int×Int)):Prop where
 nd:(pts.map (·.1)).Nodup
 rg:∀ q∈pts,0≤q.1∧q.1 < p∧0≤q.2∧q.2 < p
end My
end
section
set_option maxHeartbeats 3999000
namespace My
open PySem L2 PyProof.Rows
section
variable {K:PySem.W.Frag}
theorem ziL {ns:List Int} {k:Int} (h0:0≤k) (h1:k < ns.length):∃ c:Int,ns[k.toNat]? = some c∧atI (ns.map V.int) k=some (.int c):=by
 have hlt:k.toNat < ns.length:=by omega
 have e:atI (ns.map V.int) ((k.toNat:Nat):Int)=some (.int ns[k.toNat]):=zL (by simp [List.getElem?_map,List.getElem?_eq_getElem hlt])
 have hk:((k.toNat:Nat):Int)=k:=by omega
 rw [hk] at e
 exact⟨ns[k.toNat],by simp,e⟩
theorem zdu {ns:List Int} {k:Int} (h0:0≤k) (h1:k < ns.length):∃ c:Int,atI (ns.map V.int) k=some (.int c):=let ⟨c,_,e⟩:=ziL h0 h1; ⟨c,e⟩
theorem zb {H:Hp} {a:Addr} {o:HO} (h:H a=none):zy H (upd H a o):=fun b u e=>by rw [zl (zp e h)]; exact e
theorem zS {H H':Hp} {a:Addr} {o:HO} (s:zy H H') (h:H a=none):zy H (upd H' a o):=fun b u e=>by rw [zl (zp e h)]; exact s b u e
theorem zaa {n:Nat} (h:n≤10000):n < sizeLine:=by rw [sizeLine_eq]; omega
def zhI (K:PySem.W.Frag):Sp:=fun vs H Q _=>∃ (a:Addr) (ns:List Int) (k:Int),vs = [.ref a,.int k]∧SqL K H a (ns.map V.int)∧ns.length≤63∧0≤k∧k≤1000∧∀ c:Int,Q (.int c) H
def ze0 (many:Nat) (base:Int) (ds:List Int):Prop:=ds.length=many∧∀ d∈ds,0≤d∧d < base
def zgp (K:PySem.W.Frag):Sp:=fun vs H Q _=>∃ (a:Addr) (ns:List Int) (k many base:Int),vs = [.ref a,.int k,.int many,.int base]∧SqL K H a (ns.map V.int)∧ns.length≤63∧0≤k∧k≤1000∧0≤many∧many≤1000∧0 < base∧base < 1073741824 ∧
 ∀ (l:Addr) (ds:List Int) (H':Hp),H l=none→zy H H'→ze0 many.toNat base ds→H' l=some (.lst (ds.map V.int))→Q (.ref l) H'
abbrev zjY:List V:=[.int 2147483647,.int 2147483629,.int 2147483587,.int 2147483579,.int 2147483563,.int 2147483549,.int 2147483543,.int 2147483497]
theorem zjZ {m:Int} (h0:0≤m) (h1:m < 8):∃ q:Int,atI zjY m=some (.int q)∧0 < q∧q < 2147483648:=by
 have:m=0∨m=1∨m=2∨m=3∨m=4∨m=5∨m=6∨m=7:=by omega
 rcases this with e | e | e | e | e | e | e | e <;> subst e <;> exact⟨_,rfl,by decide,by decide⟩
theorem zdJ (j:Int):∃ q:Int,atI zjY (j % 8)=some (.int q)∧0 < q∧q < 2147483648:=zjZ (Int.emod_nonneg _ (by decide)) (Int.emod_lt_of_pos _ (by decide))
theorem gY {i:Nat} {x:V} {σ:L2.St} {H:Hp} {A B:L2.St→Hp→Prop} (h:A (σ.set i (some x)) H):zaO i x σ H (fun σ2 H2=>zjU σ2 H2 fun b H3=>if b=true then A σ2 H3 else B σ2 H3):=by
 show (if true=true then A (σ.set i (some x)) H else B (σ.set i (some x)) H)
 rw [if_pos rfl]
 exact h
structure CodeOk (mk mn p k:Int) (pl:List Int):Prop where
 pr:p∈zH
 k1:1≤k
 kk:k≤mk
 kl:k≤pl.length
 ln:(pl.length:Int)≤mn
 nd:pl.Nodup
 rg:∀ x∈pl,0≤x∧x < p
def zhJ (K:PySem.W.Frag):Sp:=fun vs H Q _=>∃ (a:Addr) (ns:List Int) (at' mk mn:Int),vs = [.ref a,.int at',.int mk,.int mn]∧SqL K H a (ns.map V.int)∧ns.length≤63∧0≤at'∧at'≤1000∧1≤mk∧mk≤5∧mk≤mn∧mn≤16 ∧
 ∀ (c tt:Addr) (p k:Int) (pl:List Int) (H':Hp),H c=none→zy H H'→CodeOk mk mn p k pl→H' c=some (.tup [.int p,.int k,.ref tt])→H' tt=some (.tup (pl.map V.int))→Q (.ref c) H'
theorem zlf {x y m:Int} (h0:0≤m) (h1:m < 2):∃ z:Int,atI [V.int x,V.int y] m=some (.int z)∧(z=x∨z=y):=by
 have:m=0∨m=1:=by omega
 rcases this with e | e <;> subst e
 ·exact⟨x,rfl,.inl rfl⟩
 ·exact⟨y,rfl,.inr rfl⟩
theorem ziM {ns:List Int} {k:Int} (h0:0≤k) (h1:k < ns.length):∃ c:Int,c∈ns∧atI (ns.map V.int) k=some (.int c):=by
 obtain⟨c,e,h⟩:=ziL h0 h1
 exact⟨c,List.mem_of_getElem? e,h⟩
theorem zez {α β:Type} (f:α→β):∀ (l:List α) (k:Nat),(l.map f).eraseIdx k=(l.eraseIdx k).map f
 | [],_=>rfl
 | _ :: _,0=>rfl
 | a :: l,k+1=>by show f a :: (l.map f).eraseIdx k=f a :: (l.eraseIdx k).map f; rw [zez f l k]
theorem zdK {α:Type}:∀ {l:List α} {k:Nat} {x:α},l[k]? = some x→(x :: l.eraseIdx k).Perm l
 | [],_,_,h=>by simp at h
 | a :: l,0,x,h=>by
  have e:a=x:=by simpa using h
  subst e
  exact List.Perm.refl _
 | a :: l,k+1,x,h=>by
  have ih:=zdK (l:=l) (k:=k) (x:=x) (by simpa using h)
  exact (List.Perm.swap a x _).trans (ih.cons a)
theorem zj0 {p:Int} {xs ls:List Int} {k:Nat} {x:Int} (h:ls[k]? = some x) (nd:(xs++ls).Nodup) (rg:∀ y∈xs++ls,0≤y∧y < p):((xs++[x])++ls.eraseIdx k).Nodup∧∀ y∈(xs++[x])++ls.eraseIdx k,0≤y∧y < p:=by
 have hp:((xs++[x])++ls.eraseIdx k).Perm (xs++ls):=by
  rw [List.append_assoc]
  exact (zdK h).append_left xs
 exact⟨hp.nodup_iff.mpr nd,fun y hy=>rg y (hp.mem_iff.mp hy)⟩
theorem zhK (p:Int):(zbz 0 p.toNat).Nodup∧∀ y∈zbz 0 p.toNat,0≤y∧y < p:=by
 unfold zbz
 constructor
 ·rw [List.nodup_iff_pairwise_ne,List.pairwise_map]
  exact (List.nodup_iff_pairwise_ne.mp (List.nodup_range (n:=p.toNat))).imp fun {a b} hab=>by omega
 ·intro y hy
  obtain⟨i,hi,e⟩:=List.mem_map.mp hy
  have:=List.mem_range.mp hi
  omega
def zfC (K:PySem.W.Frag):Sp:=fun vs H Q _=>∃ (p x:Int) (a:Addr) (cs:List Int),vs = [.int p,.ref a,.int x]∧(SqL K H a (cs.map V.int)∨SqT K H a (cs.map V.int))∧0 < p∧p≤97∧0≤x∧x < p∧Q (.int (zcH p x cs)) H
def zgq (K:PySem.W.Frag):Sp:=zfC K
theorem zal {cs:List Int} {j:Nat} {x:V} (h:(cs.map V.int)[j]? = some x):∃ c,x = .int c∧cs[j]? = some c:=by
 rw [List.getElem?_map] at h
 cases e:cs[j]? with
 | none=>rw [e] at h; cases h
 | some c=>rw [e] at h; exact⟨c,(Option.some.inj h).symm,rfl⟩
def zgr (K:PySem.W.Frag):Sp:=fun vs H Q _=>∃ i:Int,vs = [.int i]∧Q (.bl true) H
theorem zhb {p x total power c:Int} {cs:List Int} {i:Nat} (h:cs[i]? = some c):lv p x total power (cs.drop i)=lv p x ((total+c*power) % p) (power*x % p) (cs.drop (i+1)):=by
 obtain⟨hlt,e⟩:=List.getElem?_eq_some_iff.mp h
 rw [List.drop_eq_getElem_cons hlt,e]
 rfl
def zgs (K:PySem.W.Frag):Sp:=fun vs H Q _=>∃ (p h:Int),vs = [.int p,.int h]∧p∈zH∧0≤h∧h < p∧Q (.int (inv p h)) H
def zlg (σ:L2.St):Nat:=match (σ[4]?:Option (Option V)) with
 | some (some (V.int l))=>l.toNat
 | _=>0
theorem ze1 {p prod sq left:Int} {n:Nat} (h0:0 < left) (h1:left < 2 ^ (n+1)):zcc p (n+1) prod sq left=zcc p n (if left % 2=1 then prod*sq % p else prod) (sq*sq % p) (left / 2):=by
 show (if 0 < left then _ else _)=_
 rw [if_pos h0]
theorem zfD {p prod sq:Int}:∀ n,zcc p n prod sq 0=prod
 | 0=>rfl
 | n+1=>by show (if (0:Int) < 0 then _ else prod)=prod; rw [if_neg (by decide)]
theorem gY2 {K:PySem.W.Frag} {i j:Nat} {T:Addr} {x y:V} {σ:L2.St} {H:Hp} {A B:L2.St→Hp→Prop} (hT:SqT K H T [x,y]) (h:A ((σ.set i (some x)).set j (some y)) H) :
  zhv K 2 (zc3 (zaO i) (zc3 (zaO j) zim)) (.ref T) σ H (fun σ2 H2=>zjU σ2 H2 fun b H3=>if b=true then A σ2 H3 else B σ2 H3):=by
 refine⟨T,_,rfl,hT,rfl,x,_,rfl,y,_,rfl,rfl,?_⟩
 show (if true=true then A ((σ.set i (some x)).set j (some y)) H else B ((σ.set i (some x)).set j (some y)) H)
 rw [if_pos rfl]
 exact h
theorem zfE {f:Int→Int→Int} {as bs:List Int} {i:Nat} {x y:Int} (hx:as[i]? = some x) (hy:bs[i]? = some y):(List.zipWith f as bs).take (i+1)=(List.zipWith f as bs).take i++[f x y]:=by
 have e:(List.zipWith f as bs)[i]? = some (f x y):=by rw [List.getElem?_zipWith,hx,hy]
 rw [List.take_add_one,e,Option.toList]
theorem ziN (n:Nat):(List.replicate n [V.int 0]).flatten=(List.replicate n (0:Int)).map V.int:=by
 induction n with
 | zero=>rfl
 | succ n ih=>rw [List.replicate_succ,List.flatten_cons,ih,List.replicate_succ]; rfl
theorem zdv {n j:Nat} (h:j < n):ixN n (j:Int)=some j:=by
 unfold ixN
 rw [if_pos (by omega),if_pos (by omega)]
 rfl
theorem z9 {bs:List Addr} {i:Nat} {x:V} (h:(bs.map V.ref)[i]? = some x):∃ b,x = .ref b∧bs[i]? = some b:=by
 rw [List.getElem?_map] at h
 cases e:bs[i]? with
 | none=>rw [e] at h; cases h
 | some b=>rw [e] at h; exact⟨b,(Option.some.inj h).symm,rfl⟩
theorem take_snoc {α:Type} {l:List α} {i:Nat} {x:α} (h:l[i]? = some x):l.take (i+1)=l.take i++[x]:=by
 rw [List.take_add_one,h,Option.toList]
theorem ziO {f:Int→Int→Int} {as bs:List Int} {n:Nat} (h1:n≤as.length) (h2:n≤bs.length) (h3:as.length≤n∨bs.length≤n):(List.zipWith f as bs).length=n:=by
 rw [List.length_zipWith]
 omega
theorem zeA {a b:Addr} {as bs:List Int} {n:Nat} {f:Int→Int→Int} {g:TG} {ts:TT} {te:TE} {σ0:L2.St} {Q:VK} {H:Hp} (ha:H a=some (.lst (as.map V.int))) (hb:H b=some (.lst (bs.map V.int))) (h1:n≤as.length) (h2:n≤bs.length) (h3:as.length≤n∨bs.length≤n) (hn:n≤10000)
  (hs:∀ (i:Nat) (x y:Int) (H1:Hp) (T:Addr) (R:VK) (B:L2.St→Hp→Prop),as[i]? = some x→bs[i]? = some y→zy H H1→H1 T=none→R (.int (f x y)) (upd H1 T (.tup [.int x,.int y]))→g (.ref T) σ0 (upd H1 T (.tup [.int x,.int y])) fun σ2 H2=>ts σ2 H2 fun b H3=>if b=true then te σ2 H3 R else B σ2 H3)
  (hd:∀ D H1,zy H H1→H1 D=none→Q (.ref D) (upd H1 D (.lst ((List.zipWith f as bs).map V.int)))):cGo g ts te σ0 (zhE (SqL K) (SqL K) a b) Q H:=by
 have hl:=ziO (f:=f) h1 h2 h3
 refine zM (n:=n) (fun i ys H'=>ys=((List.zipWith f as bs).take i).map V.int∧zy H H') ⟨by simp,fun _ _ e=>e⟩ ?_ ?_ ?_ ?_
 ·rintro i ys H3 hi ⟨_,s3⟩
  obtain⟨x,hx⟩:∃ x,as[i]? = some x:=⟨as[i]'(by omega),by simp⟩
  obtain⟨y,hy⟩:∃ y,bs[i]? = some y:=⟨bs[i]'(by omega),by simp⟩
  exact⟨_,_,.int x,.int y,SqL.of (s3 _ _ ha),SqL.of (s3 _ _ hb),by rw [List.getElem?_map,hx]; rfl,by rw [List.getElem?_map,hy]; rfl⟩
 ·rintro ys H3 ⟨_,s3⟩
  exact⟨_,_,SqL.of (s3 _ _ ha),SqL.of (s3 _ _ hb),by rw [List.length_map,List.length_map]; exact h3⟩
 ·rintro i x ys H3 H4 hi ⟨rfl,s3⟩ ⟨T,u,v,hT,rfl,rfl,hu,hv⟩
  obtain⟨x,rfl,hx⟩:=zal (hu _ (SqL.of (s3 _ _ ha)))
  obtain⟨y,rfl,hy⟩:=zal (hv _ (SqL.of (s3 _ _ hb)))
  refine hs i x y H3 T _ _ hx hy s3 hT ⟨zaa ?_,?_,s3.trans (zb hT)⟩
  ·rw [List.length_map]
   exact Nat.le_trans (List.length_take_le _ _) (by omega)
  ·rw [zfE hx hy,List.map_append]
   rfl
 ·rintro ys H3 D ⟨rfl,s3⟩ hD
  rw [List.take_of_length_le (by omega)]
  exact hd D H3 s3 hD
theorem za2 {a:Addr} {xs fs:List V} {g:TG} {ts:TT} {te:TE} {σ0:L2.St} {Q:VK} {H:Hp} (ha:SqL K H a xs) (hl:fs.length=xs.length) (hn:xs.length≤10000)
  (hs:∀ (i:Nat) (x y:V) (R:VK) (B:L2.St→Hp→Prop),xs[i]? = some x→fs[i]? = some y→R y H→g x σ0 H fun σ2 H2=>ts σ2 H2 fun b H3=>if b=true then te σ2 H3 R else B σ2 H3)
  (hd:∀ D,H D=none→Q (.ref D) (upd H D (.lst fs))):cGo g ts te σ0 (Itl K a) Q H:=by
 refine zM (n:=xs.length) (fun i ys H'=>ys=fs.take i∧H'=H) ⟨by simp,rfl⟩ ?_ ?_ ?_ ?_
 ·rintro i ys H3 hi ⟨_,rfl⟩
  exact⟨_,xs[i],ha,by simp⟩
 ·rintro ys H3 ⟨_,rfl⟩
  exact⟨_,ha,Nat.le_refl _⟩
 ·rintro i x ys H3 H4 hi ⟨rfl,rfl⟩ ⟨rfl,hx⟩
  have hy:fs[i]? = some fs[i]:=by simp
  refine hs i x fs[i] _ _ (hx _ ha) hy ⟨zaa (Nat.le_trans (List.length_take_le _ _) (by omega)),?_,rfl⟩
  rw [take_snoc hy]
 ·rintro ys H3 D ⟨rfl,rfl⟩ hD
  rw [List.take_of_length_le (by omega)]
  exact hd D hD
theorem zeB {a:Addr} {xs fs:List V} {g:TG} {ts:TT} {te:TE} {σ0:L2.St} {Q:VK} {H:Hp} (ha:SqT K H a xs) (hl:fs.length=xs.length) (hn:xs.length≤10000)
  (hs:∀ (i:Nat) (x y:V) (R:VK) (B:L2.St→Hp→Prop),xs[i]? = some x→fs[i]? = some y→R y H→g x σ0 H fun σ2 H2=>ts σ2 H2 fun b H3=>if b=true then te σ2 H3 R else B σ2 H3)
  (hd:∀ D,H D=none→Q (.ref D) (upd H D (.lst fs))):cGo g ts te σ0 (Itt K a) Q H:=by
 refine zM (n:=xs.length) (fun i ys H'=>ys=fs.take i∧H'=H) ⟨by simp,rfl⟩ ?_ ?_ ?_ ?_
 ·rintro i ys H3 hi ⟨_,rfl⟩
  exact⟨_,xs[i],ha,by simp⟩
 ·rintro ys H3 ⟨_,rfl⟩
  exact⟨_,ha,Nat.le_refl _⟩
 ·rintro i x ys H3 H4 hi ⟨rfl,rfl⟩ ⟨rfl,hx⟩
  have hy:fs[i]? = some fs[i]:=by simp
  refine hs i x fs[i] _ _ (hx _ ha) hy ⟨zaa (Nat.le_trans (List.length_take_le _ _) (by omega)),?_,rfl⟩
  rw [take_snoc hy]
 ·rintro ys H3 D ⟨rfl,rfl⟩ hD
  rw [List.take_of_length_le (by omega)]
  exact hd D hD
theorem zfF (ds:List Int) (lo hi:Option Int):∃ ms:List Int,zco (ds.map V.int) lo hi=ms.map V.int∧ms.length≤ds.length:=by
 refine⟨(ds.drop (HT.sIx (ds.map V.int).length 0 lo)).take (HT.sIx (ds.map V.int).length (ds.map V.int).length hi - HT.sIx (ds.map V.int).length 0 lo),?_,?_⟩
 ·unfold zco; rw [List.map_take,List.map_drop]
 ·rw [List.length_take,List.length_drop]
  omega
theorem zfG {ms:List Int} {f:Int→V} {i:Nat} {x y:V} (hx:(ms.map V.int)[i]? = some x) (hy:(ms.map f)[i]? = some y):∃ c,ms[i]? = some c∧x = .int c∧y=f c:=by
 obtain⟨c,rfl,hc⟩:=zal hx
 rw [List.getElem?_map,hc] at hy
 exact⟨c,hc,rfl,(Option.some.inj hy).symm⟩
def ze2 (K:PySem.W.Frag):Sp:=fun vs H Q _=>∃ (a:Addr) (ns:List Int),vs = [.ref a]∧SqL K H a (ns.map V.int)∧ns.length≤63∧∀ H',Q (.bl true) H'
end
end My
end
section
set_option maxHeartbeats 3999000
namespace PySem
abbrev IsZ (h:Heap) (z TI TO:Addr) (f0 f1:Value):Prop:=h.get? z=some { cls:=.type "zip",dict:=none,data:=.fields #[f0,f1,.bool false,.ref TI,.ref TO],slots:=#[] }
def ZF (f0 f1:Value):Prop:=(f0 = .none∨∃ a t,f0 = .int a t)∧∃ b,f1 = .bool b
structure Zap (z TI TO i1 i2:Addr) (fp1 fp2:List Addr):Prop where
 zTI:TI≠z
 zTO:TO≠z
 z1:i1≠z
 z2:i2≠z
 TT:TI≠TO
 T1:TI≠i1
 T2:TI≠i2
 O1:TO≠i1
 O2:TO≠i2
 ii:i1≠i2
 a1:z∉fp1
 a2:TO∉fp1
 a3:i2∉fp1
 b1:z∉fp2
 b2:TO∉fp2
 b3:i1∉fp2
section
variable {prog:Program} {w:World} {A:Around} {E:Value→Shared→Prop} {s:Shared}
theorem zhL {a:Addr} {Q:Option Obj→Shared→Prop} (h:Q (s.heap.get? a) s):wpAny (model prog w) A (loadIfAlive a) Q E s:=fun _ _ _=>h
theorem ziP {z TI TO:Addr} {f0 f1:Value} {Q:Bool→Shared→Prop} (hz:IsZ s.heap z TI TO f0 f1) (hf:ZF f0 f1) (h1:Q true s)
  (h2:∀ h',IsZ h' z TI TO f0 (.bool true)→Heap.SameBut z s.heap h'→Q false { s with heap:=h' }):wpAny (model prog w) A (Builtin.SmallTypes.ownedTupleIsFree (.ref z)) Q E s:=by
 obtain⟨hf,b,rfl⟩:=hf
 unfold Builtin.SmallTypes.ownedTupleIsFree; rcases hf with rfl | ⟨a,t,rfl⟩
 ·exact wpAny_bind (wpAny_field hz rfl (x:=.none) rfl (wpAny_pure h1))
 ·refine wpAny_bind (wpAny_field hz rfl (x:=.int a t) rfl ?_)
  refine wpAny_bind (zhL ?_)
  cases s.heap.get? a.toNat with
  | none=>exact wpAny_pure h1
  | some o =>
   refine wpAny_bind (wpAny_field hz rfl (x:=.bool b) rfl ?_)
   cases b with
   | true=>exact wpAny_pure (h2 s.heap hz ⟨rfl,fun _ _=>rfl⟩)
   | false=>exact wpAny_bind (wpAny_setField_rec hz (by simp) fun h' a' b'=>wpAny_pure (h2 h' a' b'))
theorem zj1 {z TI TO i1 i2:Addr} {fp1 fp2:List Addr} {n1 n2 k1 k2:Nat} {P1 P2:Nat→Value→Prop} {S1 S2:Nat→Heap→Prop} {f0 f1 a b:Value} {Q:Value→Shared→Prop} (D1:Draws prog w A i1 fp1 n1 P1 S1) (D2:Draws prog w A i2 fp2 n2 P2 S2) (Z:Zap z TI TO i1 i2 fp1 fp2)
  (hz:IsZ s.heap z TI TO f0 f1) (hf:ZF f0 f1) (hTI:IsPair s.heap TI (.ref i1) (.ref i2)) (hTO:IsPair s.heap TO a b) (st1:S1 k1 s.heap) (st2:S2 k2 s.heap) (l1:k1 < n1) (l2:k2 < n2)
  (hQ:∀ x y h' tk g0 g1 a' b',P1 k1 x→P2 k2 y→IsZ h' z TI TO g0 g1→ZF g0 g1→IsPair h' TI (.ref i1) (.ref i2)→IsPair h' TO a' b'→S1 (k1+1) h'→S2 (k2+1) h'→IsPair h' s.heap.objs.size x y→h'.objs.size=s.heap.objs.size+1 →
   (∀ c o,c≠z→c≠TO→c≠i1→c≠i2→s.heap.get? c=some o→h'.get? c=some o)→Q (.ref s.heap.objs.size) { s with heap:=h',toks:=tk }):wpAny (model prog w) A (Builtin.«zip.__next__» ⟨[.ref z],[]⟩) (fun fin s'=>∃ v,fin = .done (.ret v)∧Q v s') E s:=by
 obtain⟨hp,g,d,tk0,os⟩:=s
 show wpAny _ _ (field (.ref z) 2 >>= _) _ _ _; refine wpAny_bind (wpAny_field hz rfl (x:=.bool false) rfl ?_); show wpAny _ _ (field (.ref z) 3 >>= _) _ _ _
 refine wpAny_bind (wpAny_field hz rfl (x:=.ref TI) rfl ?_); refine wpAny_bind (wpAny_seqItems hTI rfl ?_)
 show wpAny _ _ (Builtin.SmallTypes.ownedTupleIsFree (.ref z) >>= _) _ _ _; refine wpAny_bind (ziP hz hf ?_ fun h0 hz0 hs0=>?_)
 ·simp only [if_true]
  refine wpAny_bind (wpAny_rule (wpAny_bind (wpAny_field hz rfl (x:=.ref TO) rfl ?_)))
  refine wpAny_bind (wpAny_setField_rec hz (by simp) fun ha hza hsa=>?_)
  replace hza:IsZ ha z TI TO .ellipsis f1:=hza
  replace hsa:Heap.SameBut z hp ha:=hsa
  refine wpAny_bind ?_
  simp only [List.zipIdx_cons,List.zipIdx_nil,List.forIn_cons,List.forIn_nil]; refine wpAny_bind (wpAny_bind (wpAny_onRaise ?_)); show wpAny _ _ (Builtin.SmallTypes.nextOf (.ref i1) >>= _) _ _ _
  refine wpAny_bind (D1.item k1 _ _ _ l1 (D1.frame _ _ _ st1 fun c hc o e=>hsa.extBut c o (fun q=>Z.a1 (q ▸ hc)) e) fun x hb tkb px stb hsb=>wpAny_pure ?_)
  replace hsb:Heap.SameBut i1 ha hb:=hsb
  have hTOb:IsPair hb TO a b:=hsb.extBut _ _ Z.O1 (hsa.extBut _ _ Z.zTO hTO)
  refine wpAny_bind (wpAny_seqItems hTOb rfl (wpAny_bind (wpAny_updateSeq_pair hTOb fun hc hTOc hsc=>?_)))
  replace hTOc:IsPair hc TO x b:=hTOc
  replace hsc:Heap.SameBut TO hb hc:=hsc
  refine wpAny_bind (wpAny_letGo (wpAny_pure (wpAny_bind (wpAny_bind (wpAny_onRaise ?_))))); show wpAny _ _ (Builtin.SmallTypes.nextOf (.ref i2) >>= _) _ _ _
  refine wpAny_bind (D2.item k2 _ _ _ l2 (D2.frame _ _ _ st2 fun c hcf o e=>hsc.extBut c o (fun q=>Z.b2 (q ▸ hcf)) (hsb.extBut c o (fun q=>Z.b3 (q ▸ hcf)) (hsa.extBut c o (fun q=>Z.b1 (q ▸ hcf)) e))) fun y hd tkd py std hsd=>wpAny_pure ?_)
  replace hsd:Heap.SameBut i2 hc hd:=hsd
  have hTOd:IsPair hd TO x b:=hsd.extBut _ _ Z.O2 hTOc
  refine wpAny_bind (wpAny_seqItems hTOd rfl (wpAny_bind (wpAny_updateSeq_pair hTOd fun he hTOe hse=>?_)))
  replace hTOe:IsPair he TO x y:=hTOe
  replace hse:Heap.SameBut TO hd he:=hse
  refine wpAny_bind (wpAny_letGo (wpAny_pure (wpAny_pure ?_))); refine wpAny_bind (wpAny_seqItems hTOe rfl (wpAny_bind (wpAny_newTuple ?_)))
  have hsz:he.objs.size=hp.objs.size:=by rw [hse.1,hsd.1,hsc.1,hsb.1,hsa.1]
  have hze:IsZ he z TI TO .ellipsis f1:=hse.extBut _ _ Z.zTO.symm (hsd.extBut _ _ Z.z2.symm (hsc.extBut _ _ Z.zTO.symm (hsb.extBut _ _ Z.z1.symm hza)))
  have kk:∀ c o,c≠z→c≠TO→c≠i1→c≠i2→hp.get? c=some o→he.get? c=some o:=fun c o c1 c2 c3 c4 e=>hse.extBut _ _ c2 (hsd.extBut _ _ c4 (hsc.extBut _ _ c2 (hsb.extBut _ _ c3 (hsa.extBut _ _ c1 e))))
  have st1e:S1 (k1+1) he:=D1.frame _ _ _ stb fun c hcf o e=>hse.extBut c o (fun q=>Z.a2 (q ▸ hcf)) (hsd.extBut c o (fun q=>Z.a3 (q ▸ hcf)) (hsc.extBut c o (fun q=>Z.a2 (q ▸ hcf)) e))
  have st2e:S2 (k2+1) he:=D2.frame _ _ _ std fun c hcf o e=>hse.extBut c o (fun q=>Z.b2 (q ▸ hcf)) e
  have zlt:z < he.objs.size:=Heap.lt_size hze
  show wpAny _ _ (Builtin.SmallTypes.ownedTupleHandOut (.ref z) (.ref he.objs.size) >>= _) _ _ _
  refine wpAny_bind ?_
  unfold Builtin.SmallTypes.ownedTupleHandOut; have hzf:IsZ (he.push { cls:=.type "tuple",data:=.seq #[x,y] }) z TI TO .ellipsis f1:=Heap.get?_push_of_some _ hze
  refine wpAny_bind (wpAny_setField_rec hzf (by simp) fun h7 hz7 hs7=>?_)
  replace hz7:IsZ h7 z TI TO (rawInt he.objs.size) f1:=hz7
  refine wpAny_setField_rec hz7 (by simp) fun h8 hz8 hs8=>wpAny_pure ⟨_,rfl,?_⟩
  replace hz8:IsZ h8 z TI TO (rawInt he.objs.size) (.bool false):=hz8
  have up:∀ c o,c≠z→he.get? c=some o→h8.get? c=some o:=fun c o c1 e=>hs8.extBut _ _ c1 (hs7.extBut _ _ c1 (Heap.get?_push_of_some _ e))
  have hT8:IsPair h8 he.objs.size x y:=hs8.extBut _ _ (Nat.ne_of_gt zlt) (hs7.extBut _ _ (Nat.ne_of_gt zlt) (Heap.get?_push_size _ rfl))
  have hs8':h8.objs.size=he.objs.size+1:=by rw [hs8.1,hs7.1,Heap.size_push]
  show Q (.ref he.objs.size) _
  rw [hsz] at hz8 hT8 hs8' ⊢
  exact hQ x y h8 tkd _ _ _ _ px py hz8 ⟨.inr ⟨_,_,rfl⟩,_,rfl⟩ (up _ _ Z.zTI (kk _ _ Z.zTI Z.TT Z.T1 Z.T2 hTI)) (up _ _ Z.zTO hTOe) (D1.frame _ _ _ st1e fun c hcf o e=>up c o (fun q=>Z.a1 (q ▸ hcf)) e) (D2.frame _ _ _ st2e fun c hcf o e=>up c o (fun q=>Z.b1 (q ▸ hcf)) e) hT8 hs8' fun c o c1 c2 c3 c4 e=>up c o c1 (kk c o c1 c2 c3 c4 e)
 ·simp only [Bool.false_eq_true,if_false]; replace hs0:Heap.SameBut z hp h0:=hs0
  rw [show (#[Value.ref i1,Value.ref i2]:Array Value) = [Value.ref i1,Value.ref i2].toArray from rfl]
  simp only [List.forIn_toArray,List.forIn_cons,List.forIn_nil]
  refine wpAny_bind (wpAny_bind (wpAny_bind (wpAny_holding ?_))); show wpAny _ _ (Builtin.SmallTypes.nextOf (.ref i1) >>= _) _ _ _
  refine wpAny_bind (D1.item k1 _ _ _ l1 (D1.frame _ _ _ st1 fun c hc o e=>hs0.extBut c o (fun q=>Z.a1 (q ▸ hc)) e) fun x hb tkb px stb hsb=>wpAny_pure (wpAny_pure ?_))
  replace hsb:Heap.SameBut i1 h0 hb:=hsb
  refine wpAny_bind (wpAny_bind (wpAny_holding ?_)); show wpAny _ _ (Builtin.SmallTypes.nextOf (.ref i2) >>= _) _ _ _
  refine wpAny_bind (D2.item k2 _ _ _ l2 (D2.frame _ _ _ st2 fun c hcf o e=>hsb.extBut c o (fun q=>Z.b3 (q ▸ hcf)) (hs0.extBut c o (fun q=>Z.b1 (q ▸ hcf)) e)) fun y hd tkd py std hsd=>wpAny_pure (wpAny_pure (wpAny_pure ?_)))
  replace hsd:Heap.SameBut i2 hb hd:=hsd
  show wpAny _ _ (newTuple [x,y] >>= _) _ _ _
  refine wpAny_bind (wpAny_newTuple (wpAny_pure ⟨_,rfl,?_⟩))
  have hsz:hd.objs.size=hp.objs.size:=by rw [hsd.1,hsb.1,hs0.1]
  have kk:∀ c o,c≠z→c≠TO→c≠i1→c≠i2→hp.get? c=some o→hd.get? c=some o:=fun c o c1 c2 c3 c4 e=>hsd.extBut _ _ c4 (hsb.extBut _ _ c3 (hs0.extBut _ _ c1 e))
  have hzd:IsZ hd z TI TO f0 (.bool true):=hsd.extBut _ _ Z.z2.symm (hsb.extBut _ _ Z.z1.symm hz0)
  have hTOd:IsPair hd TO a b:=hsd.extBut _ _ Z.O2 (hsb.extBut _ _ Z.O1 (hs0.extBut _ _ Z.zTO hTO))
  have st1d:S1 (k1+1) hd:=D1.frame _ _ _ stb fun c hcf o e=>hsd.extBut c o (fun q=>Z.a3 (q ▸ hcf)) e
  have up:∀ c o,hd.get? c=some o→(hd.push { cls:=.type "tuple",data:=.seq #[x,y] }).get? c=some o:=fun c o e=>Heap.get?_push_of_some _ e
  have hT8:IsPair (hd.push { cls:=.type "tuple",data:=.seq #[x,y] }) hd.objs.size x y:=Heap.get?_push_size _ rfl
  have hs8':(hd.push { cls:=.type "tuple",data:=.seq #[x,y] }).objs.size=hd.objs.size+1:=Heap.size_push ..
  show Q (.ref hd.objs.size) _
  rw [hsz] at hT8 hs8' ⊢
  exact hQ x y _ tkd _ _ _ _ px py (up _ _ hzd) ⟨hf.1,_,rfl⟩ (up _ _ (kk _ _ Z.zTI Z.TT Z.T1 Z.T2 hTI)) (up _ _ hTOd) (D1.frame _ _ _ st1d fun c _ o e=>up c o e) (D2.frame _ _ _ std fun c _ o e=>up c o e) hT8 hs8' fun c o c1 c2 c3 c4 e=>up c o (kk c o c1 c2 c3 c4 e)
theorem zlh {z TI TO i1 i2:Addr} {fp1 fp2:List Addr} {n1 n2 k1 k2:Nat} {P1 P2:Nat→Value→Prop} {S1 S2:Nat→Heap→Prop} {f0 f1 a b:Value} {Q:Fin→Shared→Prop} (D1:Draws prog w A i1 fp1 n1 P1 S1) (D2:Draws prog w A i2 fp2 n2 P2 S2) (Z:Zap z TI TO i1 i2 fp1 fp2)
  (hz:IsZ s.heap z TI TO f0 f1) (hf:ZF f0 f1) (hTI:IsPair s.heap TI (.ref i1) (.ref i2)) (hTO:IsPair s.heap TO a b) (st1:S1 k1 s.heap) (st2:S2 k2 s.heap) (l1:k1=n1∨(k1 < n1∧k2=n2))
  (hE:∀ h' tk e,(∀ c o,c≠z→c≠TO→c≠i1→c≠i2→s.heap.get? c=some o→h'.get? c=some o)→(∃ o,h'.get? e=some o∧o.cls = .type "StopIteration")→E (.ref e) { s with heap:=h',toks:=tk }):wpAny (model prog w) A (Builtin.«zip.__next__» ⟨[.ref z],[]⟩) Q E s:=by
 obtain⟨hp,g,d,tk0,os⟩:=s
 have nz:∀ {h:Heap} {e:Addr} {o:Obj} {x y:Value},IsZ h z TI TO x y→h.get? e=some o→o.cls = .type "StopIteration"→e≠z:=fun h1 h2 h3 q=>by subst q; rw [h1] at h2; cases h2; simp at h3
 show wpAny _ _ (field (.ref z) 2 >>= _) _ _ _; refine wpAny_bind (wpAny_field hz rfl (x:=.bool false) rfl ?_); show wpAny _ _ (field (.ref z) 3 >>= _) _ _ _
 refine wpAny_bind (wpAny_field hz rfl (x:=.ref TI) rfl ?_); refine wpAny_bind (wpAny_seqItems hTI rfl ?_)
 show wpAny _ _ (Builtin.SmallTypes.ownedTupleIsFree (.ref z) >>= _) _ _ _; refine wpAny_bind (ziP hz hf ?_ fun h0 hz0 hs0=>?_)
 ·simp only [if_true]
  refine wpAny_bind (wpAny_rule (wpAny_bind (wpAny_field hz rfl (x:=.ref TO) rfl ?_)))
  refine wpAny_bind (wpAny_setField_rec hz (by simp) fun ha hza hsa=>?_)
  replace hza:IsZ ha z TI TO .ellipsis f1:=hza
  replace hsa:Heap.SameBut z hp ha:=hsa
  refine wpAny_bind ?_
  simp only [List.zipIdx_cons,List.zipIdx_nil,List.forIn_cons,List.forIn_nil]; refine wpAny_bind (wpAny_bind (wpAny_onRaise ?_)); show wpAny _ _ (Builtin.SmallTypes.nextOf (.ref i1) >>= _) _ _ _
  have st1a:S1 k1 ha:=D1.frame _ _ _ st1 fun c hc o e=>hsa.extBut c o (fun q=>Z.a1 (q ▸ hc)) e
  rcases l1 with rfl | ⟨l1,rfl⟩
  ·refine wpAny_bind (D1.done _ _ _ st1a fun hb e hsb ⟨oe,hoe,hce⟩=>?_)
   have hzb:IsZ hb z TI TO .ellipsis f1:=hsb _ _ Z.z1.symm hza
   exact wpAny_setField_rec hzb (by simp) fun h3 _ hs3=>hE h3 tk0 e (fun c o c1 _ c3 _ x=>hs3.extBut _ _ c1 (hsb _ _ c3 (hsa.extBut _ _ c1 x))) ⟨oe,hs3.extBut _ _ (nz hzb hoe hce) hoe,hce⟩
  ·refine wpAny_bind (D1.item k1 _ _ _ l1 st1a fun x hb tkb px stb hsb=>wpAny_pure ?_)
   replace hsb:Heap.SameBut i1 ha hb:=hsb
   have hTOb:IsPair hb TO a b:=hsb.extBut _ _ Z.O1 (hsa.extBut _ _ Z.zTO hTO)
   refine wpAny_bind (wpAny_seqItems hTOb rfl (wpAny_bind (wpAny_updateSeq_pair hTOb fun hc hTOc hsc=>?_)))
   replace hsc:Heap.SameBut TO hb hc:=hsc
   refine wpAny_bind (wpAny_letGo (wpAny_pure (wpAny_bind (wpAny_bind (wpAny_onRaise ?_))))); show wpAny _ _ (Builtin.SmallTypes.nextOf (.ref i2) >>= _) _ _ _
   refine wpAny_bind (D2.done _ _ _ (D2.frame _ _ _ st2 fun c hcf o e=>hsc.extBut c o (fun q=>Z.b2 (q ▸ hcf)) (hsb.extBut c o (fun q=>Z.b3 (q ▸ hcf)) (hsa.extBut c o (fun q=>Z.b1 (q ▸ hcf)) e))) fun hd e hsd ⟨oe,hoe,hce⟩=>?_)
   have hzd:IsZ hd z TI TO .ellipsis f1:=hsd _ _ Z.z2.symm (hsc.extBut _ _ Z.zTO.symm (hsb.extBut _ _ Z.z1.symm hza))
   exact wpAny_setField_rec hzd (by simp) fun h3 _ hs3=>hE h3 tkb e (fun c o c1 c2 c3 c4 x=>hs3.extBut _ _ c1 (hsd _ _ c4 (hsc.extBut _ _ c2 (hsb.extBut _ _ c3 (hsa.extBut _ _ c1 x))))) ⟨oe,hs3.extBut _ _ (nz hzd hoe hce) hoe,hce⟩
 ·simp only [Bool.false_eq_true,if_false]; replace hs0:Heap.SameBut z hp h0:=hs0
  rw [show (#[Value.ref i1,Value.ref i2]:Array Value) = [Value.ref i1,Value.ref i2].toArray from rfl]
  simp only [List.forIn_toArray,List.forIn_cons,List.forIn_nil]
  refine wpAny_bind (wpAny_bind (wpAny_bind (wpAny_holding ?_))); show wpAny _ _ (Builtin.SmallTypes.nextOf (.ref i1) >>= _) _ _ _
  have st1a:S1 k1 h0:=D1.frame _ _ _ st1 fun c hc o e=>hs0.extBut c o (fun q=>Z.a1 (q ▸ hc)) e
  rcases l1 with rfl | ⟨l1,rfl⟩
  ·exact wpAny_bind (D1.done _ _ _ st1a fun hb e hsb he=>hE hb tk0 e (fun c o c1 _ c3 _ x=>hsb _ _ c3 (hs0.extBut _ _ c1 x)) he)
  ·refine wpAny_bind (D1.item k1 _ _ _ l1 st1a fun x hb tkb px stb hsb=>wpAny_pure (wpAny_pure ?_))
   replace hsb:Heap.SameBut i1 h0 hb:=hsb
   refine wpAny_bind (wpAny_bind (wpAny_holding ?_)); show wpAny _ _ (Builtin.SmallTypes.nextOf (.ref i2) >>= _) _ _ _
   exact wpAny_bind (D2.done _ _ _ (D2.frame _ _ _ st2 fun c hcf o e=>hsb.extBut c o (fun q=>Z.b3 (q ▸ hcf)) (hs0.extBut c o (fun q=>Z.b1 (q ▸ hcf)) e)) fun hd e hsd he=>hE hd tkb e (fun c o c1 _ c3 c4 x=>hsd _ _ c4 (hsb.extBut _ _ c3 (hs0.extBut _ _ c1 x))) he)
end
end PySem
namespace PySem
def zkI (l:Addr):Obj:={ cls:=.type "list_iterator",data:=.fields #[.ref l,.int 0 0] }
def ze3 (x y:Value):Obj:={ cls:=.type "tuple",data:=.seq #[x,y] }
def zl1 (a b:Addr):Obj:={ cls:=.type "zip",data:=.fields #[.none,.bool false,.bool false,.ref a,.ref b] }
abbrev zt2 (h:Heap) (l1 l2:Addr):Heap:=(h.push (zbj l1)).push (zkI l2)
abbrev zt4 (h:Heap) (l1 l2:Addr):Heap:=((zt2 h l1 l2).push (ze3 (.ref h.objs.size) (.ref (h.push (zbj l1)).objs.size))).push (ze3 .none .none)
abbrev zt5 (h:Heap) (l1 l2:Addr):Heap:=(zt4 h l1 l2).push (zl1 (zt2 h l1 l2).objs.size ((zt2 h l1 l2).push (ze3 (.ref h.objs.size) (.ref (h.push (zbj l1)).objs.size))).objs.size)
theorem zfH (l1 l2:Addr) (xs ys:Array Value):Meets (Builtin.«zip.__new__» ⟨[.type "zip",.ref l1,.ref l2],[]⟩) (fun _ R s=>s.heap.IsTuple l1 xs∧s.heap.IsList l2 ys∧R (.ok (.ret (.ref (zt4 s.heap l1 l2).objs.size))) { s with heap:=zt5 s.heap l1 l2 }) :=
 .of_wp fun prog w A R s h=>by
  obtain⟨hp,g,d,tk,os⟩:=s; obtain⟨hl1,hl2,h⟩:=h; have hsub:=sub_zip
  have hL1:Heap.IsTuple (Shared.heap ⟨hp,g,d,tk,os⟩) l1 xs:=hl1
  have hL2:Heap.IsList (Shared.heap ⟨hp.push { cls:=.type "tuple_iterator",data:=.fields #[.ref l1,.int 0 0] },g,d,tk,os⟩) l2 ys:=Heap.IsList.push hl2 _
  wp_walk using wpAny_pyIter_tuple hL1,wpAny_pyIter_list hL2
  exact⟨_,rfl,h⟩
section
variable {prog:Program} {w:World} {A:Around} {E:Value→Shared→Prop} {s:Shared}
theorem zgt {l1 l2:Addr} {xs ys:Array Value} {Q:Value→Shared→Prop} (hl1:s.heap.IsTuple l1 xs) (hl2:s.heap.IsList l2 ys)
  (h:∀ h' n,n=s.heap.objs.size→IsZ h' (n+4) (n+2) (n+3) .none (.bool false)→IsPair h' (n+2) (.ref n) (.ref (n+1))→IsPair h' (n+3) .none .none→h'.IsTupleIter n l1 0→h'.IsListIter (n+1) l2 0→h'.objs.size=n+5 →
   (∀ c o,s.heap.get? c=some o→h'.get? c=some o)→Q (.ref (n+4)) { s with heap:=h' }):wpAny (model prog w) A (call (.type "zip") [.ref l1,.ref l2]) Q E s:=by
 refine callType_new F.called_zip (by decide) (F.typeCall_zip_2 _ _) (F.newCall_zip_2 _ _) (fun obj=>F.args_object_init_3 obj _ _) F.entry_zip_new (zfH l1 l2 xs ys) ⟨hl1,hl2,?_⟩
 have z1:(s.heap.push (zbj l1)).objs.size=s.heap.objs.size+1:=Heap.size_push ..
 have z2:(zt2 s.heap l1 l2).objs.size=s.heap.objs.size+2:=by rw [Heap.size_push,z1]
 have z3:((zt2 s.heap l1 l2).push (ze3 (.ref s.heap.objs.size) (.ref (s.heap.push (zbj l1)).objs.size))).objs.size=s.heap.objs.size+3:=by rw [Heap.size_push,z2]
 have z4:(zt4 s.heap l1 l2).objs.size=s.heap.objs.size+4:=by rw [Heap.size_push,z3]
 have g5:=Heap.get?_push_size (zt4 s.heap l1 l2) (o:=zl1 (zt2 s.heap l1 l2).objs.size ((zt2 s.heap l1 l2).push (ze3 (.ref s.heap.objs.size) (.ref (s.heap.push (zbj l1)).objs.size))).objs.size) rfl
 have g4:(zt5 s.heap l1 l2).get? _=some _:=Heap.get?_push_of_some _ (Heap.get?_push_size ((zt2 s.heap l1 l2).push (ze3 (.ref s.heap.objs.size) (.ref (s.heap.push (zbj l1)).objs.size))) (o:=ze3 .none .none) rfl)
 have g3:(zt5 s.heap l1 l2).get? _=some _:=Heap.get?_push_of_some _ (Heap.get?_push_of_some _ (Heap.get?_push_size (zt2 s.heap l1 l2) (o:=ze3 (.ref s.heap.objs.size) (.ref (s.heap.push (zbj l1)).objs.size)) rfl))
 have g2:(zt5 s.heap l1 l2).get? _=some _:=Heap.get?_push_of_some _ (Heap.get?_push_of_some _ (Heap.get?_push_of_some _ (Heap.get?_push_size (s.heap.push (zbj l1)) (o:=zkI l2) rfl)))
 have g1:(zt5 s.heap l1 l2).get? s.heap.objs.size=some (zbj l1):=Heap.get?_push_of_some _ (Heap.get?_push_of_some _ (Heap.get?_push_of_some _ (Heap.get?_push_of_some _ (Heap.get?_push_size _ rfl))))
 have z5:(zt5 s.heap l1 l2).objs.size=s.heap.objs.size+5:=by rw [Heap.size_push,z4]
 have k5:∀ c o,s.heap.get? c=some o→(zt5 s.heap l1 l2).get? c=some o:=fun c o x=>Heap.get?_push_of_some _ (Heap.get?_push_of_some _ (Heap.get?_push_of_some _ (Heap.get?_push_of_some _ (Heap.get?_push_of_some _ x))))
 show _∧_
 rw [z4] at g5 ⊢
 rw [z3] at g4
 rw [z2] at g3
 rw [z1] at g2
 refine⟨⟨_,g5,rfl⟩,h _ _ rfl ?_ ?_ g4 ⟨_,g1,rfl,rfl⟩ ⟨_,g2,rfl,rfl⟩ z5 k5⟩
 ·have:IsZ (zt5 s.heap l1 l2) (s.heap.objs.size+4) (zt2 s.heap l1 l2).objs.size ((zt2 s.heap l1 l2).push (ze3 (.ref s.heap.objs.size) (.ref (s.heap.push (zbj l1)).objs.size))).objs.size .none (.bool false):=g5
  rw [z2,z3] at this
  exact this
 ·have:IsPair (zt5 s.heap l1 l2) (s.heap.objs.size+2) (.ref s.heap.objs.size) (.ref (s.heap.push (zbj l1)).objs.size):=g3
  rw [z1] at this
  exact this
end
end PySem
end
section
set_option maxHeartbeats 3999000
namespace L2
open PySem PySem.Spec PyProof.Rows
theorem nq {x y:Nat} (h:x≠y):@Ne Addr x y:=h
theorem nl {x y:Nat} (h:x < y):@LT.lt Nat _ x y:=h
theorem nm2 {c x y:Nat} (h1:c≠x) (h2:c≠y):¬ @Membership.mem Addr (List Addr) _ [x,y] c:=fun h=>by
 rcases List.mem_cons.mp h with e | e
 ·exact h1 e
 ·exact h2 (List.mem_singleton.mp e)
theorem zdw {n a b:Nat} (ha:a < n) (hb:b < n):Zap (n+4) (n+2) (n+3) n (n+1) [n,a] [n+1,b] :=
 ⟨nq (by omega),nq (by omega),nq (by omega),nq (by omega),nq (by omega),nq (by omega),nq (by omega),nq (by omega),nq (by omega),nq (by omega),nm2 (by omega) (by omega),nm2 (by omega) (by omega),nm2 (by omega) (by omega),nm2 (by omega) (by omega),nm2 (by omega) (by omega),nm2 (by omega) (by omega)⟩
end L2
end
section
set_option maxHeartbeats 3999000
namespace L2
open PySem PySem.Spec PyProof.Rows
end L2
end
section
set_option maxHeartbeats 3999000
namespace My
open PySem L2 PyProof.Rows
section
variable {K:PySem.W.Frag}
def zb4 (H:Hp) (c tt:Addr) (p k:Int) (pl:List Int):Prop:=H c=some (.tup [.int p,.int k,.ref tt])∧H tt=some (.tup (pl.map V.int))
theorem zb4.same {H H':Hp} {c tt:Addr} {p k:Int} {pl:List Int} (s:zy H H') (h:zb4 H c tt p k pl):zb4 H' c tt p k pl:=⟨s _ _ h.1,s _ _ h.2⟩
def enc:Option Int→V
 | none=>.non
 | some i=>.int i
theorem ze4 {rw:List (Option Int)} {j:Nat} {x:V} (h:(rw.map enc)[j]? = some x):∃ o,x=enc o∧rw[j]? = some o:=by
 rw [List.getElem?_map] at h
 cases e:rw[j]? with
 | none=>rw [e] at h; cases h
 | some c=>rw [e] at h; exact⟨c,(Option.some.inj h).symm,rfl⟩
end
end My
end
section
set_option maxHeartbeats 3999000
namespace My
open PySem L2 PyProof.Rows
section
variable {K:PySem.W.Frag}
end
end My
end
section
set_option maxHeartbeats 3998000
namespace PySem
section
variable {prog:Program} {w:World} {A:Around} {E:Value→Shared→Prop} {s:Shared}
theorem zhc {z TI TO i1 i2:Addr} {fp1 fp2:List Addr} {n1 n2 k1 k2:Nat} {P1 P2:Nat→Value→Prop} {S1 S2:Nat→Heap→Prop} {f0 f1 a b:Value} {Q:Option Value→Shared→Prop} (D1:Draws prog w A.in1 i1 fp1 n1 P1 S1) (D2:Draws prog w A.in1 i2 fp2 n2 P2 S2) (Z:Zap z TI TO i1 i2 fp1 fp2)
  (hz:IsZ s.heap z TI TO f0 f1) (hf:ZF f0 f1) (hTI:IsPair s.heap TI (.ref i1) (.ref i2)) (hTO:IsPair s.heap TO a b) (st1:S1 k1 s.heap) (st2:S2 k2 s.heap) (l1:k1 < n1) (l2:k2 < n2)
  (hQ:∀ x y h' tk g0 g1 a' b',P1 k1 x→P2 k2 y→IsZ h' z TI TO g0 g1→ZF g0 g1→IsPair h' TI (.ref i1) (.ref i2)→IsPair h' TO a' b'→S1 (k1+1) h'→S2 (k2+1) h'→IsPair h' s.heap.objs.size x y→h'.objs.size=s.heap.objs.size+1 →
   (∀ c o,c≠z→c≠TO→c≠i1→c≠i2→s.heap.get? c=some o→h'.get? c=some o)→Q (some (.ref s.heap.objs.size)) { s with heap:=h',toks:=tk }):wpAny (model prog w) A (pyNext (.ref z)) Q E s:=by
 have hTz:s.TypeIs (.ref z) "zip":=⟨_,hz,rfl⟩
 unfold pyNext
 refine wpAny_bind (wpAny_attempt (wpAny_callSpecial?_slot (name:=Str.ofString "__next__") hTz F.slot_zip_next (wpAny_call_entry F.slot_zip_next hTz F.entry_zip_next ?_ (F.args_zip_next_1 _))))
 exact zj1 D1 D2 Z hz hf hTI hTO st1 st2 l1 l2 fun x y h1 tk g0 g1 a' b' px py hz1 hf1 hTI1 hTO1 st1' st2' hp1 hsz1 kk=>wpAny_pure (hQ x y h1 tk g0 g1 a' b' px py hz1 hf1 hTI1 hTO1 st1' st2' hp1 hsz1 kk)
theorem ziQ {z TI TO i1 i2:Addr} {fp1 fp2:List Addr} {n1 n2 k1 k2:Nat} {P1 P2:Nat→Value→Prop} {S1 S2:Nat→Heap→Prop} {f0 f1 a b:Value} {Q:Option Value→Shared→Prop} (D1:Draws prog w A.in1 i1 fp1 n1 P1 S1) (D2:Draws prog w A.in1 i2 fp2 n2 P2 S2) (Z:Zap z TI TO i1 i2 fp1 fp2)
  (hz:IsZ s.heap z TI TO f0 f1) (hf:ZF f0 f1) (hTI:IsPair s.heap TI (.ref i1) (.ref i2)) (hTO:IsPair s.heap TO a b) (st1:S1 k1 s.heap) (st2:S2 k2 s.heap) (l1:k1=n1∨(k1 < n1∧k2=n2))
  (hQ:∀ h' tk,(∀ c o,c≠z→c≠TO→c≠i1→c≠i2→s.heap.get? c=some o→h'.get? c=some o)→Q none { s with heap:=h',toks:=tk }):wpAny (model prog w) A (pyNext (.ref z)) Q E s:=by
 have hTz:s.TypeIs (.ref z) "zip":=⟨_,hz,rfl⟩
 unfold pyNext
 refine wpAny_bind (wpAny_attempt (wpAny_callSpecial?_slot (name:=Str.ofString "__next__") hTz F.slot_zip_next (wpAny_call_entry F.slot_zip_next hTz F.entry_zip_next ?_ (F.args_zip_next_1 _))))
 refine zlh D1 D2 Z hz hf hTI hTO st1 st2 l1 fun h' tk x kk ⟨o,ho,hc⟩=>?_
 exact wpAny_bind (wpAny_isInstance (T:="StopIteration") (b:=true) ⟨o,ho,hc⟩ isSubtype_stop (wpAny_pure (hQ h' tk kk)))
theorem ze5 {z TI TO:Addr} {f0 f1:Value} {Q:Value→Shared→Prop} (hz:IsZ s.heap z TI TO f0 f1) (h:Q (.ref z) s):wpAny (model prog w) A (pyIter (.ref z)) Q E s:=by
 have hT:s.TypeIs (.ref z) "zip":=⟨_,hz,rfl⟩; refine wpAny_pyIter_slot hT F.slot_zip_iter (wpAny_call_entry F.slot_zip_iter hT F.entry_zip_iter ?_ (F.args_zip_iter_1 _))
 show wpAny _ _ (ret (.ref z)) _ _ s; exact wpAny_pure ⟨_,rfl,"zip",_,hT,F.slot_zip_next.lookup,h⟩
theorem zl2 {elts:List Expr} {x1} {pos:Pos} {z TI TO T:Addr} {f0 f1:Value} {Q:Unit→Shared→Prop} (hz:IsZ s.heap z TI TO f0 f1) (hf:ZF f0 f1)
  (hQ:∀ h' g0,IsZ h' z TI TO g0 f1→ZF g0 f1→Heap.SameBut z s.heap h'→Q () { s with heap:=h' }):wpAny (model prog w) A (letOwnedTupleGo (.Tuple elts x1 pos) (.ref z) (.ref T)) Q E s:=by
 unfold letOwnedTupleGo; refine wpAny_bind (wpAny_load hz ?_)
 show wpAny _ _ (if _ then _ else _) Q E s
 split
 ·refine wpAny_bind (wpAny_rule ?_); show wpAny _ _ (setField (.ref z) 0 .none) Q E s
  exact wpAny_setField_rec hz (by simp) fun h' hz' hs'=>hQ h' .none hz' ⟨.inl rfl,hf.2⟩ hs'
 ·exact wpAny_pure (hQ s.heap f0 hz hf ⟨rfl,fun _ _=>rfl⟩)
end
end PySem
namespace L2
open PySem PySem.Spec PyProof.Rows
def zli (Sq1 Sq2:Hp→Addr→List V→Prop) (a b:Addr):It :=
 ⟨(zhE Sq1 Sq2 a b).go,(zhE Sq1 Sq2 a b).yld,fun i H=>∃ xs ys,Sq1 H a xs∧Sq2 H b ys∧(xs.length=i∨(i < xs.length∧ys.length=i))⟩
abbrev zbB (n:Nat):List Addr:=[n+4,n+2,n+3,n,n+1]
abbrev zl3 (n a b:Nat) (i:Nat) (h:Heap):Prop:=(∃ f0 f1,IsZ h (n+4) (n+2) (n+3) f0 f1∧ZF f0 f1)∧IsPair h (n+2) (.ref n) (.ref (n+1))∧(∃ u v,IsPair h (n+3) u v)∧h.IsTupleIter n a i∧h.IsListIter (n+1) b i
theorem ziR {P:Program} {w:World} {K:PySem.W.Frag} {es:List Expr} {k:Nat} {pos:Pos} (a b n:Nat) (ha:a < n) (hb:b < n):Turn P w K (.Tuple es k pos) (zli (SqT K) (SqL K) a b) (zbB n) (n+4) (zl3 n a b) where
 mem:=by simp
 obj:=fun i h st c hc=>by
  obtain⟨⟨f0,f1,h1,_⟩,h2,⟨u,v,h3⟩,⟨o4,e4,_,d4⟩,⟨o5,e5,_,d5⟩⟩:=st
  simp only [zbB,List.mem_cons,List.not_mem_nil,or_false] at hc
  rcases hc with z | z | z | z | z <;> subst z
  ·exact⟨_,h1,fun v z=>by cases z⟩
  ·exact⟨_,h2,fun v z=>by cases z⟩
  ·exact⟨_,h3,fun v z=>by cases z⟩
  ·exact⟨_,e4,fun v z=>by rw [d4] at z; cases z⟩
  ·exact⟨_,e5,fun v z=>by rw [d5] at z; cases z⟩
 keep:=fun i h h' st kk=>by
  obtain⟨⟨f0,f1,h1,hf⟩,h2,⟨u,v,h3⟩,h4,h5⟩:=st
  exact⟨⟨f0,f1,kk _ (by simp) _ h1,hf⟩,kk _ (by simp) _ h2,⟨u,v,kk _ (by simp) _ h3⟩,h4.at fun o eo=>kk _ (by simp) o eo,h5.at fun o eo=>kk _ (by simp) o eo⟩
 item:=by
  intro X hP hw hK hc i pins s σ H E I hf st hg
  subst hP hw hK
  obtain⟨xs,ys,x,y,hq1,hq2,hx,hy⟩:=hg
  obtain⟨⟨f0,f1,h1,hzf⟩,h2,⟨u0,v0,h3⟩,h4,h5⟩:=st
  obtain⟨its1,rv1,p1,hz1⟩:=I.tuple hq1
  obtain⟨its2,rv2,p2,hz2⟩:=I.list hq2
  obtain⟨u,hu,ru⟩:=rv1.get hx
  obtain⟨v,hv,rv⟩:=rv2.get hy
  have hes:n+4 < s.heap.objs.size:=Heap.lt_size h1
  have hh:X.A.in1.handled=none:=by simp [I.ok.hd hc]
  have hlt1:i < its1.toArray.size:=by have:=(List.getElem?_eq_some_iff.mp hu).1; simpa using this
  have hlt2:i < its2.toArray.size:=by have:=(List.getElem?_eq_some_iff.mp hv).1; simpa using this
  refine zhc (Draws.tuple hh n a (nq (by omega)) its1.toArray) (Draws.list hh (n+1) b (nq (by omega)) its2.toArray) (zdw ha hb) h1 hzf h2 h3 ⟨h4,(show s.heap.IsTuple a its1.toArray from p1)⟩ ⟨h5,p2.isList⟩ hlt1 hlt2
   fun x' y' h' tk g0 g1 a' b' px py ez ezf e2 e3 t4 t5 pp hsz kk=>?_
  have eu:x'=u:=by
   have e1:its1[i]? = some x':=by simpa using px
   rw [hu] at e1; exact (Option.some.inj e1).symm
  have ev:y'=v:=by
   have e1:its2[i]? = some y':=by simpa using py
   rw [hv] at e1; exact (Option.some.inj e1).symm
  subst eu ev
  have ch:∀ c∈[n+4,n+3,n,n+1],c∈zbB n:=fun c hc'=>by
   simp only [zbB,List.mem_cons,List.not_mem_nil,or_false] at hc' ⊢
   rcases hc' with z | z | z | z <;> subst z <;> simp
  have k1:∀ c o,c∉[n+4,n+3,n,n+1]→s.heap.get? c=some o→h'.get? c=some o:=fun c o hc' eo=>by
   simp only [List.mem_cons,List.not_mem_nil,or_false,not_or] at hc'
   exact kk c o hc'.1 hc'.2.1 hc'.2.2.1 hc'.2.2.2 eo
  have th1:∀ c∈[n+4,n+3,n,n+1],∃ o,h'.get? c=some o:=fun c hc'=>by
   simp only [List.mem_cons,List.not_mem_nil,or_false] at hc'
   rcases hc' with z | z | z | z <;> subst z
   ·exact⟨_,ez⟩
   ·exact⟨_,e3⟩
   ·obtain⟨o,e,_⟩:=t4.1; exact⟨o,e⟩
   ·obtain⟨o,e,_⟩:=t5.1; exact⟨o,e⟩
  have I1:Inv X pins σ (upd H s.heap.objs.size (.tup [x,y])) { s with heap:=h',toks:=tk } :=
   I.turnedNew k1 (fun c hc'=>hf c (ch c hc')) th1 (Nat.le_refl _) ⟨zaQ,_,.cons ru (.cons rv .nil),zbU pp⟩
  refine⟨_,rfl,zl2 (s:={ s with heap:=h',toks:=tk }) ez ezf fun h'' g2 hz'' hzf'' hs''=>?_⟩
  have fr:∀ c∈zbB n,upd H s.heap.objs.size (.tup [x,y]) c=none:=fun c hc'=>by
   have hlt:c < s.heap.objs.size:=by
    simp only [zbB,List.mem_cons,List.not_mem_nil,or_false] at hc'
    rcases hc' with z | z | z | z | z <;> subst z <;> exact nl (by omega)
   rw [zl (Nat.ne_of_lt hlt)]
   exact (hf c hc').1
  have I2:Inv X pins σ (upd H s.heap.objs.size (.tup [x,y])) { s with heap:=h'',toks:=tk } :=
   Inv.turnedL (s:={ s with heap:=h',toks:=tk }) (ch:=[n+4]) (t':=tk) I1 (fun c o hc' eo=>hs''.extBut c o (by simpa using hc') eo) (fun c hc'=>by
    have z:c=n+4:=by simpa using hc'
    subst z
    exact⟨fr _ (by simp),(hf _ (by simp)).2⟩) (fun c hc'=>by
    have z:c=n+4:=by simpa using hc'
    subst z
    exact⟨_,hz''⟩)
  have up:∀ c o,c≠n+4→h'.get? c=some o→h''.get? c=some o:=fun c o hc' e=>hs''.extBut c o hc' e
  exact⟨.ref s.heap.objs.size,_,I2,rfl,⟨_,x,y,I.fresh,rfl,rfl,fun zs hz=>by rw [I.tuple_inj hz hq1]; exact hx,fun zs hz=>by rw [I.list_inj hz hq2]; exact hy⟩,
   ⟨⟨g2,g1,hz'',hzf''⟩,up _ _ (nq (by omega)) e2,⟨_,_,up _ _ (nq (by omega)) e3⟩,t4.1.at fun o e=>up _ o (nq (by omega)) e,t5.1.at fun o e=>up _ o (nq (by omega)) e⟩,fr⟩
 done:=by
  intro X hP hw hK hc i pins s σ H E I hf st hg
  subst hP hw hK
  obtain⟨xs,ys,hq1,hq2,hx⟩:=hg
  obtain⟨⟨f0,f1,h1,hzf⟩,h2,⟨u0,v0,h3⟩,h4,h5⟩:=st
  obtain⟨its1,rv1,p1,hz1⟩:=I.tuple hq1
  obtain⟨its2,rv2,p2,hz2⟩:=I.list hq2
  have hh:X.A.in1.handled=none:=by simp [I.ok.hd hc]
  have hl1:=rv1.length
  have hl2:=rv2.length
  refine ziQ (Draws.tuple hh n a (nq (by omega)) its1.toArray) (Draws.list hh (n+1) b (nq (by omega)) its2.toArray) (zdw ha hb) h1 hzf h2 h3 ⟨h4,(show s.heap.IsTuple a its1.toArray from p1)⟩ ⟨h5,p2.isList⟩ (by rw [List.size_toArray,List.size_toArray]; omega) fun h' tk kk=>⟨rfl,?_⟩
  have sub:∀ c∈[n+4,n+3,n,n+1],c∈zbB n:=fun c hc'=>by
   simp only [zbB,List.mem_cons,List.not_mem_nil,or_false] at hc' ⊢
   rcases hc' with z | z | z | z <;> subst z <;> simp
  have k1:∀ c o,c∉[n+4,n+3,n,n+1]→s.heap.get? c=some o→h'.get? c=some o:=fun c o hc' e=>by
   simp only [List.mem_cons,List.not_mem_nil,or_false,not_or] at hc'
   exact kk c o hc'.1 hc'.2.1 hc'.2.2.1 hc'.2.2.2 e
  have nit:∀ d u',H d=some u'→d∉[n+4,n+3,n,n+1]:=fun d u' e' hd=>by rw [(hf d (sub d hd)).1] at e'; cases e'
  refine I.step (g':=s.gens) (d':=s.drawn) (t':=tk) (ch:=[n+4,n+3,n,n+1]) (fun c hc'=>?_) (fun c o _ _ hcc e _=>k1 c o hcc e) (fun c o _ _ hcc e _=>⟨o.slots,k1 c o hcc e⟩) (fun _ _ _ _ n=>n)
   (fun c o hcc e=>⟨o,k1 c o hcc e⟩) (fun _ _ e=>e) (fun _ _ _ e=>e) (fun c ps e=>⟨#[],by rw [e]; simp⟩) (fun m hm=>?_) (fun c u e=>?_) I.bare
  ·obtain⟨_,a1,_,a3,a4,a5⟩:=hf c (sub c hc')
   exact⟨a3,a1,a4,a5⟩
  ·obtain⟨o,es',ep,ho,r⟩:=hm
   exact⟨o,es',ep,k1 _ o (fun z=>(hf _ (sub _ z)).2.1 rfl) ho,r⟩
  ·refine (I.hok c u e).stay (fun d v' hd q=>k1 d v' ?_ q) (fun _ q=>q) fun _ _ q=>q
   rcases hd with z | z
   ·rw [z]; exact nit c u e
   ·exact nit d _ z
 self:=fun _ _ _ _ _ st h=>by
  obtain⟨⟨f0,f1,hz,_⟩,_⟩:=st
  exact ze5 hz h
def iZq (Sq1 Sq2:Hp→Addr→List V→Prop) (ta:TA):TI:=fun σ H R=>ta σ H fun vs H1=>∃ a b xs ys,vs = [.ref a,.ref b]∧Sq1 H1 a xs∧Sq2 H1 b ys∧R (zli Sq1 Sq2 a b) H1
theorem zfI {X:Cx} {es:List Expr} {k:Nat} {tpos p pos:Pos} {a b:Expr} {ta:TA} (hg:Gl X "zip") (hm:X.mg "zip" = none) (ha:PA X [a,b] ta) (hs:starEach [a,b] X.env = [(false,eval a X.env),(false,eval b X.env)]:=by rfl) (hs2:starEach [b] X.env = [(false,eval b X.env)]:=by rfl) :
  PI X (.Tuple es k tpos) (.Call (.Name "zip" p) [a,b] [] pos) (iZq (SqT X.K) (SqL X.K) ta):=by
 intro pins s σ H R I h
 refine Call_ (zbn I hg hm boot_zip (PyProof.Rows.callWith_type1 (thn (ha pos pins s σ H _ I h) fun us s1 ⟨vs,H1,I1,r1,q1⟩=>?_) (by rw [hs,hs2]) (by rw [hs2]; rfl)))
 obtain⟨l1,l2,xs,ys,e,hq1,hq2,q⟩:=q1
 subst e
 cases r1 with
 | cons r rr =>
  cases rr with
  | cons r' rr =>
   cases rr
   cases r
   cases r'
   obtain⟨its1,rv1,pl1,hz1⟩:=I1.tuple hq1
   obtain⟨its2,rv2,pl2,hz2⟩:=I1.list hq2
   have hlt1:l1 < s1.heap.objs.size:=by obtain⟨_,e,_⟩:=pl1; exact Heap.lt_size e
   have hlt2:l2 < s1.heap.objs.size:=by obtain⟨_,_,e,_⟩:=pl2; exact Heap.lt_size e
   refine zgt (show s1.heap.IsTuple l1 its1.toArray from pl1) pl2.isList fun h' n hn b1 b2 b3 b4 b5 b6 kk=>?_
   have I2:Inv X pins σ H1 { s1 with heap:=h' }:=I1.kept (t':=s1.toks) kk
   refine ze5 b1 ?_
   refine⟨_,zbB n,zl3 n l1 l2,zli (SqT X.K) (SqL X.K) l1 l2,H1,rfl,I2,ziR l1 l2 n (by rw [hn]; exact hlt1) (by rw [hn]; exact hlt2),⟨⟨_,_,b1,.inl rfl,_,rfl⟩,b2,⟨_,_,b3⟩,b4,b5⟩,fun c hc=>?_,q⟩
   have hle:s1.heap.objs.size≤c:=by
    simp only [zbB,List.mem_cons,List.not_mem_nil,or_false] at hc
    rw [← hn]
    rcases hc with z | z | z | z | z <;> subst z
    all_goals first | exact Nat.le_add_right _ _ | exact Nat.le_refl _
   exact I1.fpOk hle (I1.hok.fresh hle)
end L2
end
section
set_option maxHeartbeats 3999000
namespace L2
open PySem PySem.Spec PyProof.Rows
end L2
end
section
set_option maxHeartbeats 3999000
namespace L2
open PySem PySem.Spec PyProof.Rows
section
variable {prog:Program} {w:World} {A:Around} {h:Heap} {g:Array GenState} {d:Drawn} {tk:Nat} {os:OsState} {K:PySem.W.Frag} {x C:Addr} {E:Value→Shared→Prop}
theorem zgu {R:Result→Shared→Prop} {tp:Value} (J:∀ M,PySem.W.Looks M h (typeOf (.ref x)) (.ref C)) (X:K.In h)
  (hm:PySem.W.mroIn K C (.type "object")=some true) (q:R (.ok (.ret (.ref C))) ⟨h,g,d,tk,os⟩) :
  codeAny (model prog w) A (Code.call (.builtin "getset_descriptor.__get__") { pos:=[.builtin "object.__class__",.ref x,tp] }) R ⟨h,g,d,tk,os⟩:=by
 refine codeAny_call_builtin PySem.W.KF.slot_gs.plain PySem.W.KF.entry_gs (PySem.W.KF.slot_gs.check _ _ _ _ _ _ _ _ ?_ (PySem.W.KF.args_gs _ _ _) ?_)
 ·exact PySem.W.KF.type_class
 ·unfold Builtin.«getset_descriptor.__get__» Builtin.Getset_descriptor.descrGet
  rw [PySem.W.dga_obj]
  refine wpAny_bind (wpAny_pure ?_)
  try dsimp only
  unfold Builtin.Getset_descriptor.descrGetter
  try dsimp only
  refine wpAny_bind ?_
  unfold Builtin.Getset_descriptor.descrCheckInstance Builtin.Getset_descriptor.descrNameAndClass
  try dsimp only
  rw [PySem.W.KF.owner_class]
  refine wpAny_bind (wpAny_pure ?_)
  try dsimp only
  unfold isInstance
  refine wpAny_bind (wpAny_bind ((J _).at ((PySem.W.looks_mroIn X hm).at ?_)))
  refine wpAny_ite_false rfl (wpAny_pure ?_)
  unfold again
  refine wpAny_pure ⟨Code.quiet_builtin _ (by decide +kernel),?_⟩
  refine codeAny_builtin PySem.W.KF.entry_class ?_
  unfold Builtin.«object.__class__»
  try dsimp only
  unfold shownTypeOf
  refine wpAny_bind (wpAny_bind ((J _).at ?_))
  refine wpAny_ite_false rfl (wpAny_pure ?_)
  unfold ret
  exact wpAny_pure q
theorem zhM {M:Model} {nameV:Value} {Q:Unit→Shared→Prop} (J:∀ M,PySem.W.Looks M h (typeOf (.ref x)) (.ref C)) (X:K.In h) (hm:PySem.W.mroIn K C (.type "BaseException")=some true) (q:Q () ⟨h,g,d,tk,os⟩) :
  wpAny M A (checkBuiltinCall "BaseException.__getattribute__" { pos:=[.ref x,nameV] }) Q E ⟨h,g,d,tk,os⟩:=by
 have hk:builtinKind "BaseException.__getattribute__" = some Manifest.AttrKind.slot:=(by decide +kernel)
 have hs:splitId "BaseException.__getattribute__" = some ("BaseException","__getattribute__"):=by decide +kernel
 unfold checkBuiltinCall
 rw [hk,hs]
 try dsimp only
 unfold isInstance
 refine wpAny_bind (wpAny_bind ((J _).at ((PySem.W.looks_mroIn X hm).at ?_)))
 refine wpAny_ite_false rfl ?_
 have ok:=F.args_bexc_ga (.ref x) nameV
 unfold argsOk at ok
 generalize Manifest.signature? "BaseException.__getattribute__" = sg at ok ⊢
 cases sg with
 | none=>exact wpAny_pure q
 | some sig =>
  dsimp only at ok ⊢
  rw [ok]
  exact wpAny_pure q
theorem zhN {Q:Option Value→Shared→Prop} (J:∀ M,PySem.W.Looks M h (typeOf (.ref x)) (.ref C)) (X:K.In h)
  (F1:PySem.W.findIn K (.ref C) "__getattribute__" = some (some (.builtin "BaseException.__getattribute__"))) (F2:PySem.W.findIn K (.ref C) "__getattr__" = some none)
  (F3:PySem.W.findIn K (.ref C) "__class__" = some (some (.builtin "object.__class__"))) (hm:PySem.W.mroIn K C (.type "object")=some true) (hb:PySem.W.mroIn K C (.type "BaseException")=some true)
  (q:Q (some (.ref C)) ⟨h,g,d,tk+1,os⟩):wpAny (model prog w) A (getAttr? (.ref x) "__class__") Q E ⟨h,g,d,tk,os⟩:=by
 unfold getAttr?
 (refine wpAny_bind (wpAny_mkText ?_))
 unfold getAttrBy?
 (refine wpAny_bind (wpAny_attempt ?_))
 unfold getAttrBy
 refine wpAny_holding (wpAny_bind ((J _).at (wpAny_bind ((PySem.W.looks_findIn X F1).at ?_))))
 try dsimp only
 refine wpAny_ite_false rfl ?_
 unfold getAttrByItsOwn
 refine wpAny_bind ((PySem.W.looks_hook (mc:=.ref C) X (r:=none) (by rw [show onTheHeap (Value.ref C)=true from rfl,if_pos rfl]; exact F2)).at ?_)
 (refine wpAny_bind (wpAny_attempt (wpAny_holding ?_)))
 unfold callGetattribute
 refine wpAny_ite_false rfl ?_
 unfold boundAndCalled
 rw [F.attrBase_ValueError.ga.bind]
 refine wpAny_bind (wpAny_pure ?_)
 try dsimp only
 refine wpAny_call ?_
 refine codeAny_call_builtin F.attrBase_ValueError.ga.plain F.entry_bexc_ga (zhM J X hb ?_)
 (unfold Builtin.«object.__getattribute__»)
 refine wpAny_bind ?_
 unfold slotArgs
 try dsimp only
 refine wpAny_ite_false rfl (wpAny_ite_false rfl (wpAny_pure ?_))
 try dsimp only
 unfold Builtin.ObjectAttr.attrName
 try dsimp only
 refine wpAny_bind (wpAny_pure (wpAny_bind ((J _).at (wpAny_bind ?_))))
 unfold Builtin.ObjectAttr.find
 refine wpAny_bind ((PySem.W.looks_findIn X F3).at ?_)
 unfold Builtin.ObjectAttr.getOf
 try dsimp only
 refine wpAny_bind (wpAny_specialOf_val PySem.W.KF.type_class F.slot_gs_get.lookup ?_)
 unfold Builtin.ObjectAttr.dataDescriptor?
 try dsimp only
 refine wpAny_bind ?_
 unfold Builtin.ObjectAttr.takesStores
 refine wpAny_bind (wpAny_bind (wpAny_specialOf_val PySem.W.KF.type_class F.slot_gs_set.lookup ?_))
 refine wpAny_ite_true rfl (wpAny_pure ?_)
 refine wpAny_ite_true rfl (wpAny_pure ?_)
 try dsimp only
 (refine wpAny_bind (wpAny_rule (wpAny_pure ?_)))
 try dsimp only
 unfold Builtin.ObjectAttr.bindTo
 try dsimp only
 refine wpAny_bind (wpAny_holding (wpAny_call (zgu J X hm ?_)))
 try dsimp only
 unfold ret
 refine wpAny_pure ?_
 try dsimp only
 unfold handedOut
 try dsimp only
 refine wpAny_pure ?_
 try dsimp only
 exact wpAny_pure q
end
end L2
end
section
set_option maxHeartbeats 3999000
namespace L2
open PySem PySem.Spec PyProof.Rows
structure Xc (K:PySem.W.Frag) (C:Addr):Prop where
 f1:PySem.W.findIn K (.ref C) "__getattribute__" = some (some (.builtin "BaseException.__getattribute__"))
 f2:PySem.W.findIn K (.ref C) "__getattr__" = some none
 f3:PySem.W.findIn K (.ref C) "__class__" = some (some (.builtin "object.__class__"))
 ob:PySem.W.mroIn K C (.type "object")=some true
 bb:PySem.W.mroIn K C (.type "BaseException")=some true
 kc:PySem.W.kitCls K (.ref C) (.ref C)=some true
theorem zdL {h:Heap} {x C:Addr} (e:∃ o,h.get? x=some o∧o.cls = .ref C) (M:Model):PySem.W.Looks M h (typeOf (.ref x)) (.ref C):=by
 obtain⟨o,e,c⟩:=e
 intro A Q E s k q
 obtain⟨h',g,d,t,os⟩:=s
 unfold typeOf
 refine wpAny_bind (wpAny_loadPart_at (k _ _ e) (wpAny_pure ?_))
 rw [c]
 exact q
theorem zlj {K:PySem.W.Frag} {C:Addr} {b:Value} {r:Bool} (m:PySem.W.mroIn K C b=some r):∃ oc dd cd sl,K.lookup C=some ⟨oc,dd,.cls cd,sl⟩:=by
 unfold PySem.W.mroIn PySem.W.clsIn at m
 cases e:List.lookup C K with
 | none=>rw [e] at m; cases m
 | some o =>
  obtain⟨oc,dd,da,sl⟩:=o
  cases da with
  | cls cd=>exact⟨oc,dd,cd,sl,rfl⟩
  | _=>rw [e] at m; cases m
theorem zfJ {K:PySem.W.Frag} {x C:Addr} (c:Xc K C):PySem.W.KitX K (.ref x) (.ref C) (fun h=>∃ o,h.get? x=some o∧o.cls = .ref C):=by
 refine⟨fun M h _ e=>zdL e M,fun M h X e=>(PySem.W.kit_cls X c.kc).2.1,fun h tp dd its n sl X e=>?_,fun {prog w A E Q s} X e q=>?_⟩
 ·obtain⟨oc,dd',cd,sl',l⟩:=zlj c.ob
  have e2:=X _ _ l
  have ne:C≠tp:=fun z=>by
   rw [z,e] at e2
   cases e2
  exact decide_eq_false fun z=>ne (by injection z)
 ·obtain⟨h,g,d,tk,os⟩:=s
  exact zhN (fun M=>zdL e M) X c.f1 c.f2 c.f3 c.ob c.bb q
def ziS (a C:Addr):HO:=.ext fun h=>∃ o,h.get? a=some o∧o.cls = .ref C
theorem zX {X:Cx}:zbb X (.builtin "isinstance") (fun xs H Q=>∃ a C y b,xs = [.ref a,y]∧H a=some (ziS a C)∧Xc X.K C∧((∃ D,y = .ref D∧PySem.W.kitOne X.K (.ref C) (.ref D)=some b)∨∃ n,y = .ty n∧PySem.W.kitOne X.K (.ref C) (.type n)=some b)∧Q (.bl b) H):=by
 intro pins s σ H xs us Q I r h
 obtain⟨a,C,y,b,rfl,ha,c,hy,q⟩:=h
 obtain⟨u,u',rfl,rx,r2⟩:=vals2 r
 cases rx
 obtain⟨he,_,_⟩:=(show z7 X.prog X.w H s.heap a (ziS a C) from I.hok a _ ha)
 rcases hy with ⟨D,rfl,hk⟩ | ⟨n,rfl,hk⟩
 ·cases r2
  exact PySem.W.kia_one (zfJ c) I.kIn he hk (fun z=>nomatch z) fun tk=>⟨.bl b,H,I.tok tk,rfl,q⟩
 ·cases r2
  exact PySem.W.kia_one (zfJ c) I.kIn he hk (fun z=>nomatch z) fun tk=>⟨.bl b,H,I.tok tk,rfl,q⟩
end L2
end
section
set_option maxHeartbeats 3999000
namespace L2
open PySem PySem.Spec PyProof.Rows
abbrev ziT:List Value:=[.type "ValueError",.type "Exception",.type "BaseException",.type "object"]
structure XcAt (C:Addr) (h:Heap) (bmB:List Value) (newId:String):Prop where
 ex:∃ nm q N bs bm hdct sn sub ab col dd k0 k1 k2 k3 k5,∃ mN:Str→Option Value,h.get? C=some (excClassObj nm q C N bs bm hdct sn sub ab col dd k0 k1 k2 k3 k5 newId)∧h.Ns N mN∧mN "__init__" = none∧OwnTail h bmB bm
theorem zhO {K:PySem.W.Frag} {h:Heap} {C:Addr} {bmB:List Value} {newId:String} (X:K.In h) (e:PySem.W.excIn K C bmB newId=true):XcAt C h bmB newId:=by
 unfold PySem.W.excIn at e
 split at e
 ·rename_i dict cd sl hl
  split at e
  ·rename_i C' bm a0 a1 a2 a3 n a5 hm hs
   simp only [Bool.and_eq_true,beq_iff_eq] at e
   obtain⟨⟨⟨⟨⟨rfl,rfl⟩,hdel⟩,ht⟩,hn⟩,hi⟩:=e
   obtain⟨sll⟩:=sl
   have hs:sll = [a0,a1,a2,a3,some (Value.builtin n),a5]:=hs
   subst hs
   have ho:=X _ _ hl
   cases cd
   dsimp only at hm hn hi hdel
   subst hm
   simp only [Bool.not_eq_true'] at hdel
   subst hdel
   exact⟨_,_,_,_,_,_,_,_,_,_,_,_,_,_,_,_,_,ho,Heap.Ns.of_isNs (PySem.W.isNs_of_in X hn),PySem.W.nsMap_none_of_in X hn hi,PySem.W.tail_of_in X ht⟩
  ·cases e
 ·cases e
end L2
end
section
set_option maxHeartbeats 3999000
namespace L2
open PySem PySem.Spec PyProof.Rows
theorem zc8 {h h' base B:Heap} (k:∀ b o,h.get? b=some o→h'.get? b=some o):∀ {l:List Env},h.FunFrames base l→(∀ b∈frs l,B.get? b=none)→h'.FunFrames B l
 | [],_,_=>trivial
 | env :: r,hl,hb=>by
  obtain⟨hk,⟨L,o,hf,hn,ho,hd⟩,hr⟩:=hl
  have e:frs (env :: r)=L :: frs r:=by unfold frs; rw [List.filterMap_cons,hf]
  rw [e] at hb
  exact⟨hk,⟨L,o,hf,hb L (by simp),k _ _ ho,hd⟩,zc8 k hr fun b z=>hb b (List.mem_cons_of_mem _ z)⟩
structure Xl (P:Program) (w:World) (outer:List Env) (H:Hp) (h:Heap) (H':Hp) (h' B:Heap) (e C:Addr):Prop where
 new:h.get? e=none
 hok:HOk P w H' B
 fly:∃ t,B.FlyingW outer e (.ref C) t h'
 keep:∀ b o,h.get? b=some o→H b=none→b∉frs outer→B.get? b=some o
 slot:∀ b o,h.get? b=some o→H b=none→b∈frs outer→∃ sl,h'.get? b=some { o with slots:=sl }
 free:∀ b o,h.get? b=some o→H b=none→H' b=none
 there:∀ b o,h.get? b=some o→b∉frs outer→∃ o',B.get? b=some o'
 tups:∀ b xs,H b=some (.tup xs)→H' b=some (.tup xs)
 frzs:∀ b o u,H b=some (.frz o u)→H' b=some (.frz o u)
 tbls:∀ b ps,H b=some (.tbl ps)→∃ more,H' b=some (.tbl (ps++more))
def CX1 (P:Program) (w:World):CXT:=fun outer H s E ev s'=>∃ (e C:Addr) (H':Hp) (B:Heap),ev = .ref e∧s'.os=s.os∧AllBare s'.gens∧Xl P w outer H s.heap H' s'.heap B e C∧E (.ref C) none H'
section
variable {P:Program} {w:World} {outer:List Env} {H H':Hp} {h h' B:Heap} {e C:Addr}
theorem zlk {o:HO} {a:Addr} (x:z7 P w H h a o):∃ ob,h.get? a=some ob:=by
 cases o with
 | lst xs=>obtain⟨_,_,_,_,e⟩:=x; exact⟨_,e⟩
 | tup xs=>obtain⟨_,_,_,o,e,_⟩:=x; exact⟨_,e⟩
 | dK kvs=>obtain⟨_,_,_,_,o,_,_,e,_⟩:=x; exact⟨_,e⟩
 | dT kvs=>obtain⟨_,_,_,_,o,_,_,e,_⟩:=x; exact⟨_,e⟩
 | set S n=>obtain⟨o,_,_,_,e,_⟩:=x; exact⟨_,e⟩
 | ins C dx fs=>obtain⟨_,_,_,e,_⟩:=x; exact⟨_,e⟩
 | own y=>obtain⟨_,e⟩:=x; exact⟨_,e⟩
 | xd fs=>obtain⟨_,⟨_,_,_,e,_⟩,_⟩:=x; exact⟨_,e⟩
 | rng lo hi=>obtain⟨_,_,_,e⟩:=x; exact⟨_,e⟩
 | frz ob u=>obtain⟨e,_⟩:=x; exact⟨_,e⟩
 | tbl ps=>exact⟨_,(show h.get? a=some _ from x)⟩
 | met f y=>exact⟨_,(show h.get? a=some _ from x)⟩
 | ext φ=>obtain⟨_,⟨_,e⟩,_⟩:=x; exact⟨_,e⟩
theorem Xl.fresh (x:Xl P w outer H h H' h' B e C):H' e=none:=by
 obtain⟨t,_,hb,_⟩:=x.fly
 cases q:H' e with
 | none=>rfl
 | some u =>
  obtain⟨ob,z⟩:=zlk (x.hok e u q)
  rw [hb] at z
  cases z
theorem Xl.un (x:Xl P w outer H h H' h' B e C) (hf:∀ b∈frs outer,H b=none):Un (frs outer) [] H H' h h' where
 keep:=fun b o q n hb _=>by
  obtain⟨t,st,_⟩:=x.fly
  exact st _ _ (x.keep b o q n hb)
 slot:=fun b o q n hb _=>x.slot b o q n hb
 free:=fun b o q n _=>x.free b o q n
 there:=fun b o q _=>by
  by_cases hb:b∈frs outer
  ·obtain⟨sl,z⟩:=x.slot b o q (hf b hb) hb
   exact⟨_,z⟩
  ·obtain⟨o',z⟩:=x.there b o q hb
   obtain⟨t,st,_⟩:=x.fly
   exact⟨o',st _ _ z⟩
 tups:=x.tups
 frzs:=x.frzs
 tbls:=x.tbls
end
section
variable {X:Cx} {σ:St} {H:Hp} {s:Shared} {pins:List (Addr×Obj)}
theorem Inv.hid (I:Inv X pins σ H s):HOk X.prog X.w H (PySem.W.hideAll s.heap (frs X.stack)):=fun a o q =>
 (I.hok a o q).stay (fun b u hb z=>PySem.W.hideAll_get _ z fun m=>by
  have n:=I.stkFree b m
  rcases hb with rfl | hb
  ·rw [q] at n; cases n
  ·rw [hb] at n; cases n) (fun _ z=>z) fun _ _ z=>z
theorem zfK {env:Env} {outer:List Env} {L:Addr} (hf:env.frame=some L):frs (env :: outer)=L :: frs outer:=by unfold frs; rw [List.filterMap_cons,hf]
theorem Inv.notHere (I:Inv X pins σ H s) {b:Addr} {o:Obj} (q:X.s₀.heap.get? b=some o):b≠X.env.locals:=Nat.ne_of_lt (Nat.lt_of_lt_of_le (Heap.lt_size q) I.ok.above)
end
section
variable {P:Program} {w:World} {K:PySem.W.Frag} {mg:Str→Option Value} {base:Heap} {N:List Str} {qual:Str} {scope:Scope} {f:Addr} {cd:Value} {A:Around} {outer:List Env} {s₀:Shared} {H₀:Hp} {E:XK}
abbrev cxX (P:Program) (w:World) (K:PySem.W.Frag) (mg:Str→Option Value) (base:Heap) (N:List Str) (qual:Str) (scope:Scope) (f:Addr) (cd:Value) (A:Around) (outer:List Env) (s:Shared) (H:Hp) (E:XK):Cx:=zbr (CX1 P w) P w K mg base N qual scope f cd A outer s H E
theorem zgv {pins:List (Addr×Obj)} {σ:St} {H:Hp} {s:Shared} {h1:Heap} {e C:Addr} {vs:List Value} (I:Inv (cxX P w K mg base N qual scope f cd A outer s₀ H₀ E) pins σ H s) (m:s.heap.MadeExcOf h1 e (.ref C) vs) (q:E (.ref C) none H) :
  (cxX P w K mg base N qual scope f cd A outer s₀ H₀ E).xe (.ref e) { s with heap:=h1 }:=by
 have frm:frs (cxX P w K mg base N qual scope f cd A outer s₀ H₀ E).stack=s₀.heap.objs.size :: frs outer:=zfK rfl
 obtain⟨t,he,_,_⟩:=m.there
 have stays:(PySem.W.hideAll s.heap (frs (cxX P w K mg base N qual scope f cd A outer s₀ H₀ E).stack)).StaysIn h1:=fun b o z=>m.keeps _ _ (PySem.W.of_hideAll _ z)
 have none_e:(PySem.W.hideAll s.heap (frs (cxX P w K mg base N qual scope f cd A outer s₀ H₀ E).stack)).get? e=none:=by
  cases z:(PySem.W.hideAll s.heap (frs (cxX P w K mg base N qual scope f cd A outer s₀ H₀ E).stack)).get? e with
  | none=>rfl
  | some o=>have:=PySem.W.of_hideAll _ z; rw [m.new] at this; cases this
 refine wpAny_leaving_firstW (base:=PySem.W.hideAll s.heap (frs (cxX P w K mg base N qual scope f cd A outer s₀ H₀ E).stack)) (outer:=outer) I.ok.frames (zc8 m.keeps I.stack fun b z=>PySem.W.hideAll_none _ z) rfl he stays none_e rfl rfl rfl fun h2 left=>?_
 obtain⟨st2,ff2,tr2,sl2⟩:=left
 refine⟨e,C,H,PySem.W.hideAll s.heap (frs (cxX P w K mg base N qual scope f cd A outer s₀ H₀ E).stack),rfl,I.os,I.bare,⟨?_,I.hid,⟨_,st2,none_e,ff2.2.2,tr2⟩,fun b o z n hb=>?_,fun b o z n hb=>?_,fun b o z n=>I.base.free b o z n (by simp [cxX,zbr]),fun b o z hb=>?_,I.base.tups,I.base.frzs,I.base.tbls⟩,q⟩
 ·cases z:s₀.heap.get? e with
  | none=>rfl
  | some o =>
   obtain⟨o',z'⟩:=I.base.there e o z (by simp [cxX,zbr])
   rw [m.new] at z'; cases z'
 ·refine PySem.W.hideAll_get _ (I.base.keep b o z n hb (by simp [cxX,zbr])) fun hm=>?_
  rw [frm] at hm
  rcases List.mem_cons.mp hm with z' | z'
  ·exact I.notHere z z'
  ·exact hb z'
 ·obtain⟨sl,z1⟩:=I.base.slot b o z n hb (by simp [cxX,zbr])
  obtain⟨_,ob,zo,nd⟩:=I.ok.funs.mem hb
  have eo:ob=o:=by
   have z3:s₀.heap.get? b=some ob:=zo
   rw [z] at z3; exact (Option.some.inj z3).symm
  subst eo
  obtain⟨sl',z2⟩:=sl2 b _ (m.keeps _ _ z1) nd
  exact⟨sl',z2⟩
 ·obtain⟨o',z1⟩:=I.base.there b o z (by simp [cxX,zbr])
  refine⟨o',PySem.W.hideAll_get _ z1 fun hm=>?_⟩
  rw [frm] at hm
  rcases List.mem_cons.mp hm with z' | z'
  ·exact I.notHere z z'
  ·exact hb z'
theorem zgw:zeQ (CX1 P w) (cxX P w K mg base N qual scope f cd A outer s₀ H₀ E) E:=by
 intro pins σ H s ev s' I hq
 obtain⟨e,C,H',B,rfl,os,bare,L,q⟩:=hq
 have frm:frs (cxX P w K mg base N qual scope f cd A outer s₀ H₀ E).stack=s₀.heap.objs.size :: frs outer:=zfK rfl
 obtain⟨t,fl⟩:=L.fly
 show wpAny _ _ (leaving _ _) _ _ _
 unfold leaving
 refine wpAny_bind (wpAny_looks_onW (base:=B) (outer:=outer) I.ok.frames rfl fl fun h2 held u2=>?_)
 refine wpAny_landsW held fun h3 fl3 u3=>?_
 obtain⟨st3,none_e,ff3,tr3⟩:=fl3
 refine⟨e,C,H',B,rfl,os.trans I.os,bare,⟨?_,L.hok,⟨_,st3,none_e,ff3.2.2,tr3⟩,fun b o z n hb=>?_,fun b o z n hb=>?_,fun b o z n=>?_,fun b o z hb=>?_,fun b xs z=>L.tups b xs (I.base.tups b xs z),fun b o u z=>L.frzs b o u (I.base.frzs b o u z),fun b ps z=>?_⟩,q⟩
 ·cases z:s₀.heap.get? e with
  | none=>rfl
  | some o =>
   obtain⟨o',z'⟩:=I.base.there e o z (by simp [cxX,zbr])
   rw [L.new] at z'; cases z'
 ·refine L.keep b o (I.base.keep b o z n hb (by simp [cxX,zbr])) (I.base.free b o z n (by simp [cxX,zbr])) fun hm=>?_
  rw [frm] at hm
  rcases List.mem_cons.mp hm with z' | z'
  ·exact I.notHere z z'
  ·exact hb z'
 ·obtain⟨sl,z1⟩:=I.base.slot b o z n hb (by simp [cxX,zbr])
  obtain⟨_,ob,zo,nd⟩:=I.ok.funs.mem hb
  have eo:ob=o:=by
   have z3:s₀.heap.get? b=some ob:=zo
   rw [z] at z3; exact (Option.some.inj z3).symm
  subst eo
  obtain⟨sl2,z2⟩:=L.slot b _ z1 (I.base.free b _ z n (by simp [cxX,zbr])) (by rw [frm]; exact List.mem_cons_of_mem _ hb)
  obtain⟨sl3,z3⟩:=u2 b _ z2 nd
  obtain⟨sl4,z4⟩:=u3 b _ z3 nd
  exact⟨sl4,z4⟩
 ·obtain⟨o',z'⟩:=I.base.there b o z (by simp [cxX,zbr])
  exact L.free b o' z' (I.base.free b o z n (by simp [cxX,zbr]))
 ·obtain⟨o',z'⟩:=I.base.there b o z (by simp [cxX,zbr])
  refine L.there b o' z' fun hm=>?_
  rw [frm] at hm
  rcases List.mem_cons.mp hm with z' | z'
  ·exact I.notHere z z'
  ·exact hb z'
 ·obtain⟨m1,e1⟩:=I.base.tbls b ps z
  obtain⟨m2,e2⟩:=L.tbls b _ e1
  exact⟨m1++m2,by rw [e2,Array.append_assoc]⟩
theorem Fun.okX {x:Str} {st:Stmt} {fd:FuncData} {ps:List Str} {k:Nat} {sp:Sp} (F:Fun K x qual st f fd) (S:FnScope N ps (zh st)) (len:∀ vs H Q E,sp vs H Q E→vs.length=ps.length)
  (hbody:∀ (cdv:Value) (A:Around) (outer:List Env) (s:Shared) (H:Hp) (vs:List V) (Q:VK) (E:XK),Room k (A.deeper (envOfC qual (zh st) s.heap.objs.size f cdv))→sp vs H Q E →
   ∃ t,PSs (cxX P w K mg base N qual (zh st) f cdv A outer s H E) (zaT st) t∧t { nx:=fun _ H'=>Q .non H',rt:=Q } (start N vs) H):FnOk P w K mg base (CX1 P w) (k+1) f fd ps sp:=by
 obtain⟨oc,od,kV,doc,pm,an,cdv,ct,osl,rfl,lk,hcd⟩:=F.ex
 exact zkE lk hcd S len fun A outer s H vs Q E hr hsp=>hbody cdv A outer s H vs Q E hr hsp
end
section
variable {X:Cx} {x:Str} {C:Addr} {e:Expr} {te:TE} {np cpos pos:Pos} {E:XK}
def ziU (X:Cx) (E:XK):Prop:=∀ (pins:List (Addr×Obj)) (σ:St) (H:Hp) (s:Shared) (h1:Heap) (e C:Addr) (vs:List Value),Inv X pins σ H s→s.heap.MadeExcOf h1 e (.ref C) vs→E (.ref C) none H→X.xe (.ref e) { s with heap:=h1 }
def zll (C:Addr) (E:XK) (te:TE):TS:=fun _ σ H=>zg2 te zk4 σ H fun vs H1=>vs.length=1∧E (.ref C) none H1
theorem ziV (hx:ziU X E) (hc:X.calm=true) (hg:Gl X x) (hm:X.mg x=some (.ref C)) (xc:PySem.W.excIn X.K C ziT "ValueError.__new__" = true) (he:PE X e te) (hd:(x == ("__debug__" : Str))=false:=by decide)
  (hpl:((backTo cpos (starEach [e] X.env)).any fun x=>x.fst)=false:=by rfl) (hst:starEach [e] X.env=(false,eval e X.env) :: starEach [] X.env:=by rfl) :
  PS X (.Raise (some (.Call (.Name x np) [e] [] cpos)) none pos) (zll C E te):=by
 intro pins s σ H D I h
 obtain⟨nm,q,N,bs,bm,hdct,sn,sub,ab,col,dd,k0,k1,k2,k3,k5,mN,hob,hns,hin,htl⟩:=(zhO I.mod.kin xc).ex
 refine wpAny_Raise_call_subU (nm:=nm) (q:=q) (N:=N) (bs:=bs) (hdct:=hdct) (sn:=sn) (sub:=sub) (ab:=ab) (col:=col) (dd:=dd) (k0:=k0) (k1:=k1) (k2:=k2) (k3:=k3) (k5:=k5) (bm:=bm) (bmB:=ziT) (bmN:=ziT) F.excBase_ValueError rfl F.excBase_ValueError (OwnTail.hasType htl rfl) (I.ok.hd hc) hpl hin (zb9 I hg hm ⟨rfl,?_⟩ hd)
 have pa:PA X [e] (zg2 te zk4):=za he ze hst
 have go:=pa cpos pins s σ H (fun vs H1=>vs.length=1∧E (.ref C) none H1) I h
 rw [hst] at go ⊢
 refine Calls.evalArgs_plain (thn go fun us s2 ⟨vs,H2,I2,r2,ql,q2⟩=>⟨rfl,?_,I2.bk _ _ hob,hns.keeps I2.bk,htl.keeps I2.bk,fun h1 ea m=>hx pins σ H2 s2 h1 ea C _ I2 m q2⟩)
 have:=r2.length
 have hsl:1≤sizeLine:=by decide
 show us.length≤sizeLine
 omega
end
end L2
end
section
set_option maxHeartbeats 3999000
namespace L2
open PySem PySem.Spec PyProof.Rows
def zl4 (X:Cx) (pins:List (Addr×Obj)) (σ:St) (e:Expr) (t:TE):Prop:=∀ (s:Shared) (H:Hp) (Q:VK),Inv X pins σ H s→t σ H Q→wpAny (model X.prog X.w) X.A (eval e X.env) (EP X pins σ Q) X.xe s
def zl5 (X:Cx) (pins:List (Addr×Obj)) (σ:St) (st:Stmt) (t:TS):Prop:=∀ (s:Shared) (H:Hp) (D:Ends),Inv X pins σ H s→t D σ H→wpAny (model X.prog X.w) X.A (exec st X.env) (SP X pins D) X.xe s
def zkJ (X:Cx) (pins:List (Addr×Obj)) (σ:St) (st:List Stmt) (t:TS):Prop:=∀ (s:Shared) (H:Hp) (D:Ends),Inv X pins σ H s→t D σ H→wpAny (model X.prog X.w) X.A (execs st X.env) (SP X pins D) X.xe s
def zdM (CX:CXT) (X:Cx) (pins:List (Addr×Obj)) (σ:St) (E:XK):Prop:=∀ (H:Hp) (s:Shared) (e:Value) (s':Shared),Inv X pins σ H s→CX X.stack H s E e s'→X.xe e s'
section
variable {X:Cx} {pins:List (Addr×Obj)} {σ:St} {CX:CXT} {k:Nat} {f C:Addr} {fd:FuncData} {ps:List Str} {sp:Sp} {dvs:List V} {ds:List Value} {E:XK} {x m:Str} {p pos apos:Pos} {e o:Expr} {es:List Expr} {ta te:TE} {t:TA}
theorem zhP {H:Hp} {s:Shared} {Q:VK} {us:List Value} {vs:List V} (F:FnOk X.prog X.w X.K X.mg X.base CX k f fd ps sp) (hr:Room k X.A) (hb:Binds X.K fd ps ds) (hd:zE dvs ds) (hx:zdM CX X pins σ E)
  (I:Inv X pins σ H s) (r:zE vs us) (h:sp (vs++dvs) H Q E):wpAny (model X.prog X.w) X.A (call (.ref f) us) (EP X pins σ Q) X.xe s:=by
 have r2:zE (vs++dvs) (us++ds):=r.append hd
 have hl:(us++ds).length=ps.length:=by rw [← r2.length]; exact F.len _ _ _ _ h
 refine wpAny_call (codeAny_mono (F.run X.A X.stack s H ⟨us,[]⟩ (us++ds) (vs++dvs) Q E hr I.env0 (hb s us I.kIn hl) r2 h) fun r s' hq=>?_)
 cases r with
 | error e=>exact hx H s e s' I hq
 | ok fl =>
  cases fl with
  | ret u=>exact I.after hq
  | next=>exact False.elim hq
  | brk=>exact False.elim hq
  | cont=>exact False.elim hq
theorem zgx (F:FnOk X.prog X.w X.K X.mg X.base CX k f fd ps sp) (hr:Room k X.A) (hg:Gl X x) (hm:X.mg x=some (.ref f)) (hk:PySem.W.keepIn X.K (.ref f)=true) (hb:Binds X.K fd ps ds) (hd:zE dvs ds) (hx:zdM CX X pins σ E)
  (ha:PA X (e :: es) t) (hdb:(x == ("__debug__" : Str))=false:=by decide) (he:starEach (e :: es) X.env=(false,eval e X.env) :: starEach es X.env:=by rfl) (hpl:(backTo pos (starEach es X.env)).any (·.1)=false:=by rfl) :
  zl4 X pins σ (.Call (.Name x p) (e :: es) [] pos) (ziv sp dvs E t):=by
 intro s H Q I h
 refine wpAny_Call_Name_kw (zb9 I hg hm ?_ hdb)
 refine PySem.W.callWith_K (h₀:=X.base) I.ok.mod.kin hk (thn (ha pos pins s σ H _ I h) fun us s1 ⟨vs,H1,I1,r,q⟩=>⟨I1.kIn,?_⟩) he hpl
 exact zhP F hr hb hd hx I1 r q
theorem zhQ {i:Nat} {pos':Pos} (hN:X.N.Nodup) (hi:X.N[i]? = some x) (hx:Loc X.env.scope x) (he:zl4 X pins σ e te) (hs:swapsWith e (some (.Name x pos')) pos.line X.env=pure false:=by rfl) (hf:X.fn x=true∨X.env.scope.names.lookup x=some .local:=by first | exact .inl rfl | exact .inr rfl | assumption) :
  zl5 X pins σ (.Assign [.Name x pos'] e pos) (zeO te (zaO i)):=by
 intro s H D I h
 refine wpAny_Assign_Name (thn (he s H _ I h) fun v s1 ⟨y,H1,I1,r1,q1⟩=>?_) hs
 exact zbE I1 hN hi hx r1 (fun s2 I2=>⟨_,H1,I2,q1⟩) hf
theorem zgy {st:Stmt} {ts:TS} (h:zl5 X pins σ st ts):zkJ X pins σ [st] ts:=by
 intro s H D I h1
 refine wpAny_execs_cons (thn (h s H D I h1) fun f s1 q=>?_)
 cases f with
 | next=>exact wpAny_execs_nil q
 | ret v=>exact q
 | brk=>exact q
 | cont=>exact q
end
section
variable {X:Cx} {σ:St} {H:Hp} {s:Shared} {pins:List (Addr×Obj)}
theorem zhR {M:Model} {A:Around} {E:Value→Shared→Prop} {i:Nat} {x:Str} {v:V} {Q:Unit→Shared→Prop} (I:Inv X pins σ H s) (hN:X.N.Nodup) (hi:X.N[i]? = some x) (hk:X.env.scope.names.lookup x=some .local) (hv:σ[i]? = some (some v))
  (h:∀ s',Inv X pins (σ.set i none) H s'→Q () s'):wpAny M A (unbindName X.env x) Q E s:=by
 obtain⟨m,hn,hl⟩:=id I.loc
 have hcls:(X.env.scope.kind == .class || (X.env.scope.kind == .module && X.env.locals != X.env.globals))=false:=by rw [I.ok.kind]; rfl
 have hiσ:i < σ.length:=by rw [I.len]; exact (List.getElem?_eq_some_iff.mp hi).1
 have cne:=I.cne
 obtain⟨u,r,lk⟩:=hl i x v hi hv (.inl hk)
 have hm:m x=some u:=by
  rcases lk with ⟨_,z⟩ | ⟨z,_⟩
  ·exact z
  ·have z:X.env.scope.names.lookup x=some .cell∨X.env.scope.names.lookup x=some .free:=z
   rw [hk] at z
   rcases z with z | z <;> cases z
 refine wpAny_unbindName_local hk hn hm hcls fun h' u' hn' hs=>?_
 obtain⟨oL,_,_,hoL,_⟩:=id hn
 refine h _ ⟨I.ok,I.os,I.bare,⟨fun b o e n hb hx=>?_,fun b o e n hb hx=>?_,I.base.free,fun b o e hx=>?_,I.base.tups,I.base.frzs,I.base.tbls⟩,⟨_,hn',fun j y v' e1 e2 e3=>?_⟩,fun y c e=>?_,I.free,I.freeC,fun p hp=>?_,fun b ob e=>?_,by simpa using I.len⟩
 ·exact (hs.2 b (Nat.ne_of_lt (Nat.lt_of_lt_of_le (Heap.lt_size e) I.ok.above))).trans (I.base.keep b o e n hb hx)
 ·obtain⟨sl,e1⟩:=I.base.slot b o e n hb hx
  exact⟨sl,(hs.2 b (Nat.ne_of_lt (Nat.lt_of_lt_of_le (Heap.lt_size e) I.ok.above))).trans e1⟩
 ·obtain⟨o',e1⟩:=I.base.there b o e hx
  exact⟨o',(hs.2 b (Nat.ne_of_lt (Nat.lt_of_lt_of_le (Heap.lt_size e) I.ok.above))).trans e1⟩
 ·by_cases hj:j=i
  ·subst hj
   rw [List.getElem?_set_self hiσ] at e2
   cases e2
  ·rw [List.getElem?_set_ne (Ne.symm hj)] at e2
   obtain⟨u',r',q⟩:=hl j y v' e1 e2 e3
   refine⟨u',r',?_⟩
   rcases q with ⟨k,e⟩ | ⟨k,c,e,z⟩
   ·refine .inl ⟨k,?_⟩
    have:y≠x:=fun e=>hj (zdC hN e1 (e ▸ hi))
    simp [this,e]
   ·exact .inr ⟨k,c,e,z.sameBut hs (cne y c e)⟩
 ·obtain⟨w',z⟩:=I.cell y c e
  exact⟨w',z.sameBut hs (cne y c e)⟩
 ·obtain⟨e,n,ne,nf,d⟩:=I.pin p hp
  exact⟨(hs.2 p.1 ne).trans e,n,ne,nf,d⟩
 ·refine (I.hok b ob e).stay (fun c w' hc q=>(hs.2 c ?_).trans q) (fun _ q=>q) fun _ _ q=>q
  rintro rfl
  rcases hc with rfl | hc
  ·rw [I.free] at e; cases e
  ·rw [I.free] at hc; cases hc
theorem Inv.trackX {a:Addr} {o:HO} (I:Inv X pins σ H s) (hn:H a=none) (h0:X.s₀.heap.get? a=none) (hL:a≠X.env.locals) (hc:∀ x c,X.env.cells.lookup x=some c→c≠a) (hp:∀ p∈X.pn++pins,p.1≠a) (new:z7 X.prog X.w (upd H a o) s.heap a o) :
  Inv X pins σ (upd H a o) s:=by
 have hok:HOk X.prog X.w (upd H a o) s.heap:=fun b u e=>by
  by_cases hb:b=a
  ·subst hb
   rw [zc] at e
   cases e
   exact new
  ·rw [zl hb] at e
   exact (I.hok b u e).stay (fun c v _ q=>q) (fun c q=>by rw [zl (zp q hn)]; exact q) fun c xs q=>by rw [zl (zp q hn)]; exact q
 refine⟨I.ok,I.os,I.bare,⟨I.base.keep,I.base.slot,fun b u e n hx=>?_,I.base.there,fun b xs e=>?_,fun b u xs e=>?_,fun b ps e=>?_⟩,I.loc,I.cell,?_,fun x c e=>?_,fun p hpp=>?_,hok,I.len⟩
 ·rw [zl (fun z=>by rw [z,h0] at e; cases e)]
  exact I.base.free b u e n hx
 ·have:=I.base.tups b xs e
  rw [zl (zp this hn)]; exact this
 ·have:=I.base.frzs b u xs e
  rw [zl (zp this hn)]; exact this
 ·obtain⟨m1,this⟩:=I.base.tbls b ps e
  exact⟨m1,by rw [zl (zp this hn)]; exact this⟩
 ·rw [zl (Ne.symm hL)]; exact I.free
 ·rw [zl (hc x c e)]; exact I.freeC x c e
 ·obtain⟨e,n,ne,nf,d⟩:=I.pin p hpp
  exact⟨e,by rw [zl (hp p hpp)]; exact n,ne,nf,d⟩
end
abbrev Cx.inExc (X:Cx) (e:Addr):Cx:={ X with A:=X.A.mark (some (.ref e)),calm:=false,xe:=fun _ _=>False }
section
variable {X:Cx} {pins:List (Addr×Obj)} {σ:St} {H:Hp} {s:Shared} {e:Addr}
theorem Cx.Ok.inExc (ok:X.Ok) (e:Addr):(X.inExc e).Ok :=
 ⟨ok.mod,ok.kind,ok.glob,ok.blt,ok.above,ok.inj,ok.has,ok.cab,fun z=>(by cases z),ok.frames,ok.stk,ok.exf,ok.bs,ok.bsz,ok.noex,ok.exfs,ok.funs,ok.frf⟩
theorem Inv.inExc (I:Inv X pins σ H s) (e:Addr):Inv (X.inExc e) pins σ H s:=⟨I.ok.inExc e,I.os,I.bare,I.base,I.loc,I.cell,I.free,I.freeC,I.pin,I.hok,I.len⟩
theorem Inv.outExc (I:Inv (X.inExc e) pins σ H s) (ok:X.Ok):Inv X pins σ H s:=⟨ok,I.os,I.bare,I.base,I.loc,I.cell,I.free,I.freeC,I.pin,I.hok,I.len⟩
theorem zfL {M:Model} {A:Around} {E:Value→Shared→Prop} {h:Heap} {g:Array GenState} {d:Drawn} {tk:Nat} {os:OsState} {K:PySem.W.Frag} {C S:Addr} {Q:Bool→Shared→Prop} (X:K.In h) (he:∃ o,h.get? e=some o∧o.cls = .ref C) (hk:PySem.W.kitCls K (.ref C) (.ref S)=some true)
  (hs:PySem.W.mroIn K S (.type "BaseException")=some true) (q:Q true ⟨h,g,d,tk,os⟩):wpAny M A (excMatches (.ref e) (.ref S)) Q E ⟨h,g,d,tk,os⟩:=by
 obtain⟨l1,l2,l3⟩:=PySem.W.kit_cls (M:=M) X hk
 unfold excMatches isInstance
 refine wpAny_bind (wpAny_bind (l1.at ?_))
 rw [tc_notTuple]
 refine wpAny_pure (wpAny_ite_false rfl (wpAny_bind (wpAny_pure ?_)))
 dsimp only
 (simp only [List.forIn_cons,List.forIn_nil])
 refine wpAny_bind (wpAny_bind (wpAny_bind ?_))
 unfold isExcClass
 refine wpAny_bind (l2.at (wpAny_ite_true rfl ((PySem.W.looks_mroIn X hs).at ?_)))
 refine wpAny_ite_false rfl (wpAny_pure (wpAny_pure ?_))
 refine wpAny_bind ((zdL he M).at ?_)
 refine wpAny_bind (wpAny_bind (wpAny_bind (l3.at (wpAny_ite_true rfl (wpAny_pure (wpAny_pure ?_))))))
 exact wpAny_pure q
end
end L2
end
section
set_option maxHeartbeats 3999000
namespace L2
open PySem PySem.Spec PyProof.Rows
def Ends.but (D:Ends) (i:Nat):Ends:={ nx:=fun σ H=>D.nx (σ.set i none) H,rt:=D.rt,bk:=fun σ H=>D.bk (σ.set i none) H,ct:=fun σ H=>D.ct (σ.set i none) H }
def zmy (K:PySem.W.Frag) (S:Addr) (i:Nat) (tb:XK→TS) (th:TS):TS:=fun D σ H =>
 tb (fun cls _ H'=>∃ C,cls = .ref C∧PySem.W.kitCls K (.ref C) (.ref S)=some true∧∀ e,H' e=none→th (D.but i) (σ.set i (some (.ref e))) (upd H' e (ziS e C))) D σ H
section
variable {X:Cx} {x n:Str} {S:Addr} {i:Nat} {body suite:List Stmt} {b₀:Stmt} {tb:XK→TS} {th:TS} {np hpos pos:Pos}
theorem zlm (hex:X.ex = []) (hstk:X.stack=X.env :: X.outer) (hfr:X.env.frame=some X.env.locals) (hg:Gl X x) (hm:X.mg x=some (.ref S)) (hS:PySem.W.mroIn X.K S (.type "BaseException")=some true)
  (hN:X.N.Nodup) (hi:X.N[i]? = some n) (hk:X.env.scope.names.lookup n=some .local)
  (hb:∀ (xe:Value→Shared→Prop) (pins:List (Addr×Obj)) (σ:St) (E:XK),zdM (CX1 X.prog X.w) (X.wish xe) pins σ E→zkJ (X.wish xe) pins σ body (tb E))
  (hh:∀ e:Addr,PSs (X.inExc e) (b₀ :: suite) th) (hd:(x == ("__debug__" : Str))=false:=by decide) :
  PS X (.Try body [.ExceptHandler (some (.Name x np)) (some n) (b₀ :: suite) hpos] [] [] pos) (zmy X.K S i tb th):=by
 intro pins s σ H D I h
 refine wpAny_Try_except ?_
 refine wpAny_mono (hb (fun ev s1=>wpAny (model X.prog X.w) X.A (noteFrame ev X.env) (fun _ s₂=>wpAny (model X.prog X.w) X.A (setFlight ev none) (fun _ s₃=>wpAny (model X.prog X.w) X.A (handleBy ev X.env [ExceptHandler.ExceptHandler (some (Expr.Name x np)) (some n) (b₀ :: suite) hpos]) (SP X pins D) X.xe s₃) X.xe s₂) X.xe s1) pins σ _ ?_ s H D (I.wish _) h) (fun f s1 q=>?_) fun ev s1 z=>z
 ·
  intro H1 s1 ev s2 I1 hq
  have I1:=I1.unwish
  obtain⟨e,C,H',B,rfl,os,bare,L,C',hC,hcl,q⟩:=hq
  cases hC
  obtain⟨t,fl⟩:=L.fly
  have frs_free:∀ b∈frs X.stack,H1 b=none:=I1.stkFree
  show wpAny _ _ (noteFrame _ _) _ _ _
  have fl0:B.FlyingW (X.env :: X.outer) e (.ref C) t s2.heap:=by rw [← hstk]; exact fl
  refine wpAny_looks_onW (base:=B) (outer:=X.outer) (by rw [← hstk]; exact I1.ok.frames) hfr fl0 fun h2 held u2=>?_
  refine wpAny_landsW held fun h3 fl3 u3=>?_
  have st3:∀ (h4:Heap),B.FlyingW (X.env :: X.outer) e (.ref C) t h4→s2.heap.UpToSlots h4→∀ (tk:Nat),Inv X pins σ H' ⟨h4,s2.gens,s2.drawn,tk,s2.os⟩:=by
   intro h4 fl4 u4 tk
   refine I1.call' (s':=⟨h4,s2.gens,s2.drawn,tk,s2.os⟩) (ch:=[]) os ?_ (L.hok.kept fl4.1) bare (fun b z=>absurd z (by simp))
   have U:=L.un frs_free
   refine⟨fun b o z nn hb _=>fl4.1 _ _ (L.keep b o z nn hb),fun b o z nn hb _=>?_,U.free,fun b o z _=>?_,L.tups,L.frzs,L.tbls⟩
   ·obtain⟨sl,z1⟩:=L.slot b o z nn hb
    obtain⟨_,ob,zo,nd⟩:=I1.stack.mem hb
    rw [z] at zo
    cases zo
    obtain⟨sl2,z2⟩:=u4 b _ z1 nd
    exact⟨sl2,z2⟩
   ·by_cases hb:b∈frs X.stack
    ·obtain⟨sl,z1⟩:=L.slot b o z (frs_free b hb) hb
     obtain⟨_,ob,zo,nd⟩:=I1.stack.mem hb
     rw [z] at zo
     cases zo
     obtain⟨sl2,z2⟩:=u4 b _ z1 nd
     exact⟨_,z2⟩
    ·obtain⟨o',z1⟩:=L.there b o z hb
     exact⟨o',fl4.1 _ _ z1⟩
  have I3:=st3 h3 fl3 (u2.trans u3) s2.toks
  refine wpAny_handleBy_cons (codeAny_handlers_test ?_) (by intro z; cases z)
  refine zb9 (X:=X.inExc e) (I3.inExc e) hg hm ?_ hd
  refine zfL I3.kIn fl3.there hcl hS ?_
  rw [if_pos rfl]
  (refine codeAny_handlers_suite_as ?_)
  refine PyProof.Rows.lands_againW fl3 fun h4 fl4 u4=>?_
  have I4:=st3 h4 fl4 ((u2.trans u3).trans u4) s2.toks
  have ne:H' e=none:=L.fresh
  have e0:X.s₀.heap.get? e=none:=by
   cases z:X.s₀.heap.get? e with
   | none=>rfl
   | some o =>
    obtain⟨o',z'⟩:=I1.base.there e o z (by rw [hex]; simp)
    rw [L.new] at z'; cases z'
  have I5:Inv X pins σ (upd H' e (ziS e C)) ⟨h4,s2.gens,s2.drawn,s2.toks,s2.os⟩:=by
   refine I4.trackX ne e0 (fun z=>?_) (fun y c hc z=>?_) (fun p hp z=>?_) ?_
   ·obtain⟨m,⟨o,_,_,ho,_⟩,_⟩:=I1.loc
    rw [← z,L.new] at ho
    cases ho
   ·obtain⟨v,o,ho,_⟩:=I1.cell y c hc
    rw [z,L.new] at ho
    cases ho
   ·have:=(I1.pin p hp).1
    rw [z,L.new] at this
    cases this
   ·obtain⟨ob,ho,hcls⟩:=fl4.there
    exact⟨⟨ob,ho,hcls⟩,⟨ob,ho⟩,fun h1 h2 ⟨o,z,c⟩ k=>⟨o,k o z,c⟩⟩
  refine zbE (X:=X.inExc e) (v:=.ref e) (I5.inExc e) hN hi (.inl hk) rfl (fun s6 I6=>?_) (.inr hk)
  refine wpAny_mono (hh e pins s6 _ _ (D.but i) I6 (q e ne)) (fun f s7 q7=>?_) fun _ _ z=>z.elim
  have fin:∀ {σ':St} {H7:Hp} {R:Shared→Prop},Inv (X.inExc e) pins σ' H7 s7→(∀ s8,Inv X pins (σ'.set i none) H7 s8→R s8)→wpAny (model X.prog X.w) X.A (do bindName X.env n Value.none; unbindBehindTheSuite X.env n hpos) (fun _ s8=>R s8) X.xe s7:=by
   intro σ' H7 R I7 hR
   have I7:=I7.outExc I.ok
   refine wpAny_bind (wpAny_bindName (zbE (v:=.non) I7 hN hi (.inl hk) rfl (fun s8 I8=>?_) (.inr hk)))
   unfold unbindBehindTheSuite
   refine wpAny_onRaise ?_
   have hil:i < σ'.length:=by rw [I7.len]; exact (List.getElem?_eq_some_iff.mp hi).1
   refine zhR (v:=.non) I8 hN hi hk (by rw [List.getElem?_set_self hil]) fun s9 I9=>hR s9 ?_
   rw [List.set_set] at I9
   exact I9
  cases f with
  | next =>
   obtain⟨σ',H7,I7,q8⟩:=q7
   exact fin I7 fun s8 I8=>⟨_,_,I8,q8⟩
  | brk =>
   obtain⟨σ',H7,I7,q8⟩:=q7
   exact fin I7 fun s8 I8=>⟨_,_,I8,q8⟩
  | cont =>
   obtain⟨σ',H7,I7,q8⟩:=q7
   exact fin I7 fun s8 I8=>⟨_,_,I8,q8⟩
  | ret v =>
   obtain⟨u,σ',H7,I7,r,q8⟩:=q7
   exact fin I7 fun s8 I8=>⟨u,_,_,I8,r,q8⟩
 ·cases f with
  | next=>exact wpAny_execs_nil (SP.unwish q)
  | ret v=>exact SP.unwish q
  | brk=>exact SP.unwish q
  | cont=>exact SP.unwish q
end
end L2
end
section
set_option maxHeartbeats 3999000
namespace L2
open PySem PySem.Spec PyProof.Rows
structure RoomH (k:Nat) (A:Around):Prop where
 dp:A.depth+3*k+5 < recursionLimit
 un:A.units+16*k+200 < cLine
theorem RoomH.of {k:Nat} {A:Around} {e:Addr} (r:Room k A):RoomH k (A.mark (some (.ref e))):=⟨r.dp,r.un⟩
theorem RoomH.deeper {k:Nat} {A:Around} (r:RoomH (k+1) A) (env:Env):RoomH k (A.deeper env) :=
 ⟨by have:=r.dp; show A.depth+1+3*k+5 < _; omega,by have:=r.un; show A.units+3+16*k+200 < _; omega⟩
structure FnOkH (P:Program) (w:World) (K:PySem.W.Frag) (mg:Str→Option Value) (base:Heap) (k:Nat) (f:Addr) (fd:FuncData) (ps:List Str) (sp:Sp):Prop where
 len:∀ vs H Q E,sp vs H Q E→vs.length=ps.length
 run:∀ (A:Around) (outer:List Env) (s:Shared) (H:Hp) (args:Args) (us:List Value) (vs:List V) (Q:VK) (E:XK),RoomH k A→Env0 P w K mg base A outer s H→BindsTo s fd args (ps.zip us)→zE vs us→sp vs H Q E →
  codeAny (model P w) A (.call (.ref f) args) (CR CX0 outer P w H s Q E) s
abbrev cxH (P:Program) (w:World) (K:PySem.W.Frag) (mg:Str→Option Value) (base:Heap) (N:List Str) (qual:Str) (scope:Scope) (f:Addr) (cd:Value) (A:Around) (outer:List Env) (s:Shared) (H:Hp) (E:XK):Cx :=
 { zbr CX0 P w K mg base N qual scope f cd A outer s H E with calm:=false,xe:=fun _ _=>False }
section
variable {P:Program} {w:World} {K:PySem.W.Frag} {mg:Str→Option Value} {base:Heap}
theorem zln {k:Nat} {f:Addr} {name qual:Str} {params:Arguments} {body:List Stmt} {scope:Scope} {dV kV doc pm cdv ct oc:Value} {an od:Option Addr}
  {osl:Array (Option Value)} {N ps:List Str} {sp:Sp} (lk:K.lookup f=some ⟨oc,od,.func (PySem.W.fnOf name qual params body scope dV kV doc pm an cdv ct),osl⟩) (hcd:PySem.W.codeIn K cdv qual=true) (S:FnScope N ps scope)
  (len:∀ vs H Q E,sp vs H Q E→vs.length=ps.length)
  (hbody:∀ (A:Around) (outer:List Env) (s:Shared) (H:Hp) (vs:List V) (Q:VK) (E:XK),RoomH k (A.deeper (envOfC qual scope s.heap.objs.size f cdv))→sp vs H Q E →
   ∃ t,PSs (cxH P w K mg base N qual scope f cdv A outer s H E) body t∧t { nx:=fun _ H'=>Q .non H',rt:=Q } (start N vs) H) :
  FnOkH P w K mg base (k+1) f (PySem.W.fnOf name qual params body scope dV kV doc pm an cdv ct) ps sp:=by
 refine⟨len,fun A outer s H args us vs Q E hr e0 hb r hsp=>?_⟩
 have hl:=len _ _ _ _ hsp
 have KX:K.In s.heap:=e0.mod.kin.keeps fun b o e=>(e0.bs b o e).1
 have lim:s.heap.NoLimit:=e0.mod.nolimit.keeps fun b o e=>(e0.bs b o e).1
 have hkind:∀ y∈ps.zip us,scope.names.lookup y.1=some .local∨(scope.names.lookup y.1=some .cell∧((cellsFrom (s.heap.objs.size+1) scope.names []).lookup y.1).isSome=true):=fun ⟨n,v⟩ hy=>by
  rcases S.par n (List.of_mem_zip hy).1 with q | q
  ·exact .inl q
  ·exact .inr ⟨q,PySem.W.cellsFrom_some _ _ _ (.inl q)⟩
 refine codeAny_call_function (by have:=hr.dp; omega) (KX _ _ lk) rfl S.co S.gen rfl (PySem.W.codeRec_of KX hcd) (hb _ _ _ _ ?_)
 refine wpAny_newFunctionEnv_cells S.kind hkind fun env he s1 x=>?_
 subst he
 refine⟨lim.keeps x.toInCall.keep,codeAny_func ?_⟩
 obtain⟨t,ht,hq⟩:=hbody A outer s H vs Q E (hr.deeper _) hsp
 have e1:Env0 P w K mg base { A with handled:=none } outer s H:=⟨e0.frames,e0.mod,e0.bs,e0.bsz,e0.funs,e0.frf,e0.hok,e0.bare⟩
 have I0:Inv (zbr CX0 P w K mg base N qual scope f cdv { A with handled:=none } outer s H E) [] (start N vs) H s1:=zes S rfl e1 hl r x
 have I:Inv (cxH P w K mg base N qual scope f cdv A outer s H E) [] (start N vs) H s1 :=
  ⟨⟨I0.ok.mod,I0.ok.kind,I0.ok.glob,I0.ok.blt,I0.ok.above,I0.ok.inj,I0.ok.has,I0.ok.cab,fun z=>(by cases z),I0.ok.frames,I0.ok.stk,I0.ok.exf,I0.ok.bs,I0.ok.bsz,I0.ok.noex,I0.ok.exfs,I0.ok.funs,I0.ok.frf⟩,I0.os,I0.bare,I0.base,I0.loc,I0.cell,I0.free,I0.freeC,I0.pin,I0.hok,I0.len⟩
 refine wpAny_mono (ht [] s1 (start N vs) H _ I hq) (fun fl s' hs=>?_) fun e s' hs=>hs.elim
 have fin:∀ {σ':St} {H':Hp} {v:V} {u:Value},Inv (cxH P w K mg base N qual scope f cdv A outer s H E) [] σ' H' s'→RelV v u→Q v H'→CE outer P w H s Q u s' :=
  fun {σ' H' v u} J rv q=>⟨v,H',J.os,J.bare,J.base,J.hok,rv,q⟩
 cases fl with
 | ret u =>
  obtain⟨v,σ',H',J,rv,q⟩:=hs
  exact fin J rv q
 | next =>
  obtain⟨σ',H',J,q⟩:=hs
  exact fin (v:=V.non) (u:=Value.none) J rfl q
 | brk =>
  obtain⟨_,_,_,q⟩:=hs
  exact False.elim q
 | cont =>
  obtain⟨_,_,_,q⟩:=hs
  exact False.elim q
theorem Fun.okH {x qual:Str} {st:Stmt} {f:Addr} {fd:FuncData} {N ps:List Str} {k:Nat} {sp:Sp} (F:Fun K x qual st f fd) (S:FnScope N ps (zh st)) (len:∀ vs H Q E,sp vs H Q E→vs.length=ps.length)
  (hbody:∀ (cdv:Value) (A:Around) (outer:List Env) (s:Shared) (H:Hp) (vs:List V) (Q:VK) (E:XK),RoomH k (A.deeper (envOfC qual (zh st) s.heap.objs.size f cdv))→sp vs H Q E →
   ∃ t,PSs (cxH P w K mg base N qual (zh st) f cdv A outer s H E) (zaT st) t∧t { nx:=fun _ H'=>Q .non H',rt:=Q } (start N vs) H):FnOkH P w K mg base (k+1) f fd ps sp:=by
 obtain⟨oc,od,kV,doc,pm,an,cdv,ct,osl,rfl,lk,hcd⟩:=F.ex
 exact zln lk hcd S len fun A outer s H vs Q E hr hsp=>hbody cdv A outer s H vs Q E hr hsp
end
section
variable {X:Cx} {k:Nat} {f:Addr} {fd:FuncData} {ps:List Str} {sp:Sp} {x:Str} {p pos:Pos} {e:Expr} {es:List Expr} {t:TA}
theorem ziW (F:FnOkH X.prog X.w X.K X.mg X.base k f fd ps sp) (hr:RoomH k X.A) (hg:Gl X x) (hm:X.mg x=some (.ref f)) (hk:PySem.W.keepIn X.K (.ref f)=true) (hb:Binds X.K fd ps [])
  (ha:PA X (e :: es) t) (hdb:(x == ("__debug__" : Str))=false:=by decide) (he:starEach (e :: es) X.env=(false,eval e X.env) :: starEach es X.env:=by rfl) (hpl:(backTo pos (starEach es X.env)).any (·.1)=false:=by rfl) :
  PE X (.Call (.Name x p) (e :: es) [] pos) (ziv sp [] E0 t):=by
 intro pins s σ H Q I h
 refine wpAny_Call_Name_kw (zb9 I hg hm ?_ hdb)
 refine PySem.W.callWith_K (h₀:=X.base) I.ok.mod.kin hk (thn (ha pos pins s σ H _ I h) fun us s1 ⟨vs,H1,I1,r,q⟩=>⟨I1.kIn,?_⟩) he hpl
 have r2:zE (vs++[]) (us++[]):=r.append .nil
 have hl:(us++[]).length=ps.length:=by rw [← r2.length]; exact F.len _ _ _ _ q
 refine wpAny_call (codeAny_mono (F.run X.A X.stack s1 H1 ⟨us,[]⟩ (us++[]) (vs++[]) Q E0 hr I1.env0 (hb s1 us I1.kIn hl) r2 q) fun r s' hq=>?_)
 cases r with
 | error e=>exact hq.elim
 | ok fl =>
  cases fl with
  | ret u=>exact I1.after hq
  | next=>exact False.elim hq
  | brk=>exact False.elim hq
  | cont=>exact False.elim hq
end
end L2
end
section
set_option maxHeartbeats 3999000
namespace L2
open PySem PySem.Spec PyProof.Rows
theorem zcv:∀ {bs:List Bool} {us:List Value},zE (bs.map V.bl) us→us=bs.map Value.bool
 | [],_,r=>by cases r; rfl
 | b :: bs,_,r=>by
  cases r with
  | cons r1 r2 =>
   rw [zcv r2]
   cases r1
   rfl
theorem zc9 {h:Heap}:∀ (bs:List Bool),∃ as,ReadsAll h (bs.map Value.bool) (bs.map PyData.bool) as
 | []=>⟨_,.nil⟩
 | b :: bs=>by
  obtain⟨as,r⟩:=zc9 (h:=h) bs
  exact⟨_,.cons (by constructor) r⟩
theorem zda:∀ (bs:List Bool),(bs.map PyData.bool).all Spec.Shape.bool.has=true
 | []=>rfl
 | _ :: bs=>by
  rw [List.map_cons,List.all_cons,zda bs]
  rfl
theorem zfM {bs:List Bool} (k:Bool) (y:Value) (hy:y∈bs.map Value.bool) (A:Around) (s:Shared):SeqAt.EqAt A s y (.bool k) (isBoolOf k y):=by
 obtain⟨as,r⟩:=zc9 (h:=s.heap) bs
 exact eq_isBoolOf k r (zda bs) y hy A s
theorem zcJ (k:Bool):∀ bs:List Bool,List.countP (isBoolOf k) (bs.map Value.bool)=bs.count k
 | []=>rfl
 | b :: bs=>by
  rw [List.map_cons,List.countP_cons,List.count_cons,zcJ k bs]
  rfl
section
variable {X:Cx}
def zj2:V→List V→Hp→VK→Prop:=fun x vs H Q=>∃ (l:Addr) (bs:List Bool) (k:Bool),x = .ref l∧vs = [.bl k]∧H l=some (.lst (bs.map V.bl))∧Q (.int ((bs.count k:Nat):Int)) H
theorem zhS:MtM X "list.count" zj2:=by
 intro pins s σ H x vs v us Q I rx rv h
 obtain⟨l,bs,k,rfl,rfl,hH,q⟩:=h
 cases rx
 obtain⟨u,rfl,ru⟩:=rv.one
 cases ru
 obtain⟨z,its,n,r,hl,e⟩:=I.lstM hH
 have hi:=zcv r
 subst hi
 refine call_meets F.slot_list_count ⟨_,e,rfl⟩ F.entry_list_count (F.args_list_count_2 _ _) (SeqAt.list_countAt l _ n _ _ (.bool k) (isBoolOf k)) ⟨e,fun y hy=>zfM (bs:=bs) k y (by simpa using hy) _ _,?_⟩
 rw [List.toList_toArray,zcJ]
 exact⟨.int ((bs.count k:Nat):Int),H,I.tok _,⟨_,rfl⟩,q⟩
def zj3:V→List V→Hp→VK→Prop:=fun x vs H Q=>∃ (l:Addr) (bs:List Bool) (k:Bool) (j:Nat),x = .ref l∧vs = [.bl k]∧H l=some (.lst (bs.map V.bl))∧bs[j]? = some k∧(∀ m,m < j→bs[m]? = some (!k))∧j < 1000∧Q (.int (j:Int)) H
theorem zhT:MtM X "list.index" zj3:=by
 intro pins s σ H x vs v us Q I rx rv h
 obtain⟨l,bs,k,j,rfl,rfl,hH,hj,hm,h1000,q⟩:=h
 cases rx
 obtain⟨u,rfl,ru⟩:=rv.one
 cases ru
 obtain⟨z,its,n,r,hl,e⟩:=I.lstM hH
 have hi:=zcv r
 subst hi
 obtain⟨hjl,hje⟩:=List.getElem?_eq_some_iff.mp hj
 refine call_meets F.slot_list_index ⟨_,e,rfl⟩ F.entry_list_index (F.args_list_index_2 _ _) (SeqAt.list_indexAt l _ n _ _ (.bool k) (isBoolOf k) j (by simpa using hjl) (by omega) ?_ ?_) ⟨e,fun y hy=>zfM (bs:=bs) k y (by simpa using hy) _ _,?_⟩
 ·simp [isBoolOf,hje]
 ·intro m h1 h2
  have:=hm m h2
  obtain⟨_,hme⟩:=List.getElem?_eq_some_iff.mp this
  simp [isBoolOf,hme]
 ·exact⟨.int (j:Int),H,I.tok _,⟨_,rfl⟩,q⟩
end
section
variable {X:Cx} {tg:Expr}
end
def strsOf:List Expr→Option (List Str)
 | []=>some []
 | .Constant (.str i) _ _ :: r=>(strsOf r).map (i :: ·)
 | _=>none
def zfN (ns:List Str):TA:=fun _ H Q=>Q (ns.map V.str) H
theorem zj4 {X:Cx}:∀ (es:List Expr) (ns:List Str),strsOf es=some ns→PA X es (zfN ns):=by
 intro es
 induction es with
 | nil =>
  intro ns h
  have e:ns = []:=(Option.some.inj h).symm
  subst e
  exact ze
 | cons e r ih =>
  intro ns h
  unfold strsOf at h
  split at h
  ·rename_i heq
   cases heq
  ·rename_i i j p r' heq
   injection heq with e1 e2
   subst e1 e2
   cases hr:strsOf r with
   | none=>rw [hr] at h; cases h
   | some ms =>
    rw [hr] at h
    have e:i :: ms=ns:=Option.some.inj h
    subst e
    exact za zeL (ih ms hr)
  ·cases h
theorem ziX {X:Cx} {i:Nat} {x:Str} {pos' pos2 spos:Pos} {rest:List Stmt} {u:TS} {es:List Expr} {ns:List Str} (h:strsOf es=some ns) (hN:X.N.Nodup) (hi:X.N[i]? = some x) (hx:Loc X.env.scope x)
  (hf:X.fn x=true∨X.env.scope.names.lookup x=some .local) (hr:PSs X rest u):PSs X (.Assign [.Name x pos'] (.List es pos2) spos :: rest) (zkW (zeO (zgf (zfN ns)) (zaO i)) u):=by
 have h1:PE X (.List es pos2) (zgf (zfN ns)):=@zN X es (zfN ns) pos2 (@zj4 X es ns h)
 have h2:PS X (.Assign [.Name x pos'] (.List es pos2) spos) (zeO (zgf (zfN ns)) (zaO i)):=zm hN hi hx h1 (by rfl) hf
 exact zd h2 hr
end L2
end
section
set_option maxHeartbeats 3998000
namespace L2
open PySem PySem.Spec PyProof.Rows
section
variable {κ:Type} [DecidableEq κ]
def zcw (kvs:List (κ×V)) (k:κ):Option V:=(kvs.find? fun kv=>decide (kv.1=k)).map (·.2)
def putK (kvs:List (κ×V)) (k:κ) (v:V):List (κ×V) :=
 if (kvs.any fun kv=>decide (kv.1=k))=true then kvs.map (fun kv=>if kv.1=k then (kv.1,v) else kv) else kvs++[(k,v)]
theorem zdN {p:κ×V} {r:List (κ×V)} {k:κ} (e:p.1=k):zcw (p :: r) k=some p.2:=by simp [zcw,List.find?_cons,e]
theorem zdO {p:κ×V} {r:List (κ×V)} {k:κ} (e:¬ p.1=k):zcw (p :: r) k=zcw r k:=by simp [zcw,List.find?_cons,e]
theorem zdP (k:κ):∀ kvs:List (κ×V),(kvs.any fun kv=>decide (kv.1=k))=(zcw kvs k).isSome
 | []=>rfl
 | p :: r=>by
  rw [List.any_cons]
  by_cases e:p.1=k
  ·simp only [zdN e,decide_eq_true e,Bool.true_or,Option.isSome_some]
  ·rw [zdO e,decide_eq_false e,Bool.false_or]; exact zdP k r
theorem zfO (kvs:List (κ×V)) (k:κ) (v:V):(putK kvs k v).length≤kvs.length+1:=by
 unfold putK
 split
 ·rw [List.length_map]; omega
 ·rw [List.length_append,List.length_cons,List.length_nil]; omega
theorem ziY {kvs:List (κ×V)} {k:κ} (v:V) (h:zcw kvs k=none):putK kvs k v=kvs++[(k,v)]:=by
 unfold putK
 rw [zdP,h]
 exact if_neg (by decide)
theorem zeJ.isSome_eq {o:Option V} {u:Option Value} (r:zeJ o u):o.isSome=u.isSome:=by
 cases o with
 | none=>cases u with
  | none=>rfl
  | some _=>exact (show False from r).elim
 | some _=>cases u with
  | none=>exact (show False from r).elim
  | some _=>rfl
theorem zeJ.getD {o:Option V} {u:Option Value} {d:V} {d':Value} (r:zeJ o u) (rd:RelV d d'):RelV (o.getD d) (u.getD d'):=by
 cases o with
 | none=>cases u with
  | none=>exact rd
  | some _=>exact (show False from r).elim
 | some _=>cases u with
  | none=>exact (show False from r).elim
  | some _=>exact r
theorem KV.val {kvs:List (κ×V)} {vs:List (κ×Value)} (r:KV kvs vs) (k:κ):zeJ (zcw kvs k) (valueAt vs k):=by
 unfold KV at r
 induction r with
 | nil=>exact True.intro
 | @cons p q ps qs h t ih =>
  obtain⟨h1,h2⟩:=h
  by_cases e:p.1=k
  ·have e':q.1=k:=h1.symm.trans e
   have b:valueAt (q :: qs) k=some q.2:=by simp [valueAt,List.find?_cons,e']
   rw [zdN e,b]; exact h2
  ·have e':¬ q.1=k:=fun z=>e (h1.trans z)
   have b:valueAt (q :: qs) k=valueAt qs k:=by simp [valueAt,List.find?_cons,e']
   rw [zdO e,b]; exact ih
end
theorem zkK {P:Program} {w:World} {k:Key} {u:Value} (r:RelV (kV k) u):(zan P w).is k u=true:=by
 cases k with
 | inl i=>obtain⟨t,e⟩:=(show ∃ t,u=Value.int i t from r); subst e; exact zfo P w i t
 | inr x=>obtain⟨t,e⟩:=(show ∃ t,u=Value.str x t from r); subst e; exact zfp P w x t
theorem zeC {P:Program} {w:World}:∀ {ks:List Key} {us:List Value},zE (ks.map kV) us→ItemsAre (zan P w) ks us
 | [],_,r=>by rw [List.map_nil] at r; cases r; exact .nil
 | k :: ks,_,r=>by
  rw [List.map_cons] at r
  cases r with
  | cons h t=>exact .cons (zkK h) (zeC t)
abbrev KT (H:Hp):List (List Key×V)→List (List Key×Addr×Value)→Prop:=Paired fun p q=>p.1=q.1∧H q.2.1=some (.tup (p.1.map kV))∧RelV p.2 q.2.2
theorem KT.val {H:Hp} {kvs:List (List Key×V)} {xs:List (List Key×Addr×Value)} (r:KT H kvs xs) (k:List Key):zeJ (zcw kvs k) ((atKey xs k).map (·.2)):=by
 induction r with
 | nil=>exact True.intro
 | @cons p q ps qs h t ih =>
  obtain⟨h1,_,h2⟩:=h
  by_cases e:p.1=k
  ·have e':q.1=k:=h1.symm.trans e
   have b:atKey (q :: qs) k=some q.2:=by simp [atKey,List.find?_cons,e']
   rw [zdN e,b]; exact h2
  ·have e':¬ q.1=k:=fun z=>e (h1.trans z)
   have b:atKey (q :: qs) k=atKey qs k:=by simp [atKey,List.find?_cons,e']
   rw [zdO e,b]; exact ih
theorem KT.repl {H:Hp} {kvs:List (List Key×V)} {xs:List (List Key×Addr×Value)} (r:KT H kvs xs) (k:List Key) {y:V} {u:Value} (ry:RelV y u) :
  KT H (kvs.map fun kv=>if kv.1=k then (kv.1,y) else kv) (xs.map (putAt k u)):=by
 induction r with
 | nil=>exact .nil
 | @cons p q ps qs h t ih =>
  rw [List.map_cons,List.map_cons]
  refine .cons ?_ ih
  obtain⟨h1,h2,h3⟩:=h
  unfold putAt
  by_cases e:p.1=k
  ·rw [if_pos e,if_pos (h1.symm.trans e)]; exact⟨h1,h2,ry⟩
  ·rw [if_neg e,if_neg (fun z=>e (h1.trans z))]; exact⟨h1,h2,h3⟩
theorem KT.put {H:Hp} {kvs:List (List Key×V)} {xs:List (List Key×Addr×Value)} (r:KT H kvs xs) (k:List Key) {b:Addr} {y:V} {u:Value} (hb:H b=some (.tup (k.map kV))) (ry:RelV y u) :
  KT H (putK kvs k y) (storedH xs k b u):=by
 have e:(kvs.any fun kv=>decide (kv.1=k))=(atKey xs k).isSome:=by
  rw [zdP,(r.val k).isSome_eq,Option.isSome_map]
 unfold putK storedH
 rw [e]
 by_cases q:(atKey xs k).isSome=true
 ·rw [if_pos q,if_pos q]; exact r.repl k ry
 ·rw [if_neg q,if_neg q]; exact Paired.snoc r ⟨rfl,hb,ry⟩
theorem KT.keeps {H H':Hp} {kvs:List (List Key×V)} {xs:List (List Key×Addr×Value)} (r:KT H kvs xs) (ht:∀ b ys,H b=some (.tup ys)→H' b=some (.tup ys)):KT H' kvs xs :=
 Paired.mapP r fun _ _ z=>⟨z.1,ht _ _ z.2.1,z.2.2⟩
section
variable {P:Program} {w:World} {H:Hp} {h:Heap} {a:Addr}
theorem zkL {u:HO} (ok:HOk P w H h) (e:Rd H a u):z7 P w H h a u:=e.ok ok
theorem zkM {kvs:List (Key×V)} (ok:HOk P w H h) (e:Rd H a (.dK kvs)):kvs.length≤sizeLine∧(a == sysModules)=false∧∃ vs,KV kvs vs∧h.DictOf (zan P w) a vs :=
 show z7 P w H h a (.dK kvs) from zkL ok e
theorem zgz {ks:List Key} (ok:HOk P w H h) (e:H a=some (.tup (ks.map kV))):(tupleKind (zan P w)).is h ks a:=by
 obtain⟨_,its,r,o,h1,h2,n,h3⟩:=(show z7 P w H h a (.tup (ks.map kV)) from ok a _ e)
 exact⟨o,its.toArray,n,h1,h2,h3,by simpa using zeC r⟩
theorem ziZ {kvs:List (List Key×V)} (ok:HOk P w H h) (e:Rd H a (.dT kvs)):kvs.length≤sizeLine∧(a == sysModules)=false ∧
  ∃ xs,KT H kvs xs∧h.DictOfH (tupleKind (zan P w)) a xs:=by
 obtain⟨z,y,xs,r,o,es,ep,h1,h2,h3,h4,h5⟩:=(show z7 P w H h a (.dT kvs) from zkL ok e)
 refine⟨z,y,xs,r,o,es,ep,h1,h2,h3,h4,fun x hx=>?_,h5⟩
 have all:∀ {l:List (List Key×V)} {m:List (List Key×Addr×Value)},KT H l m→∀ x∈m,(tupleKind (zan P w)).is h x.1 x.2.1:=by
  intro l m q
  induction q with
  | nil=>intro x hx; exact nomatch hx
  | @cons p q ps qs hq t ih =>
   intro x hx
   rcases List.mem_cons.mp hx with e | hx
   ·subst e
    exact zgz ok (by rw [← hq.1]; exact hq.2.1)
   ·exact ih x hx
 exact all r x hx
theorem zl6 {kvs:List (List Key×V)} (ok:HOk P w H h) (e:H a=some (.dT kvs)):kvs.length≤sizeLine∧(a == sysModules)=false ∧
  ∃ xs,KT H kvs xs∧h.DictOfH (tupleKind (zan P w)) a xs:=ziZ ok (.inl e)
end
def zl7 (H:Hp) (a:Addr) (y:V) (r:Option V):Prop :=
 (∃ kvs k,Rd H a (.dK kvs)∧y=kV k∧r=zcw kvs k)∨∃ kvs k b,Rd H a (.dT kvs)∧y = .ref b∧H b=some (.tup (k.map kV))∧r=zcw kvs k
section
variable {X:Cx} {pins:List (Addr×Obj)} {σ:St} {H:Hp} {s:Shared} {a:Addr} {y v:V} {u r:Value} {o:Option V} {A:Around} {E:Value→Shared→Prop}
theorem Inv.big (I:Inv X pins σ H s):sysModules < s.heap.objs.size:=by
 have h:mainGlobals < s.heap.objs.size:=(I.mod.glob.keeps I.bk).lt
 exact Nat.lt_trans (by decide) h
theorem zj5 {h':Heap} {t':Nat} {ob:HO} (I:Inv X pins σ H s) (mu:Mut (H a)) (hs:Heap.SameBut a s.heap h') (he:∃ q,h'.get? a=some q) (new:z7 X.prog X.w (upd H a ob) h' a ob) :
  Inv X pins σ (upd H a ob) { s with heap:=h',toks:=t' } :=
 I.write (x:=a) (e:=a) mu (.inl rfl) (fun b q hb z=>(hs.2 b hb).trans z) he new
end
section
variable {X:Cx} {pins:List (Addr×Obj)} {σ:St} {H:Hp} {s:Shared} {a:Addr} {kvs:List (Key×V)} {k:Key} {u:Value} {A:Around} {E:Value→Shared→Prop}
end
section
variable {X:Cx} {o i e value:Expr} {pos pos' tpos:Pos} {td ty tv:TE}
end
theorem zi0 {P:Program} {w:World} {H:Hp} (h:Heap) (hb:sysModules < h.objs.size):z7 P w H (h.push { cls:=.type "dict",data:=.dict #[] }) h.objs.size (.dT []) :=
 ⟨Nat.zero_le _,beq_eq_false_iff_ne.mpr (Ne.symm (Nat.ne_of_lt hb)),[],.nil,_,#[],0,Heap.get?_push_size _ rfl,⟨rfl,rfl,rfl⟩,rfl,rfl,List.nodup_nil⟩
section
variable {X:Cx} {pos:Pos}
end
structure M2 (X:Cx) (o:Expr) (m:Str) (apos:Pos) (e f:Expr) (cpos:Pos):Prop where
 base:attributeBase o m X.env (eval o X.env)=eval o X.env
 few:((backTo cpos (starEach [e,f] X.env)).all (fun x=>!x.1) && (backToKw cpos (keywordEach [] X.env)).all (fun x=>x.1.isSome)
  && decide (([e,f]:List Expr).length+([]:List Keyword).length+(if ([]:List Keyword).isEmpty then 0 else 1) < 30))=true
 line:(apos.endLine == cpos.line)=true
 trees:backTo cpos (starEach [e,f] X.env) = [(false,eval e X.env),(false,eval f X.env)]
def IsD (H:Hp) (a:Addr):Prop:=(∃ kvs,Rd H a (.dK kvs))∨∃ kvs,Rd H a (.dT kvs)
theorem zlo {X:Cx} {pins:List (Addr×Obj)} {σ:St} {H:Hp} {s:Shared} {a:Addr} (I:Inv X pins σ H s) (d:IsD H a) :
  s.TypeIs (.ref a) "dict"∧(∀ b,Value.ref a = .ref b→∃ ob,s.heap.get? b=some ob∧ob.dict=none)∧(a == sysModules)=false:=by
 rcases d with ⟨kvs,e⟩ | ⟨kvs,e⟩
 ·obtain⟨_,hd,vs,_,dd⟩:=zkM I.hok e
  refine⟨dd.typeIs,fun b q=>?_,hd⟩
  cases q
  obtain⟨ob,_,_,h1,h2,_⟩:=dd
  exact⟨ob,h1,h2.2.1⟩
 ·obtain⟨_,hd,xs,_,dd⟩:=ziZ I.hok e
  refine⟨dd.typeIs,fun b q=>?_,hd⟩
  cases q
  obtain⟨ob,_,_,h1,h2,_⟩:=dd
  exact⟨ob,h1,h2.2.1⟩
section
variable {X:Cx} {pins:List (Addr×Obj)} {σ:St} {H:Hp} {s:Shared} {a:Addr} {y d:V} {u r:Value} {o:Option V} {A:Around} {E:Value→Shared→Prop}
theorem zlp {Q:Value→Shared→Prop} (hu:A.units+1 < cLine) (I:Inv X pins σ H s) (g:zl7 H a y o) (ry:RelV y u) (rd:RelV d r) (h:∀ w' s',Inv X pins σ H s'→RelV (o.getD d) w'→Q w' s') :
  wpAny (model X.prog X.w) A (call (.builtin "dict.get") [.ref a,u,r]) Q E s:=by
 rcases g with ⟨kvs,k,e,ey,l⟩ | ⟨kvs,k,b,e,ey,eb,l⟩
 ·subst ey
  obtain⟨z,hd,vs,rel,dd⟩:=zkM I.hok e
  refine call_meetsIn PySem.F.slot_dict_get dd.typeIs PySem.F.entry_dict_get (PySem.F.args_dict_get_3 _ _ _) (meets_dict_get_default (zan X.prog X.w) a (zkK ry) hd r) ⟨_,dd.mapOf,h _ _ (I.tok _) ?_⟩
  rw [l]
  exact (rel.val k).getD rd
 ·subst ey
  cases (show u=Value.ref b from ry)
  obtain⟨z,hd,xs,rel,dd⟩:=ziZ I.hok e
  refine call_meetsIn PySem.F.slot_dict_get dd.typeIs PySem.F.entry_dict_get (PySem.F.args_dict_get_3 _ _ _) (meetsH_dict_get_default (tupleKind (zan X.prog X.w)) a b hd r) ⟨tupleKind_room_in1 hu,k,xs,zgz I.hok eb,dd,h _ _ (I.tok _) ?_⟩
  rw [l]
  exact (rel.val k).getD rd
end
def zlq (td ty tx:TE):TE:=fun σ H Q=>td σ H fun x H1=>∃ a,x = .ref a∧IsD H1 a∧ty σ H1 fun y H2=>tx σ H2 fun z H3=>∃ o,zl7 H3 a y o∧Q (o.getD z) H3
section
variable {X:Cx} {o e f:Expr} {apos cpos:Pos} {td ty tx:TE}
theorem zi1 (hu:X.A.units+1 < cLine) (ho:PE X o td) (he:PE X e ty) (hf:PE X f tx) (m:M2 X o "get" apos e f cpos):PE X (.Call (.Attribute o "get" apos) [e,f] [] cpos) (zlq td ty tx):=by
 intro pins s σ H Q I h
 refine wpAny_Call_method m.base m.few m.line PySem.F.plainAttrs_dict PySem.F.slot_dict_get PySem.F.type_dict_get (thn (ho pins s σ H _ I h) fun u s1 ⟨x,H1,I1,rx,a,ex,d,q1⟩=>?_)
 subst ex
 obtain rfl:u=Value.ref a:=rx
 obtain⟨t1,t2,_⟩:=zlo I1 d
 refine⟨t1,t2,?_⟩
 rw [m.trees]
 refine Calls.callWith_builtin rfl (Calls.evalArgs_plain (Calls.spliced_cons (thn (he pins s1 σ H1 _ I1 q1) fun iv s2 ⟨y,H2,I2,ry,q2⟩ =>
  Calls.spliced_cons (thn (hf pins s2 σ H2 _ I2 q2) fun fv s3 ⟨z,H3,I3,rz,ov,g,q3⟩=>Calls.spliced_nil ?_))))
 exact zlp hu I3 g ry rz fun w' s4 I4 rw'=>⟨_,H3,I4,rw',q3⟩
end
end L2
end
section
set_option maxHeartbeats 3998000
namespace L2
open PySem PySem.Spec PyProof.Rows
theorem zfP:∀ {ns:List Int} {us:List Value},zE (ns.map V.int) us→∃ ps:List (Int×Tok),us=ps.map (fun p=>Value.int p.1 p.2)∧ps.map (·.1)=ns
 | [],_,r=>by cases r; exact⟨[],rfl,rfl⟩
 | n :: ns,_,r=>by
  cases r with
  | cons r1 r2 =>
   obtain⟨ps,e1,e2⟩:=zfP r2
   obtain⟨t,rfl⟩:=r1
   exact⟨(n,t) :: ps,by rw [e1]; rfl,by rw [← e2]; rfl⟩
theorem zbH {X:Cx} (hc:X.calm=true):zbb X (.builtin "sum") (fun xs H Q=>∃ (p:Addr) (ns:List Int),xs = [.ref p]∧SqL X.K H p (ns.map V.int)∧Q (.int ns.sum) H):=by
 intro pins s σ H xs us Q I r h
 obtain⟨p,ns,rfl,hq,q⟩:=h
 obtain⟨u,rfl,rx⟩:=vals1 r
 cases rx
 obtain⟨its,rv,pl,hz⟩:=I.list hq
 obtain⟨ps,e1,e2⟩:=zfP rv
 subst e1 e2
 have hl:s.heap.IsList p (intItems ps.toArray):=by
  have:=pl.isList
  simpa [intItems] using this
 refine sum_intListG (xs:=ps.toArray) (by simp [I.ok.hd hc]) hl fun h' tk t' kk=>⟨.int (ps.map (·.1)).sum,H,I.kept kk,⟨t',?_⟩,q⟩
 rw [preSum_eq,List.take_of_length_le (by simp)]
end L2
namespace PySem
open PyProof.Rows
section
variable {prog:Program} {w:World} {A:Around} {E:Value→Shared→Prop} {s:Shared}
end
end PySem
namespace L2
open PySem PySem.Spec PyProof.Rows
end L2
end
section
set_option maxHeartbeats 3997000
namespace L2
open PySem PySem.Spec PyProof.Rows
end L2
namespace My
open PySem L2 PyProof.Rows
section
variable {K:PySem.W.Frag}
structure RowAt (K:PySem.W.Frag) (H:Hp) (r:Addr) (n:Nat) (rw:List (Option Int)):Prop where
 at':SqL K H r (rw.map enc)
 len:rw.length=n
end
end My
end
section
set_option maxHeartbeats 3995000
namespace Srt
open PySem PyProof.Rows
section
variable {prog:Program} {w:World} {A:Around} {E:Value→Shared→Prop} {s:Shared} {a₀:Array Keyed} {κ:SortKind} {val:Keyed→Int}
end
end Srt
end
section
set_option maxHeartbeats 3995000
namespace Srt
open PySem PyProof.Rows
section
variable {prog:Program} {w:World} {A:Around} {E:Value→Shared→Prop} {s:Shared} {a₀:Array Keyed} {κ:SortKind} {val:Keyed→Int}
end
end Srt
end
section
set_option maxHeartbeats 3995000
namespace Srt
open PySem PyProof.Rows
section
variable {val:Keyed→Int} {T o l l1 l2 r r1 r2:List Keyed}
end
section
variable {val:Keyed→Int} {T:List Keyed} {a b out:Array Keyed} {ia ib:Nat}
end
end Srt
end
section
set_option maxHeartbeats 3995000
namespace Srt
open PySem PyProof.Rows
section
variable {prog:Program} {w:World} {A:Around} {E:Value→Shared→Prop} {s:Shared} {a₀:Array Keyed} {κ:SortKind} {val:Keyed→Int}
end
end Srt
end
section
set_option maxHeartbeats 3995000
namespace Srt
open PySem PyProof.Rows
section
variable {val:Keyed→Int} {T o l l1 l2 r r1 r2:List Keyed}
end
section
variable {val:Keyed→Int} {T:List Keyed} {a b out:Array Keyed} {na nb:Nat}
end
section
variable {prog:Program} {w:World} {A:Around} {E:Value→Shared→Prop} {s:Shared} {a₀:Array Keyed} {κ:SortKind} {val:Keyed→Int}
end
end Srt
end
section
set_option maxHeartbeats 3995000
namespace Srt
open PySem PyProof.Rows
section
variable {prog:Program} {w:World} {A:Around} {E:Value→Shared→Prop} {s:Shared} {a₀:Array Keyed} {κ:SortKind} {val:Keyed→Int}
end
end Srt
end
section
set_option maxHeartbeats 3995000
namespace Srt
open PySem PyProof.Rows
section
variable {val:Keyed→Int}
end
section
variable {prog:Program} {w:World} {A:Around} {E:Value→Shared→Prop} {s:Shared} {a₀:Array Keyed} {κ:SortKind} {val:Keyed→Int}
end
end Srt
end
section
set_option maxHeartbeats 3995000
namespace Srt
open PySem PyProof.Rows
section
variable {prog:Program} {w:World} {A:Around} {E:Value→Shared→Prop} {s:Shared}
end
end Srt
end
section
set_option maxHeartbeats 3994000
namespace PySem
open PyProof.Rows
def zhU (h:Heap) (d:Addr) (es:Array DictEntry) (ep:Nat):Prop:=∃ o,h.get? d=some o∧o.ExactDict∧o.data = .dict es ep
theorem zhU.typeIs {s:Shared} {d:Addr} {es:Array DictEntry} {ep:Nat} (x:zhU s.heap d es ep):s.TypeIs (.ref d) "dict":=let ⟨o,ho,hc,_⟩:=x; ⟨o,ho,hc.1⟩
section
variable {prog:Program} {w:World} {A:Around} {E:Value→Shared→Prop} {s:Shared} {it d:Addr} {i ep:Nat} {es:Array DictEntry}
theorem zi2 {Q:Value→Shared→Prop} (hd:(d == sysModules)=false) (hm:zhU s.heap d es ep) (hQ:Q (.ref s.heap.objs.size) { s with heap:=s.heap.push { cls:=.type "dict_keyiterator",data:=.fields #[.ref d,.int 0 0,.int es.size 0,.int ep 0] } }):wpAny (model prog w) A (pyIter (.ref d)) Q E s:=by
 have hT:=hm.typeIs
 obtain⟨o,ho,hc,hdat⟩:=id hm
 refine wpAny_pyIter_slot hT F.slot_dict_iter (wpAny_call_entry F.slot_dict_iter hT F.entry_dict_iter ?_ (F.args_dict_iter_1 _)); unfold Builtin.«dict.__iter__» Builtin.Dict.dictSlotNone
 refine wpAny_bind (wpAny_bind (wpAny_notOrdered_dict hT ?_)); show wpAny _ _ (pure (Value.ref d)) _ _ s
 refine wpAny_pure ?_; show wpAny _ _ (Builtin.Dict.showsAll d >>= _) _ _ s; unfold Builtin.Dict.showsAll
 rw [if_neg (show ¬ ((d == sysModules)=true) by rw [hd]; decide)]
 refine wpAny_bind (wpAny_pure (wpAny_bind (wpAny_dictEntries ho hdat (wpAny_bind (wpAny_dictEpoch ho hdat (wpAny_bind (wpAny_newObj_type (wpAny_pure ⟨_,rfl,"dict_keyiterator",_,⟨_,Heap.get?_push_size _ rfl,rfl⟩,F.slot_dict_keyiterator_next.lookup,?_⟩))))))))
 simpa [rawInt] using hQ
theorem zi3 {e:DictEntry} {Q:Option Value→Shared→Prop} (hit:s.heap.IsKeyIter it d i es.size ep) (hm:zhU s.heap d es ep) (he:es[i]? = some e)
  (hQ:∀ h',h'.IsKeyIter it d (i+1) es.size ep→Heap.SameBut it s.heap h'→Q (some e.key) { s with heap:=h' }):wpAny (model prog w) A (pyNext (.ref it)) Q E s:=by
 (obtain⟨o,ho,hc,hd⟩:=id hit)
 obtain⟨od,hod,hcd,hdd⟩:=id hm
 have hlt:i < es.size:=(Array.getElem?_eq_some_iff.mp he).1
 have hown:Builtin.Dict_items.ownsTuple "dict_keyiterator" = false:=by decide +kernel
 unfold pyNext; refine wpAny_bind (wpAny_attempt (wpAny_callSpecial?_slot (name:=Str.ofString "__next__") hit.typeIs F.slot_dict_keyiterator_next (wpAny_call_entry F.slot_dict_keyiterator_next hit.typeIs F.entry_dict_keyiterator_next ?_ (F.args_dict_keyiterator_next_1 _))))
 refine wpAny_bind (wpAny_pure (wpAny_bind (wpAny_bind (wpAny_bind (wpAny_typeNameOfWhole_keyiter hit.typeIs (wpAny_pure (wpAny_bind (wpAny_fieldsOf ho hd ?_))))))))
 simp only [hown,Bool.false_eq_true,if_false]; show wpAny _ _ (if (Value.ref d == Value.none)=true then _ else _) _ _ s
 rw [if_neg (show ¬ ((Value.ref d == Value.none)=true) from fun z=>Bool.false_ne_true z)]
 refine wpAny_bind (wpAny_pure (wpAny_bind (wpAny_dictEntries hod hdd ?_)))
 rw [if_neg (show ¬ ((((es.size:Nat):Int) != ((es.size:Nat):Int))=true) by simp)]
 refine wpAny_bind (wpAny_pure (wpAny_bind (wpAny_dictEpoch hod hdd ?_)))
 rw [if_neg (by simp)]; refine wpAny_pure ?_
 simp only [show ¬ ((i:Int) < 0) by omega,if_false,Int.toNat_natCast,he]
 refine wpAny_bind (wpAny_bind (wpAny_typeNameOfWhole_keyiter hit.typeIs (wpAny_pure (wpAny_bind (wpAny_isOneOf_keyiter hit.typeIs ?_)))))
 show wpAny _ _ (setField (.ref it) 1 (rawInt ((i:Int)+1)) >>= _) _ _ s; refine wpAny_bind (wpAny_setField ho hd (by simp) ?_)
 have hit':(s.heap.update it (Obj.mapFields (·.setIfInBounds 1 (rawInt ((i:Int)+1))))).IsKeyIter it d (i+1) es.size ep:=⟨_,Heap.get?_update_self _ ho (Obj.isFreed_of_fields (Obj.data_mapFields hd _)),(Obj.cls_mapFields ..).trans hc,by rw [Obj.data_mapFields hd]; simp [rawInt]⟩
 refine wpAny_bind (wpAny_holding (wpAny_bind (wpAny_isOneOf_keyiter (s:={ s with heap:=s.heap.update it (Obj.mapFields (·.setIfInBounds 1 (rawInt ((i:Int)+1)))) }) hit'.typeIs ?_)))
 show wpAny _ _ (pure e.key) _ _ _; exact wpAny_pure (wpAny_pure ⟨_,rfl,wpAny_pure (hQ _ hit' (Heap.SameBut.update ..))⟩)
theorem zj6 {Q:Option Value→Shared→Prop} (hh:A.handled=none) (hit:s.heap.IsKeyIter it d i es.size ep) (hm:zhU s.heap d es ep) (he:es.size≤i) (hQ:∀ h',Heap.ExtBut it s.heap h'→Q none { s with heap:=h' }):wpAny (model prog w) A (pyNext (.ref it)) Q E s:=by
 (obtain⟨o,ho,hc,hd⟩:=id hit)
 obtain⟨od,hod,hcd,hdd⟩:=id hm
 have hown:Builtin.Dict_items.ownsTuple "dict_keyiterator" = false:=by decide +kernel
 unfold pyNext; refine wpAny_bind (wpAny_attempt (wpAny_callSpecial?_slot (name:=Str.ofString "__next__") hit.typeIs F.slot_dict_keyiterator_next (wpAny_call_entry F.slot_dict_keyiterator_next hit.typeIs F.entry_dict_keyiterator_next ?_ (F.args_dict_keyiterator_next_1 _))))
 refine wpAny_bind (wpAny_pure (wpAny_bind (wpAny_bind (wpAny_bind (wpAny_typeNameOfWhole_keyiter hit.typeIs (wpAny_pure (wpAny_bind (wpAny_fieldsOf ho hd ?_))))))))
 simp only [hown,Bool.false_eq_true,if_false]; show wpAny _ _ (if (Value.ref d == Value.none)=true then _ else _) _ _ s
 rw [if_neg (show ¬ ((Value.ref d == Value.none)=true) from fun z=>Bool.false_ne_true z)]
 refine wpAny_bind (wpAny_pure (wpAny_bind (wpAny_dictEntries hod hdd ?_)))
 rw [if_neg (show ¬ ((((es.size:Nat):Int) != ((es.size:Nat):Int))=true) by simp)]
 refine wpAny_bind (wpAny_pure (wpAny_bind (wpAny_dictEpoch hod hdd ?_)))
 rw [if_neg (by simp)]; refine wpAny_pure ?_
 simp only [show ¬ ((i:Int) < 0) by omega,if_false,Int.toNat_natCast,Array.getElem?_eq_none he]
 refine wpAny_bind (wpAny_bind (wpAny_typeNameOfWhole_keyiter hit.typeIs (wpAny_pure ?_)))
 show wpAny _ _ (setField (.ref it) 0 .none >>= _) _ _ s; refine wpAny_bind (wpAny_setField ho hd (by simp) ?_)
 show wpAny _ _ (newExc (.type "StopIteration") [] >>= _) _ _ _; simp only [newExc,newTuple]
 refine wpAny_bind (wpAny_bind (wpAny_newObj_type (wpAny_bind (m:=firstArgMember _ _) (wpAny_of_eq (a:=Value.none) (by first | rfl | (simp only [firstArgMember]; rfl)) (wpAny_newObj_type ?_ (by size_fits)))) (by size_fits)))
 simp only [raiseNew]; refine wpAny_bind (wpAny_handled ?_); rw [show A.in1.handled=none from hh]
 refine wpAny_bind (wpAny_pure (wpAny_throw ?_)); refine wpAny_bind (wpAny_isInstance (T:="StopIteration") (b:=true) ⟨_,Heap.get?_push_size _ rfl,rfl⟩ isSubtype_stop ?_)
 (exact wpAny_pure (hQ _ (((Heap.SameBut.update ..).extBut.push _).push _)))
end
end PySem
end
section
set_option maxHeartbeats 3994000
namespace Srt
open PySem PyProof.Rows
section
variable {prog:Program} {w:World} {A:Around} {E:Value→Shared→Prop} {s:Shared} {κ:SortKind} {val:Keyed→Int}
end
end Srt
end
section
set_option maxHeartbeats 3996000
namespace L2
open PySem PySem.Spec PyProof.Rows PySem.Builtin.Str
end L2
end
section
set_option maxHeartbeats 3996000
namespace L2
open PySem PySem.Spec PyProof.Rows PySem.Builtin.Str
end L2
end
section
set_option maxHeartbeats 3994000
namespace L2
open PySem PySem.Spec PyProof.Rows Srt
section
variable {X:Cx} {pins:List (Addr×Obj)} {σ:St} {H:Hp} {s:Shared} {k:Nat} {B:Int} {ps:List (Addr×List Int)}
end
end L2
end
section
set_option maxHeartbeats 3999000
namespace L2
open PySem PySem.Spec PyProof.Rows
section
variable {X:Cx} {elt t1 i1 t2 i2:Expr} {f1 f2:List Expr} {scope:Scope} {pos:Pos} {N':List Str} {ix:List (Option Nat)} {js1 js2:List Nat} {g1 g2:TG} {ts1 ts2:TT} {te:TE} {wi1 wi2:TI}
theorem zlr (hc:X.calm=true) (gs2:GS js2 g2) (hi2:∀ s₃ H₃ ex pins,PI (zO X N' scope s₃ H₃ ex pins) t2 i2 wi2)
  (hg2:∀ s₃ H₃ ex pins,PG (zO X N' scope s₃ H₃ ex pins) t2 g2) (ht2:∀ s₃ H₃ ex pins,zdi (zO X N' scope s₃ H₃ ex pins) f2 ts2) (he:∀ s₃ H₃ ex pins,PE (zO X N' scope s₃ H₃ ex pins) elt te)
  (hs2:∀ s₃ H₃ ex pins x,foldedSetIterable i2 (zO X N' scope s₃ H₃ ex pins).env x=pure x) :
  ∀ s₃ H₃ ex pins D,PM (zO X N' scope s₃ H₃ ex pins) D js2 ((fun D env=>zg6 (.ListComp elt [⟨t1,i1,f1,0⟩,⟨t2,i2,f2,0⟩] scope pos) i2 1 (.ref D) env) D (zO X N' scope s₃ H₃ ex pins).env) (ziE wi2 g2 ts2 (ziD te)):=by
 intro s₃ H₃ ex pins D
 have h:=zla (Y:=zO X N' scope s₃ H₃ ex pins) (D:=D) (js:=js2) (js':=[]) (elt:=elt) (gens:=[⟨t1,i1,f1,0⟩,⟨t2,i2,f2,0⟩]) (scope:=scope) (pos:=pos) (d:=1) (p:=i2.pos) hc rfl gs2 (fun _ _ z=>by cases z) (hi2 s₃ H₃ ex pins) (hg2 s₃ H₃ ex pins) (ht2 s₃ H₃ ex pins) (zgl rfl (he s₃ H₃ ex pins)) rfl (fun it=>zlc it D _) (hs2 s₃ H₃ ex pins)
 rw [List.append_nil] at h
 exact h
theorem zj7 (SC:CompSc X N' ix scope) (hc:X.calm=true) (gs1:GS js1 g1) (gs2:GS js2 g2) (hdis:∀ j∈js1,j∉js2) (hjs:∀ j∈js1++js2,ix[j]? = some none) (hi1:PI X t1 i1 wi1)
  (hg1:∀ s₃ H₃ ex pins,PG (zO X N' scope s₃ H₃ ex pins) t1 g1) (ht1:∀ s₃ H₃ ex pins,zdi (zO X N' scope s₃ H₃ ex pins) f1 ts1) (hi2:∀ s₃ H₃ ex pins,PI (zO X N' scope s₃ H₃ ex pins) t2 i2 wi2)
  (hg2:∀ s₃ H₃ ex pins,PG (zO X N' scope s₃ H₃ ex pins) t2 g2) (ht2:∀ s₃ H₃ ex pins,zdi (zO X N' scope s₃ H₃ ex pins) f2 ts2) (he:∀ s₃ H₃ ex pins,PE (zO X N' scope s₃ H₃ ex pins) elt te)
  (hs:∀ x,foldedSetIterable i1 X.env x=pure x:=by intro _; rfl) (hs2:∀ s₃ H₃ ex pins x,foldedSetIterable i2 (zO X N' scope s₃ H₃ ex pins).env x=pure x:=by intros; rfl) :
  PE X (.ListComp elt [⟨t1,i1,f1,0⟩,⟨t2,i2,f2,0⟩] scope pos) (zgk ix wi1 g1 ts1 (ziE wi2 g2 ts2 (ziD te))) :=
 zfv SC hc gs1 hdis hjs hi1 hg1 ht1 (zlr hc gs2 hi2 hg2 ht2 he hs2) (fun it D env=>zlb it D env) hs
end
theorem zkN {J:It} {n:Nat} {g:TG} {ts:TT} {tm:TM} {σ0:St} {Q:List V→Hp→Prop} {ys:List V} {H:Hp} (Pv:Nat→List V→Hp→Prop) (h0:Pv 0 ys H) (hgo:∀ i ys H,i < n→Pv i ys H→J.go i H) (hst:∀ ys H,Pv n ys H→J.stop n H)
  (hs:∀ i x ys H H',i < n→Pv i ys H→J.yld i H x H'→g x σ0 H' fun σ2 H2=>ts σ2 H2 fun b H3=>if b=true then tm ys σ2 H3 (Pv (i+1)) else Pv (i+1) ys H3)
  (hd:∀ ys H,Pv n ys H→Q ys H):cIn g ts tm σ0 J Q ys H:=by
 refine⟨fun i m ys H=>m=n - i∧i≤n∧Pv i ys H,⟨n,by simp,Nat.zero_le _,h0⟩,?_⟩
 rintro i m ys H ⟨rfl,hi,p⟩
 by_cases hlt:i < n
 ·exact .inr ⟨hgo i ys H hlt p,Pv (i+1),fun ys' H' p'=>⟨n - (i+1),by omega,rfl,hlt,p'⟩,fun x H' y=>hs i x ys H H' hlt p y⟩
 ·have e:i=n:=by omega
  subst e
  exact .inl ⟨hst ys H p,hd ys H p⟩
end L2
end
section
set_option maxHeartbeats 3999000
namespace L2
open PySem PySem.Spec PyProof.Rows
section
variable {X:Cx} {x:Str} {S:Addr} {body suite:List Stmt} {b₀:Stmt} {tb:XK→TS} {th:TS} {np hpos pos:Pos}
end
end L2
end
section
namespace L2
open PySem PySem.Spec PyProof.Rows
def zls (sc:Scope) (x:Str):Bool:=match sc.names.lookup x with
 | some .local=>true
 | some .cell=>true
 | some .free=>true
 | _=>false
theorem zj8 {sc:Scope} {x:Str} (h:zls sc x=true):Vis sc x:=by
 unfold zls at h
 unfold Vis
 cases e:sc.names.lookup x with
 | none=>rw [e] at h; cases h
 | some k=>cases k <;> simp_all
def pvB (N:List Str) (sc:Scope) (i:Nat) (x:Str):Bool:=decide (N[i]? = some x) && zls sc x && !(x == ("__debug__" : Str)) && !(x == ("__classdict__" : Str))
theorem pvx {X:Cx} (i:Nat) {x:Str} {pos:Pos} (h:pvB X.N X.env.scope i x=true):PE X (.Name x pos) (zlI i):=by
 unfold pvB at h
 simp only [Bool.and_eq_true,Bool.not_eq_true',decide_eq_true_eq] at h
 exact zkU h.1.1.1 (zj8 h.1.1.2) h.1.2 h.2
end L2
end
section
set_option maxHeartbeats 3999000
namespace My
open PySem L2 PyProof.Rows
theorem Paired.get {α β:Type} {F:α→β→Prop}:∀ {l₁:List α} {l₂:List β},Paired F l₁ l₂→∀ {i:Nat} {a:α},l₁[i]? = some a→∃ b,l₂[i]? = some b∧F a b
 | _,_,.nil,i,a,h=>by simp at h
 | _,_,.cons r t,0,a,h=>by
  (simp only [List.getElem?_cons_zero,Option.some.injEq] at h)
  subst h
  exact⟨_,rfl,r⟩
 | _,_,.cons r t,i+1,a,h=>by
  rw [List.getElem?_cons_succ] at h
  obtain⟨b,hb,f⟩:=Paired.get t h
  exact⟨b,by rw [List.getElem?_cons_succ]; exact hb,f⟩
end My
end
section
set_option maxHeartbeats 3999000
namespace My
open PySem L2 PyProof.Rows
theorem zcX {p a y:Int} (hp:p∈zH) (ha0:a % p≠0) (h:Cg p (a*y) 0):Cg p y 0:=by
 have rp:=zU hp
 have g0:=Int.emod_nonneg a (show p≠0 by omega)
 have g1:=Int.emod_lt_of_pos a (show 0 < p by omega)
 have hi:=zgo hp (h:=a % p) (by omega) g1
 have h1:Cg p (inv p (a % p)*(a % p)*y) (1*y):=hi.mul (Cg.refl p y)
 have h2:Cg p (inv p (a % p)*(a % p)*y) (inv p (a % p)*(a*y)):=by
  have:=((Cg.refl p (inv p (a % p))).mul (Cg.emod p a)).mul (Cg.refl p y)
  exact this.trans (Cg.of_eq (by grind))
 have h3:=(Cg.refl p (inv p (a % p))).mul h
 exact (Cg.of_eq (by omega)).trans (h1.symm.trans (h2.trans (h3.trans (Cg.of_eq (by omega)))))
def IsP (p:Int) (k:Nat) (q:List Int):Prop:=q.length=k∧∀ c∈q,0≤c∧c < p
def hps:List Int→List (Option Int)→List (Int×Int)
 | x :: pl,some y :: rw=>(x,y) :: hps pl rw
 | _ :: pl,none :: rw=>hps pl rw
 | _,_=>[]
theorem zdQ:∀ {pl:List Int} {rw:List (Option Int)} {i:Nat} {x:Int} {o:Option Int},pl[i]? = some x→rw[i]? = some o→hps (pl.take (i+1)) (rw.take (i+1))=hps (pl.take i) (rw.take i)++(match o with | some y=>[(x,y)] | none=>[])
 | [],_,i,x,o,h,_=>by simp at h
 | _ :: _,[],i,x,o,_,h=>by simp at h
 | a :: pl,b :: rw,0,x,o,h1,h2=>by
  simp only [List.getElem?_cons_zero,Option.some.injEq] at h1 h2
  subst h1 h2
  cases b <;> rfl
 | a :: pl,b :: rw,i+1,x,o,h1,h2=>by
  rw [List.getElem?_cons_succ] at h1 h2
  have ih:=zdQ h1 h2
  cases b with
  | none=>exact ih
  | some y =>
   show (a,y) :: hps (pl.take (i+1)) (rw.take (i+1))=(a,y) :: hps (pl.take i) (rw.take i)++_
   rw [ih]
   rfl
theorem zce:∀ (pl:List Int) (rw:List (Option Int)),(hps pl rw).length≤pl.length
 | [],rw=>by unfold hps; simp
 | a :: pl,[]=>by unfold hps; simp
 | a :: pl,none :: rw=>by
  have:=zce pl rw
  show (hps pl rw).length≤pl.length+1
  omega
 | a :: pl,some y :: rw=>by
  have:=zce pl rw
  show (hps pl rw).length+1≤pl.length+1
  omega
theorem zcf:∀ {pl:List Int} {rw:List (Option Int)} {a:Int×Int},a∈hps pl rw→a.1∈pl∧some a.2∈rw
 | [],_,a,h=>by unfold hps at h; cases h
 | _ :: _,[],a,h=>by unfold hps at h; cases h
 | x :: pl,none :: rw,a,h=>by
  obtain⟨h1,h2⟩:=zcf (pl:=pl) (rw:=rw) h
  exact⟨List.mem_cons_of_mem _ h1,List.mem_cons_of_mem _ h2⟩
 | x :: pl,some y :: rw,a,h=>by
  rcases (List.mem_cons.mp h) with rfl | h
  ·exact⟨List.mem_cons_self,List.mem_cons_self⟩
  ·obtain⟨h1,h2⟩:=zcf (pl:=pl) (rw:=rw) h
   exact⟨List.mem_cons_of_mem _ h1,List.mem_cons_of_mem _ h2⟩
theorem ze6:∀ (pl:List Int) (rw:List (Option Int)),((hps pl rw).map (·.1)).Sublist pl
 | [],_=>by unfold hps; exact List.nil_sublist _
 | _ :: _,[]=>by unfold hps; exact List.nil_sublist _
 | x :: pl,none :: rw=>(ze6 pl rw).cons _
 | x :: pl,some y :: rw=>(ze6 pl rw).cons_cons _
theorem zhd {p:Int} {pl:List Int} {rw:List (Option Int)} (h1:pl.Nodup) (h2:∀ x∈pl,0≤x∧x < p) (h3:∀ z,some z∈rw→0≤z∧z < p):Pts p (hps pl rw) :=
 ⟨(ze6 pl rw).nodup h1,fun q hq=>⟨(h2 _ (zcf hq).1).1,(h2 _ (zcf hq).1).2,(h3 _ (zcf hq).2).1,(h3 _ (zcf hq).2).2⟩⟩
end My
end
section
set_option maxHeartbeats 3999000
namespace My
open PySem L2 PyProof.Rows
def sm:Nat→(Nat→Int)→Int
 | 0,_=>0
 | n+1,f=>sm n f+f n
theorem zar {f g:Nat→Int}:∀ {n:Nat},(∀ i,i < n→f i=g i)→sm n f=sm n g
 | 0,_=>rfl
 | n+1,h=>by
  show sm n f+f n=sm n g+g n
  rw [zar (n:=n) fun i hi=>h i (by omega),h n (by omega)]
theorem zdb {p:Int} {f g:Nat→Int}:∀ {n:Nat},(∀ i,i < n→Cg p (f i) (g i))→Cg p (sm n f) (sm n g)
 | 0,_=>Cg.refl _ _
 | n+1,h=>(zdb (n:=n) fun i hi=>h i (by omega)).add (h n (by omega))
theorem zgA {f g:Nat→Int}:∀ n:Nat,sm n (fun i=>f i+g i)=sm n f+sm n g
 | 0=>rfl
 | n+1=>by
  show sm n (fun i=>f i+g i)+(f n+g n)=sm n f+f n+(sm n g+g n)
  rw [zgA n]
  omega
theorem zdR {c:Int} {f:Nat→Int}:∀ n:Nat,sm n (fun i=>c*f i)=c*sm n f
 | 0=>by show (0:Int)=c*0; omega
 | n+1=>by
  show sm n (fun i=>c*f i)+c*f n=c*(sm n f+f n)
  rw [zdR n,Int.mul_add]
theorem zaU {f:Nat→Int}:∀ {n:Nat},(∀ i,i < n→f i=0)→sm n f=0
 | 0,_=>rfl
 | n+1,h=>by
  show sm n f+f n=0
  rw [zaU (n:=n) fun i hi=>h i (by omega),h n (by omega)]
  rfl
theorem zi4 {f:Nat→Int} {j:Nat}:∀ {n:Nat},j < n→(∀ i,i < n→i≠j→f i=0)→sm n f=f j
 | 0,hj,_=>by omega
 | n+1,hj,h=>by
  show sm n f+f n=f j
  by_cases e:j=n
  ·subst e
   rw [zaU fun i hi=>h i (by omega) (by omega)]
   omega
  ·rw [zi4 (n:=n) (by omega) fun i hi hne=>h i (by omega) hne,h n (by omega) (by omega)]
   omega
theorem zdx {f:Nat→Int}:∀ n:Nat,sm (n+1) f=f 0+sm n (fun i=>f (i+1))
 | 0=>by show (0:Int)+f 0=f 0+0; omega
 | n+1=>by
  show sm (n+1) f+f (n+1)=f 0+(sm n (fun i=>f (i+1))+f (n+1))
  rw [zdx n]
  omega
theorem ze7 {f:Nat→Int} {m:Nat}:∀ {n:Nat},m≤n→(∀ i,m≤i→i < n→f i=0)→sm n f=sm m f
 | 0,h,_=>by rw [show m=0 by omega]
 | n+1,h,hz=>by
  by_cases e:m=n+1
  ·rw [e]
  ·show sm n f+f n=_
   rw [ze7 (n:=n) (by omega) fun i h1 h2=>hz i h1 (by omega),hz n (by omega) (by omega)]
   omega
def gl (w:List Int) (y:Nat):Int:=w.getD y 0
theorem zbI {w:List Int} {y:Nat} {c:Int} (h:w[y]? = some c):gl w y=c:=by
 unfold gl
 rw [List.getD_eq_getElem?_getD,h]
 rfl
theorem zgB {w:List Int} {y:Nat} (h:w.length≤y):gl w y=0:=by
 unfold gl
 rw [List.getD_eq_getElem?_getD,List.getElem?_eq_none h]
 rfl
theorem zaM {w:List Int} {y:Nat} (h:y < w.length):w[y]? = some (gl w y):=by
 rw [List.getElem?_eq_getElem h,zbI (List.getElem?_eq_getElem h)]
theorem zcx {w:List Int} {p:Int} (hp:0 < p) (h:∀ c∈w,0≤c∧c < p) (y:Nat):0≤gl w y∧gl w y < p:=by
 by_cases hy:y < w.length
 ·exact h _ (List.mem_of_getElem? (zaM hy))
 ·rw [zgB (by omega)]
  omega
theorem zi5 {f:Int→Int} {w:List Int} {y:Nat} (h:y < w.length):gl (w.map f) y=f (gl w y):=zbI (by rw [List.getElem?_map,zaM h]; rfl)
theorem zgC {f:Int→Int→Int} {v w:List Int} {y:Nat} (h:y < v.length) (h':y < w.length):gl (List.zipWith f v w) y=f (gl v y) (gl w y):=zbI (by rw [List.getElem?_zipWith,zaM h,zaM h'])
theorem zi6 {v w:List Int} (hl:v.length=w.length) (h:∀ y,y < v.length→gl v y=gl w y):v=w:=by
 refine List.ext_getElem? fun y=>?_
 by_cases hy:y < v.length
 ·rw [zaM hy,zaM (by omega),h y hy]
 ·rw [List.getElem?_eq_none (by omega),List.getElem?_eq_none (by omega)]
def vx (vs:List (List Int)) (i x:Nat):Int:=gl (vs.getD i []) x
def Rel (p:Int) (L N:Nat) (vs:List (List Int)) (u:Nat→Int):Prop:=∀ x,x < L→Cg p (u x) (sm N fun i=>u (L+i)*vx vs i x)
theorem Rel.sub {p:Int} {L N:Nat} {vs:List (List Int)} {u w r:Nat→Int} (hu:Rel p L N vs u) (hw:Rel p L N vs w) (t:Int) (hr:∀ y,y < L+N→Cg p (r y) (u y - t*w y)):Rel p L N vs r:=fun x hx=>by
 refine (hr x (by omega)).trans (((hu x hx).sub ((Cg.refl p t).mul (hw x hx))).trans ?_)
 have e:sm N (fun i=>u (L+i)*vx vs i x) - t*sm N (fun i=>w (L+i)*vx vs i x)=sm N (fun i=>(u (L+i) - t*w (L+i))*vx vs i x):=by
  rw [show ∀ a b:Int,a - t*b=a+(-t)*b by intros; grind,← zdR,← zgA]
  exact zar fun i _=>by grind
 rw [e]
 exact zdb fun i hi=>(hr (L+i) (by omega)).symm.mul (Cg.refl _ _)
structure Ech (p:Int) (L N m:Nat) (vs:List (List Int)) (cl:List (Nat×List Int)):Prop where
 ln:cl.length=m
 one:∀ (j:Nat) (a:Nat×List Int),cl[j]? = some a→a.1 < L∧a.2.length=L+N∧(∀ c∈a.2,0≤c∧c < p)∧Rel p L N vs (gl a.2)∧gl a.2 a.1=1∧∀ i,j < i→i < N→gl a.2 (L+i)=0
 up:∀ (j j':Nat) (a a':Nat×List Int),cl[j]? = some a→cl[j']? = some a'→j < j'→gl a'.2 a.1=0
 ii:∀ u:Nat→Int,Rel p L N vs u→(∀ i,m≤i→i < N→Cg p (u (L+i)) 0)→(∀ a∈cl,Cg p (u a.1) 0)→∀ i,i < N→Cg p (u (L+i)) 0
theorem Ech.start (p:Int) (L N:Nat) (vs:List (List Int)):Ech p L N 0 vs [] where
 ln:=rfl
 one:=fun _ _ h=>by simp at h
 up:=fun _ _ _ _ h=>by simp at h
 ii:=fun u _ h _ i hi=>h i (Nat.zero_le _) hi
structure Wh (p:Int) (L N m:Nat) (vs:List (List Int)) (cl:List (Nat×List Int)) (w:List Int):Prop where
 ln:w.length=L+N
 rg:∀ c∈w,0≤c∧c < p
 rel:Rel p L N vs (gl w)
 top:gl w (L+m)=1
 up:∀ j,m < j→j < N→gl w (L+j)=0
 z:∀ a∈cl,gl w a.1=0
theorem zfQ {p:Int} (hp:p∈zH) {L N m:Nat} {vs:List (List Int)} {v:List Int} (hm:m < N) (hv:vs[m]? = some v) (hl:v.length=L) (hr:∀ c∈v,0≤c∧c < p):Wh p L N m vs [] ((v++List.replicate N 0).set (L+m) 1):=by
 have rp:=zU hp
 have hlow:∀ y,y < L→gl ((v++List.replicate N 0).set (L+m) 1) y=gl v y:=fun y hy=>zbI (by
  rw [List.getElem?_set_ne (by omega),List.getElem?_append_left (by omega),zaM (by omega)])
 have htop:gl ((v++List.replicate N 0).set (L+m) 1) (L+m)=1:=zbI (by
  rw [List.getElem?_set_self (by rw [List.length_append,List.length_replicate]; omega)])
 have hz:∀ j,j < N→j≠m→gl ((v++List.replicate N 0).set (L+m) 1) (L+j)=0:=fun j hj hne=>zbI (by
  rw [List.getElem?_set_ne (by omega),List.getElem?_append_right (by omega),List.getElem?_replicate]
  rw [if_pos (by omega)])
 refine⟨by rw [List.length_set,List.length_append,List.length_replicate,hl],fun c hc=>?_,fun x hx=>?_,htop,fun j h1 h2=>hz j h2 (by omega),fun a ha=>by cases ha⟩
 ·rcases List.mem_or_eq_of_mem_set hc with h | rfl
  ·rcases (List.mem_append.mp h) with h | h
   ·exact hr c h
   ·rw [List.eq_of_mem_replicate h]; omega
  ·omega
 ·rw [hlow x hx,zi4 (j:=m) hm fun i hi hne=>by rw [hz i hi hne,Int.zero_mul],htop,Int.one_mul]
  unfold vx
  rw [List.getD_eq_getElem?_getD,hv]
  exact Cg.refl _ _
theorem zhe {p:Int} (hp:p∈zH) {L N m i:Nat} {vs:List (List Int)} {cl:List (Nat×List Int)} {w:List Int} {a:Nat×List Int} (E:Ech p L N m vs cl) (hm:m < N) (ha:cl[i]? = some a) (W:Wh p L N m vs (cl.take i) w) :
  Wh p L N m vs (cl.take (i+1)) (List.zipWith (fun x y=>(x - gl w a.1*y) % p) w a.2):=by
 have rp:=zU hp
 obtain⟨a1,a2,a3,a4,a5,a6⟩:=E.one i a ha
 have him:i < m:=by rw [← E.ln]; exact (List.getElem?_eq_some_iff.mp ha).1
 have hg:∀ y,y < L+N→gl (List.zipWith (fun x y=>(x - gl w a.1*y) % p) w a.2) y=(gl w y - gl w a.1*gl a.2 y) % p:=fun y hy=>zgC (by rw [W.ln]; exact hy) (by omega)
 refine⟨by rw [List.length_zipWith,W.ln,a2,Nat.min_self],fun c hc=>?_,W.rel.sub a4 (gl w a.1) fun y hy=>by rw [hg y hy]; exact Cg.emod _ _,?_,fun j h1 h2=>?_,fun b hb=>?_⟩
 ·obtain⟨x,y,rfl⟩:=zdI hc
  exact⟨Int.emod_nonneg _ (by omega),Int.emod_lt_of_pos _ (by omega)⟩
 ·rw [hg _ (by omega),W.top,a6 m him hm,Int.mul_zero,Int.sub_zero]
  exact Int.emod_eq_of_lt (by omega) (by omega)
 ·rw [hg _ (by omega),W.up j h1 h2,a6 j (by omega) h2,Int.mul_zero]
  rfl
 ·rw [take_snoc ha] at hb
  rcases (List.mem_append.mp hb) with hb | hb
  ·obtain⟨j,hj⟩:=List.getElem?_of_mem hb
   have hji:j < i:=by
    have:=(List.getElem?_eq_some_iff.mp hj).1
    rw [List.length_take] at this
    omega
   have hj':cl[j]? = some b:=by rw [List.getElem?_take_of_lt hji] at hj; exact hj
   have hb1:=(E.one j b hj').1
   rw [hg _ (by omega),W.z b hb,E.up j i b a hj' ha hji,Int.mul_zero]
   rfl
  ·obtain rfl:b=a:=by simpa using hb
   rw [hg _ (by omega),a5,Int.mul_one,Int.sub_self]
   rfl
theorem zfR {p:Int} (hp:p∈zH) {L N m:Nat} {vs:List (List Int)} {cl:List (Nat×List Int)} {w:List Int} {ld:Nat} (E:Ech p L N m vs cl) (hm:m < N) (W:Wh p L N m vs cl w) (hld:ld < L) (h0:gl w ld≠0) :
  Ech p L N (m+1) vs (cl++[(ld,w.map fun x=>x*inv p (gl w ld) % p)]):=by
 have rp:=zU hp
 obtain⟨g0,g1⟩:=zcx (show 0 < p by omega) W.rg ld
 have hi:=zgo hp (h:=gl w ld) (by omega) g1
 have hg:∀ y,y < L+N→gl (w.map fun x=>x*inv p (gl w ld) % p) y=gl w y*inv p (gl w ld) % p:=fun y hy=>zi5 (f:=fun x=>x*inv p (gl w ld) % p) (by rw [W.ln]; exact hy)
 have hat:∀ j a,(cl++[(ld,w.map fun x=>x*inv p (gl w ld) % p)])[j]? = some a→(j < m∧cl[j]? = some a)∨(j=m∧a=(ld,w.map fun x=>x*inv p (gl w ld) % p)):=fun j a h=>by
  by_cases hj:j < m
  ·rw [List.getElem?_append_left (by rw [E.ln]; exact hj)] at h
   exact .inl ⟨hj,h⟩
  ·rw [List.getElem?_append_right (by rw [E.ln]; omega),E.ln] at h
   have hj0:j - m=0:=by
    have:=(List.getElem?_eq_some_iff.mp h).1
    simp at this
    omega
   rw [hj0] at h
   exact .inr ⟨by omega,(by simpa using h.symm)⟩
 refine⟨by rw [List.length_append,E.ln]; rfl,fun j a h=>?_,fun j j' a a' h h' hlt=>?_,fun u hu hup hz i hi'=>?_⟩
 ·rcases hat j a h with ⟨_,h⟩ | ⟨rfl,rfl⟩
  ·exact E.one j a h
  ·refine⟨hld,by rw [List.length_map,W.ln],fun c hc=>?_,?_,?_,fun i h1 h2=>?_⟩
   ·obtain⟨x,_,rfl⟩:=List.mem_map.mp hc
    exact⟨Int.emod_nonneg _ (by omega),Int.emod_lt_of_pos _ (by omega)⟩
   ·refine Rel.sub (u:=fun _=>0) (fun x _=>Cg.of_eq (zaU fun i _=>Int.zero_mul _).symm) W.rel (-inv p (gl w ld)) fun y hy=>?_
    rw [hg y hy]
    exact (Cg.emod _ _).trans (Cg.of_eq (by grind))
   ·rw [hg ld (by omega)]
    have h2:Cg p (gl w ld*inv p (gl w ld)) 1:=(Cg.of_eq (Int.mul_comm _ _)).trans hi
    rw [h2.mod_eq]
    exact Int.emod_eq_of_lt (by omega) (by omega)
   ·rw [hg _ (by omega),W.up i h1 h2,Int.zero_mul]
    rfl
 ·rcases hat j' a' h' with ⟨hj',h'⟩ | ⟨rfl,rfl⟩
  ·rcases hat j a h with ⟨_,h⟩ | ⟨rfl,_⟩
   ·exact E.up j j' a a' h h' hlt
   ·omega
  ·rcases hat j a h with ⟨_,h⟩ | ⟨rfl,_⟩
   ·have:=(E.one j a h).1
    rw [hg _ (by omega),W.z a (List.mem_of_getElem? h),Int.zero_mul]
    rfl
   ·omega
 ·have hru:Rel p L N vs (fun y=>u y - u (L+m)*gl w y):=hu.sub W.rel (u (L+m)) fun y _=>Cg.refl _ _
  have hall:=E.ii (fun y=>u y - u (L+m)*gl w y) hru (fun i h1 h2=>by
   by_cases e:i=m
   ·subst e
    show Cg p (u (L+i) - u (L+i)*gl w (L+i)) 0
    rw [W.top]
    exact Cg.of_eq (by omega)
   ·show Cg p (u (L+i) - u (L+m)*gl w (L+i)) 0
    rw [W.up i (by omega) h2,Int.mul_zero,Int.sub_zero]
    exact hup i (by omega) h2) (fun a ha=>by
   show Cg p (u a.1 - u (L+m)*gl w a.1) 0
   rw [W.z a ha,Int.mul_zero,Int.sub_zero]
   exact hz a (List.mem_append_left _ ha))
  have hlead:Cg p (u ld - u (L+m)*gl w ld) 0:=(hru ld hld).trans ((zdb (g:=fun _=>0) fun i hi=>((hall i hi).mul (Cg.refl _ _)).trans (Cg.of_eq (Int.zero_mul _))).trans (Cg.of_eq (zaU fun _ _=>rfl)))
  have hul:=hz (ld,_) (List.mem_append_right _ (List.mem_singleton.mpr rfl))
  have hc:Cg p (gl w ld*u (L+m)) 0:=by
   have:=hul.sub hlead
   exact (Cg.of_eq (by show gl w ld*u (L+m)=u ld - (u ld - u (L+m)*gl w ld); grind)).trans (this.trans (Cg.of_eq (by omega)))
  have hc0:Cg p (u (L+m)) 0:=zcX hp (by rw [Int.emod_eq_of_lt g0 g1]; exact h0) hc
  have:=hall i hi'
  have h3:=this.add (hc0.mul (Cg.refl p (gl w (L+i))))
  exact (Cg.of_eq (by show u (L+i)=u (L+i) - u (L+m)*gl w (L+i)+u (L+m)*gl w (L+i); omega)).trans (h3.trans (Cg.of_eq (by omega)))
def Indep (p:Int) (L:Nat) (vs:List (List Int)):Prop:=∀ u:Nat→Int,(∀ x,x < L→Cg p (sm vs.length fun i=>u i*vx vs i x) 0)→∀ i,i < vs.length→Cg p (u i) 0
def Dep (p:Int) (L:Nat) (vs:List (List Int)) (c:List Int):Prop:=∀ x,x < L→Cg p (sm vs.length fun i=>gl c i*vx vs i x) 0
theorem zi7 {p:Int} {L:Nat} {vs:List (List Int)} {cl:List (Nat×List Int)} (E:Ech p L vs.length vs.length vs cl):Indep p L vs:=fun u hu i hi=>by
 have h:=E.ii (fun y=>if y < L then sm vs.length (fun i=>u i*vx vs i y) else u (y - L)) (fun x hx=>?_) (fun i h1 h2=>by omega) (fun a ha=>?_) i hi
 ·rw [if_neg (by omega),Nat.add_sub_cancel_left] at h
  exact h
 ·dsimp only
  rw [if_pos hx]
  refine Cg.of_eq (zar fun i _=>?_)
  rw [if_neg (by omega),Nat.add_sub_cancel_left]
 ·obtain⟨j,hj⟩:=List.getElem?_of_mem ha
  have:=(E.one j a hj).1
  rw [if_pos this]
  exact hu _ this
theorem zi8 {p:Int} {L m:Nat} {vs:List (List Int)} {cl:List (Nat×List Int)} {w:List Int} (W:Wh p L vs.length m vs cl w) (hm:m < vs.length) (hz:∀ x,x < L→gl w x=0) :
  IsP p (m+1) ((w.drop L).take (m+1))∧gl ((w.drop L).take (m+1)) m=1∧Dep p L vs ((w.drop L).take (m+1)):=by
 have hg:∀ i,i≤m→gl ((w.drop L).take (m+1)) i=gl w (L+i):=fun i hi=>zbI (by
  rw [List.getElem?_take_of_lt (by omega),List.getElem?_drop]
  exact zaM (by rw [W.ln]; omega))
 have hl:((w.drop L).take (m+1)).length=m+1:=by
  rw [List.length_take,List.length_drop,W.ln]
  omega
 refine⟨⟨hl,fun c hc=>W.rg c (List.mem_of_mem_drop (List.mem_of_mem_take hc))⟩,by rw [hg m (Nat.le_refl _)]; exact W.top,fun x hx=>?_⟩
 have h:=W.rel x hx
 rw [hz x hx] at h
 refine Cg.trans (Cg.of_eq (zar fun i hi=>?_)) h.symm
 by_cases e:i≤m
 ·rw [hg i e]
 ·rw [W.up i (by omega) hi,zgB (by omega)]
end My
end
section
set_option maxHeartbeats 3999000
namespace My
open PySem L2 PyProof.Rows
def PtB (H:Hp):List Addr→List (Int×Int)→Prop:=Paired fun b q=>H b=some (.tup [.int q.1,.int q.2])
theorem PtB.same {H H':Hp} (s:zy H H') {bs:List Addr} {pts:List (Int×Int)} (h:PtB H bs pts):PtB H' bs pts:=Paired.mono (fun _ _ z=>s _ _ z) h
def zd9 (H:Hp):List Addr→List (List Int)→Prop:=Paired fun r q=>H r=some (.tup (q.map V.int))
theorem zd9.same {H H':Hp} (s:zy H H') {rs:List Addr} {qs:List (List Int)} (h:zd9 H rs qs):zd9 H' rs qs:=Paired.mono (fun _ _ z=>s _ _ z) h
def zj9 (K:PySem.W.Frag):Sp:=fun vs H Q _=>∃ (c tt r:Addr) (p k:Int) (pl:List Int) (rw:List (Option Int)),vs = [.ref c,.ref r]∧zb4 H c tt p k pl∧RowAt K H r pl.length rw∧pl.length≤1000 ∧
 ∀ (l:Addr) (bs:List Addr) (H':Hp),H l=none→zy H H'→H' l=some (.lst (bs.map V.ref))→PtB H' bs (hps pl rw)→Q (.ref l) H'
end My
end
section
set_option maxHeartbeats 3999000
namespace My
open PySem L2 PyProof.Rows
end My
end
section
set_option maxHeartbeats 3999000
namespace L2
open PySem PySem.Spec PyProof.Rows
def Itd (d:Addr) (o:Obj) (kvs:List (List Key×V)):It :=
 ⟨fun i H=>H d=some (.frz o (.dT kvs))∧i < kvs.length,fun i H x H'=>H'=H∧∃ a k,x = .ref a∧(kvs.map (·.1))[i]? = some k∧H a=some (.tup (k.map kV)),fun i H=>H d=some (.frz o (.dT kvs))∧kvs.length≤i⟩
theorem zi9 {P:Program} {w:World} {H:Hp} {h:Heap} {d:Addr} {o:Obj} {kvs:List (List Key×V)} {es:Array DictEntry} {ep:Nat} (hd:o.data = .dict es ep) (x:z7 P w H h d (.frz o (.dT kvs))) :
  zhU h d es ep∧es.size=kvs.length∧∀ (i:Nat) (e:DictEntry),es[i]? = some e→∃ a k,e.key = .ref a∧(kvs.map (·.1))[i]? = some k∧H a=some (.tup (k.map kV)):=by
 obtain⟨ho,_,_,xs,hp,o',es',ep',ho',hx,he,hes,hnd⟩:=x
 have e1:o'=o:=by rw [ho] at ho'; exact (Option.some.inj ho').symm
 subst e1
 rw [he] at hd
 cases hd
 have hl:es.toList.length=kvs.length:=by rw [hes,List.length_map]; exact (Paired.length hp).symm
 refine⟨⟨o',ho,hx,he⟩,by simpa using hl,fun i e h=>?_⟩
 have h':es.toList[i]? = some e:=by rw [Array.getElem?_toList]; exact h
 rw [hes,List.getElem?_map] at h'
 cases hxi:xs[i]? with
 | none=>rw [hxi] at h'; cases h'
 | some x =>
  rw [hxi] at h'
  have he':e=entryOfKey (tupleKind (zan P w)) x:=(Option.some.inj h').symm
  have key:∀ {kvs:List (List Key×V)} {xs:List (List Key×Addr×Value)},Paired (fun (p:List Key×V) (q:List Key×Addr×Value)=>p.1=q.1∧H q.2.1=some (.tup (p.1.map kV))∧RelV p.2 q.2.2) kvs xs→∀ (i:Nat) x,xs[i]? = some x→∃ p,kvs[i]? = some p∧H x.2.1=some (.tup (p.1.map kV)):=by
   intro kvs xs hp
   induction hp with
   | nil=>intro i x h; simp at h
   | cons h1 _ ih =>
    intro i x h
    cases i with
    | zero =>
     (simp only [List.getElem?_cons_zero,Option.some.injEq] at h)
     subst h
     exact⟨_,rfl,h1.2.1⟩
    | succ i =>
     rw [List.getElem?_cons_succ] at h
     obtain⟨p,hp,hh⟩:=ih i x h
     exact⟨p,by rw [List.getElem?_cons_succ]; exact hp,hh⟩
  obtain⟨p,hp',hh⟩:=key hp i x hxi
  exact⟨x.2.1,p.1,by rw [he']; rfl,by rw [List.getElem?_map,hp']; rfl,hh⟩
theorem zka {P:Program} {w:World} {K:PySem.W.Frag} {tg:Expr} (d it:Addr) (o:Obj) (kvs:List (List Key×V)) (es:Array DictEntry) (ep:Nat) (hd:o.data = .dict es ep):Turn P w K tg (Itd d o kvs) [it] it (fun i h=>h.IsKeyIter it d i es.size ep) where
 mem:=by simp
 obj:=fun i h st b hb=>by
  have e:b=it:=by simpa using hb
  subst e
  obtain⟨o,e,c,d⟩:=st
  exact⟨o,e,fun v z=>by rw [d] at z; cases z⟩
 keep:=fun i h h' st k=>st.at fun o e=>k it (by simp) o e
 item:=by
  intro X hP hw hK hc i pins s σ H E I hf st hg
  subst hP hw hK
  obtain⟨hq,hi⟩:=hg
  obtain⟨hraw,hsz,hkey⟩:=zi9 hd (I.hok d _ hq)
  have hi':i < es.size:=by omega
  obtain⟨a,k,he,hk,ha⟩:=hkey i es[i] (getElem?_pos es i hi')
  obtain⟨f0,f1,f2,f3,f4,f5⟩:=hf it (by simp)
  refine zi3 st hraw (getElem?_pos es i hi') fun h' st' sb=>?_
  have I1:Inv X pins σ H { s with heap:=h' }:=I.turned (t':=s.toks) (fun b o hb e=>(sb.2 b hb).trans e) f0 f1 f3 f4 f5
  obtain⟨o,e,c,d⟩:=id st'
  exact⟨_,rfl,zgW (s:={ s with heap:=h' }) e c d (by decide) ⟨.ref a,H,I1,by rw [he]; rfl,⟨rfl,a,k,rfl,hk,ha⟩,st',fun b hb=>(hf b hb).1⟩⟩
 done:=by
  intro X hP hw hK hc i pins s σ H E I hf st hg
  subst hP hw hK
  obtain⟨hq,hi⟩:=hg
  obtain⟨hraw,hsz,hkey⟩:=zi9 hd (I.hok d _ hq)
  obtain⟨f0,f1,f2,f3,f4,f5⟩:=hf it (by simp)
  exact zj6 (I.ok.hd hc) st hraw (by omega) fun h' eb=>⟨rfl,I.turned (t':=s.toks) (fun b o hb e=>eb b o hb e) f0 f1 f3 f4 f5⟩
 self:=fun _ _ _ _ _ st h=>wpAny_pyIter_keyiter st h
theorem Inv.frzT {X:Cx} {pins:List (Addr×Obj)} {σ:St} {H:Hp} {s:Shared} {d:Addr} {o:Obj} {kvs:List (List Key×V)} (I:Inv X pins σ H s) (hd:H d=some (.dT kvs)) (ho:s.heap.get? d=some o):Inv X pins σ (upd H d (.frz o (.dT kvs))) s:=by
 have ne:∀ b u,H b=some u→(∀ k,u≠.dT k)→b≠d:=fun b u e n z=>by subst z; rw [hd] at e; exact n kvs (Option.some.inj e).symm
 have nn:∀ b,H b=none→b≠d:=fun b e z=>by subst z; rw [hd] at e; cases e
 have up:∀ b,H b=none→upd H d (.frz o (.dT kvs)) b=none:=fun b e=>by rw [zl (nn b e)]; exact e
 refine⟨I.ok,I.os,I.bare,⟨I.base.keep,I.base.slot,fun b u e n hx=>up b (I.base.free b u e n hx),I.base.there,fun b xs e=>?_,fun b u xs e=>?_,fun b ps e=>?_⟩,I.loc,I.cell,up _ I.free,fun x c e=>up _ (I.freeC x c e),fun p hp'=>?_,fun b u e=>?_,I.len⟩
 ·have:=I.base.tups b xs e
  rw [zl (ne b _ this fun k z=>by cases z)]
  exact this
 ·have:=I.base.frzs b u xs e
  rw [zl (ne b _ this fun k z=>by cases z)]
  exact this
 ·obtain⟨more,q⟩:=I.base.tbls b ps e
  exact⟨more,by rw [zl (ne b _ q fun k z=>by cases z)]; exact q⟩
 ·obtain⟨a1,a2,a3⟩:=I.pin p hp'
  exact⟨a1,up _ a2,a3⟩
 ·have stay:∀ {u:HO} {b:Addr},z7 X.prog X.w H s.heap b u→z7 X.prog X.w (upd H d (.frz o (.dT kvs))) s.heap b u:=fun {u b} x=>x.stay (fun c v _ q=>q) (fun c q=>by rw [zl (ne c _ q fun k z=>by cases z)]; exact q) fun c xs q=>by rw [zl (ne c _ q fun k z=>by cases z)]; exact q
  by_cases hb:b=d
  ·subst hb
   rw [zc] at e
   cases e
   exact⟨ho,stay (I.hok b _ hd)⟩
  ·rw [zl hb] at e
   exact stay (I.hok b u e)
def iDT (tl:TE):TI:=fun σ H R=>tl σ H fun x H1=>∃ d kvs,x = .ref d∧H1 d=some (.dT kvs)∧∀ o,R (Itd d o kvs) (upd H1 d (.frz o (.dT kvs)))
theorem zl8 {X:Cx} {tg l:Expr} {tl:TE} (hl:PE X l tl):PI X tg l (iDT tl):=by
 intro pins s σ H R I h
 refine thn (hl pins s σ H _ I h) fun v s1 ⟨x,H1,I1,r1,q1⟩=>?_
 obtain⟨d,kvs,e,hd,q⟩:=q1
 subst e
 cases r1
 obtain⟨hz,hs,xs,hp,o,es,ep,ho,hx,he,hes,hnd⟩:=I1.hok d _ hd
 have I2:=I1.frzT hd ho
 refine zi2 (es:=es) (ep:=ep) hs ⟨o,ho,hx,he⟩ ?_
 refine⟨s1.heap.objs.size,[s1.heap.objs.size],_,_,_,rfl,I2.kept (t':=s1.toks) fun b o e=>Heap.get?_push_of_some _ e,zka d _ o kvs es ep he,⟨_,Heap.get?_push_size _ rfl,rfl,rfl⟩,fun b hb=>?_,q o⟩
 have e:b=s1.heap.objs.size:=by simpa using hb
 subst e
 exact I2.fpOk (Nat.le_refl _) (I2.hok.fresh (Nat.le_refl _))
end L2
end
section
set_option maxHeartbeats 3999000
namespace My
open PySem L2 PyProof.Rows
theorem zlu {X:Cx} {st:Stmt} {ts:TS} (h:PS X st ts):PS X st (fun D σ H=>∃ Pv:L2.St→Hp→Prop,ts { D with nx:=Pv } σ H∧∀ σ' H',Pv σ' H'→D.nx σ' H'):=by
 intro pins s σ H D I hq
 obtain⟨Pv,h1,h2⟩:=hq
 refine thn (h pins s σ H _ I h1) fun f s1 q=>?_
 cases f with
 | next =>
  obtain⟨σ',H',I',p⟩:=q
  exact⟨σ',H',I',h2 _ _ p⟩
 | ret v=>exact q
 | brk=>exact q
 | cont=>exact q
end My
end
section
set_option maxHeartbeats 3999000
namespace L2
open PySem PySem.Spec PyProof.Rows
end L2
end
section
set_option maxHeartbeats 3999000
namespace HT
open PySem PySem.Spec PyProof.Rows
section
variable {prog:Program} {w:World} {A:Around} {E:Value→Shared→Prop} {s:Shared}
end
end HT
namespace L2
open PySem PySem.Spec PyProof.Rows
theorem zja {X:Cx} {K:PySem.W.Frag} {tg l:Expr} {tl:TE} (hK:X.K=K) (hl:PE X l tl):PI X tg l (zkC K tl):=by subst hK; exact z8 hl
end L2
end
section
set_option maxHeartbeats 3999000
namespace My
open PySem L2 PyProof.Rows
def zgD (K:PySem.W.Frag):Sp:=fun vs H Q _=>∃ (p tm:Int) (a b:Addr) (as bs:List Int),vs = [.int p,.ref a,.int tm,.ref b]∧H a=some (.lst (as.map V.int))∧H b=some (.lst (bs.map V.int))∧as.length=bs.length∧as.length≤1000∧0 < p∧0≤tm∧tm < 1000 ∧
 ∀ (l:Addr) (H':Hp),H l=none→zy H H'→H' l=some (.lst ((List.zipWith (fun x y=>(x - tm*y) % p) as bs).map V.int))→Q (.ref l) H'
def LsA (H:Hp):List Addr→List (List Int)→Prop:=Paired fun b v=>H b=some (.lst (v.map V.int))
theorem LsA.same {H H':Hp} (s:zy H H') {bs:List Addr} {vv:List (List Int)} (h:LsA H bs vv):LsA H' bs vv:=Paired.mono (fun _ _ z=>s _ _ z) h
def ClA (ca:Addr) (H:Hp):List Addr→List (Nat×List Int)→Prop:=Paired fun b a=>∃ wa,H b=some (.tup [.int (a.1:Int),.ref wa])∧H wa=some (.lst (a.2.map V.int))∧wa≠ca
theorem ClA.same {ca:Addr} {H H':Hp} (s:zy H H') {bs:List Addr} {cl:List (Nat×List Int)} (h:ClA ca H bs cl):ClA ca H' bs cl:=Paired.mono (fun _ _ ⟨wa,z1,z2,z3⟩=>⟨wa,s _ _ z1,s _ _ z2,z3⟩) h
theorem ClA.put {ca:Addr} {H:Hp} {bs:List Addr} {cl:List (Nat×List Int)} {xs:List V} {o:HO} (h:ClA ca H bs cl) (hf:H ca=some (.lst xs)):ClA ca (upd H ca o) bs cl:=Paired.mono (fun b _ ⟨wa,z1,z2,z3⟩=>⟨wa,by
 rw [zl (fun e=>by rw [e,hf] at z1; cases z1)]; exact z1,by rw [zl z3]; exact z2,z3⟩) h
theorem zkb {xs:List V} {a b:Nat} (h:b≤xs.length):zco xs (some (a:Int)) (some (b:Int))=(xs.drop a).take (b - a):=by
 unfold zco
 rw [HT.sIx_nat,HT.sIx_nat]
 by_cases ha:a≤xs.length
 ·rw [Nat.min_eq_left ha,Nat.min_eq_left h]
 ·rw [show min a xs.length=xs.length by omega,Nat.min_eq_left h,List.drop_of_length_le (Nat.le_refl _),List.drop_of_length_le (show xs.length≤a by omega),List.take_nil,List.take_nil]
end My
end
section
set_option maxHeartbeats 3996000
namespace L2
open PySem PySem.Spec PyProof.Rows
theorem zbm {X:Cx} (hc:X.calm=true):zbb X (.builtin "max") (fun xs H Q=>∃ (p:Addr) (ns:List Int),xs = [.ref p]∧SqL X.K H p (ns.map V.int)∧ns≠[]∧∀ M:Int,M∈ns→(∀ a∈ns,a≤M)→Q (.int M) H):=by
 intro pins s σ H xs us Q I r h
 obtain⟨p,ns,rfl,hq,hn,q⟩:=h
 obtain⟨u,rfl,rx⟩:=vals1 r
 cases rx
 obtain⟨its,rv,pl,hz⟩:=I.list hq
 have hi:IntsAre its ns:=by simpa using intsAre_of rv
 (obtain⟨xs,e⟩:=hi.allInts.items)
 have hns:ns=xs.toList.map (·.1):=by rw [← hi.numsOf,← nums_intItems,← e]
 have hsz:0 < xs.size:=by
  have h3:=List.length_pos_iff.mpr hn
  rw [hns,List.length_map,Array.length_toList] at h3
  exact h3
 have hl:=pl.isList
 rw [e] at hl
 refine max_intList (I.ok.hd hc) hl hsz fun v h' tk hv hk=>?_
 (obtain⟨t,rfl⟩:=intItems_at hv)
 (obtain⟨h1,h2⟩:=argBest_gt (numAt xs) (xs.size - 1))
 refine⟨.int _,H,I.kept hk,⟨_,rfl⟩,q _ ?_ fun a ha=>?_⟩
 ·(rw [hns,numAt_eq]; exact getD_mem (by rw [List.length_map,Array.length_toList]; omega))
 ·rw [hns] at ha
  (obtain⟨j,hj,rfl⟩:=mem_getD ha)
  (rw [List.length_map,Array.length_toList] at hj)
  (rw [← numAt_eq]; exact h2 j (by omega))
end L2
end
section
set_option maxHeartbeats 3995000
namespace PySem
open PyProof.Rows
section
variable {prog:Program} {w:World} {A:Around} {E:Value→Shared→Prop} {s:Shared}
end
end PySem
namespace L2
open PySem PySem.Spec PyProof.Rows
end L2
end
section
set_option maxHeartbeats 3998000
namespace L2
open PySem PySem.Spec PyProof.Rows
theorem zdS {X:Cx} {K:PySem.W.Frag} (hK:X.K=K):zbb X (.type "tuple") (fun xs H Q=>∃ p ys,xs = [.ref p]∧((SqL K H p ys∧∀ l,H l=none→Q (.ref l) (upd H l (.tup ys)))∨(SqT K H p ys∧Q (.ref p) H))):=by subst hK; exact za8
end L2
end
section
set_option maxHeartbeats 3998000
namespace PySem
theorem zdk:typeLookup (.type "zip") "__getattr__" = pure none:=by rw [typeLookup_type,builtinLookup_eq_fast]; kernel_rfl
theorem ze8:typeLookup (.type "zip") "keys" = pure none:=by rw [typeLookup_type,builtinLookup_eq_fast]; kernel_rfl
theorem zjb:entryFor table "zip.__getattribute__" = some Builtin.«object.__getattribute__»:=entryFor_alias (id':="object.__getattribute__") (by kernel_rfl) (by decide +kernel) (by decide +kernel) (by kernel_rfl)
theorem zjc (a:Addr) (xs:Array Value) (u:Tok) :
  Meets (Builtin.«object.__getattribute__» ⟨[.ref a,.str "keys" u],[]⟩) (fun A R s=>s.heap.get? a=some { cls:=.type "zip",dict:=none,data:=.fields xs,slots:=#[] }∧raisesAttr (.ref a) "keys" A R s) :=
 Meets.of_wp fun prog w A R s hs0=>by
  (obtain⟨hp,g,d,tk,os⟩:=s)
  obtain⟨hx,hs⟩:=hs0
  have hT:(⟨hp,g,d,tk,os⟩:Shared).TypeIs (.ref a) "zip":=⟨_,hx,rfl⟩
  have hmiss:=ze8
  (unfold Builtin.«object.__getattribute__»); repeat (any_goals (first | assumption | wp_step))
  exact wpAny_raiseAttrError hs.1 hs.2 (attrMsg_fits (by decide +kernel) (by rw [sizeLine_eq]; decide))
theorem zkc {prog:Program} {w:World} {A:Around} {E:Value→Shared→Prop} {s:Shared} {a:Addr} {xs:Array Value} {Q:Option Value→Shared→Prop}
  (hx:s.heap.get? a=some { cls:=.type "zip",dict:=none,data:=.fields xs,slots:=#[] }) (hA:A.handled=none)
  (h:∀ h' tk,(∀ b o,s.heap.get? b=some o→h'.get? b=some o)→Q none { s with heap:=h',toks:=tk }) :
  wpAny (model prog w) A (getAttr? (.ref a) "keys") Q E s:=by
 (obtain⟨hp,g,d,tk,os⟩:=s)
 have hT:∀ tk',(⟨hp,g,d,tk',os⟩:Shared).TypeIs (.ref a) "zip":=fun _=>⟨_,hx,rfl⟩
 have f1:=sub_AttributeError
 have f3:=F.slot_zip_getattribute.lookup
 have f4:=F.slot_zip_getattribute.bind (.ref a)
 have f5:=zdk
 (unfold getAttr? getAttrBy? getAttrBy)
 repeat (any_goals (first | assumption | exact hT _ | ((with_reducible show wpAny _ _ (call (Value.builtin "zip.__getattribute__") _ _) _ _ _); refine call_meets F.slot_zip_getattribute (hT _) zjb (F.args_zip_getattribute_2 _ _) (zjc a xs _) ⟨hx,hA,fun h' tk' e hx'=>?_⟩) | wp_step))
 (obtain⟨t',u',he⟩:=hx'.there)
 (show wpAny _ _ (getattributeRaised _ _ _ _ _ _ _) _ _ _)
 unfold getattributeRaised; repeat (any_goals (first | assumption | wp_step))
 exact h _ _ hx'.keeps
end PySem
end
section
set_option maxHeartbeats 3998000
namespace PySem
theorem zfS:entryFor table "dict.update.loop" = some Builtin.«dict.update.loop»:=entryFor_of_tree (by kernel_rfl)
theorem zcK:plainId "dict.update.loop" = true:=by decide +kernel
end PySem
namespace L2
open PySem PySem.Spec PyProof.Rows
abbrev zmz (n a b:Nat) (i:Nat) (h:Heap):Prop:=(∃ f0 f1,IsZ h (n+4) (n+2) (n+3) f0 f1∧ZF f0 f1)∧IsPair h (n+2) (.ref n) (.ref (n+1))∧(∃ u v,IsPair h (n+3) u v)∧h.IsListIter n a i∧h.IsListIter (n+1) b i
theorem zhV {κ:Type} [DecidableEq κ] {kvs:List (κ×V)} {k:κ} (h:k∉kvs.map (·.1)):zcw kvs k=none:=by
 unfold zcw
 rw [Option.map_eq_none_iff,List.find?_eq_none]
 intro kv hkv e
 have e:kv.1=k:=of_decide_eq_true e
 exact h (List.mem_map.mpr ⟨kv,hkv,e⟩)
theorem zjd {κ:Type} {ks:List κ} {ys:List V} {i:Nat} {k:κ} {y:V} (hk:ks[i]? = some k) (hy:ys[i]? = some y):(ks.zip ys).take (i+1)=(ks.zip ys).take i++[(k,y)]:=by
 have:(ks.zip ys)[i]? = some (k,y):=by rw [List.getElem?_zip_eq_some]; exact⟨hk,hy⟩
 rw [List.take_add_one,this,Option.toList]
theorem zkd {κ:Type} {ks:List κ} {ys:List V} {i:Nat} {k:κ} (hnd:ks.Nodup) (hk:ks[i]? = some k):k∉((ks.zip ys).take i).map (·.1):=by
 intro h
 obtain⟨q,hq,e⟩:=List.mem_map.mp h
 obtain⟨j,hj⟩:=List.mem_iff_getElem?.mp hq
 have hji:j < i:=by
  have:=(List.getElem?_eq_some_iff.mp hj).1
  rw [List.length_take] at this
  omega
 rw [List.getElem?_take_of_lt hji] at hj
 have hkj:ks[j]? = some k:=by
  have hj':(ks.zip ys)[j]? = some (q.1,q.2):=hj
  rw [List.getElem?_zip_eq_some] at hj'
  rw [hj'.1,e]
 have h1:=(List.getElem?_eq_some_iff.mp hkj).1
 have h2:=(List.getElem?_eq_some_iff.mp hk).1
 exact List.pairwise_iff_getElem.mp hnd j i h1 h2 hji (by rw [(List.getElem?_eq_some_iff.mp hkj).2,(List.getElem?_eq_some_iff.mp hk).2])
theorem zke {α β:Type} {R:α→β→Prop} {as:List α} {bs:List β} (h:Paired R as bs):∀ {i:Nat} {x:α},as[i]? = some x→∃ y,bs[i]? = some y∧R x y:=by
 induction h with
 | nil=>intro i x e; simp at e
 | cons h1 _ ih =>
  intro i x e
  cases i with
  | zero=>cases e; exact⟨_,rfl,h1⟩
  | succ i=>exact ih (by simpa using e)
theorem zch {n c:Nat} (h:c∈[n+4,n+3,n,n+1]):c∈zbB n:=by
 simp only [zbB,List.mem_cons,List.not_mem_nil,or_false] at h ⊢
 rcases h with z | z | z | z <;> subst z <;> simp
theorem zl9 {X:Cx} {pins:List (Addr×Obj)} {σ:St} {H:Hp} {s:Shared} {h':Heap} {tk n:Nat} (I:Inv X pins σ H s) (hf:∀ c∈zbB n,zbx X pins H c) (k1:∀ c o,c∉[n+4,n+3,n,n+1]→s.heap.get? c=some o→h'.get? c=some o):Inv X pins σ H { s with heap:=h',toks:=tk }:=by
 have nit:∀ d u',H d=some u'→d∉[n+4,n+3,n,n+1]:=fun d u' e' hd=>by rw [(hf d (zch hd)).1] at e'; cases e'
 refine I.step (g':=s.gens) (d':=s.drawn) (t':=tk) (ch:=[n+4,n+3,n,n+1]) (fun c hc'=>?_) (fun c o _ _ hcc e _=>k1 c o hcc e) (fun c o _ _ hcc e _=>⟨o.slots,k1 c o hcc e⟩) (fun _ _ _ _ n=>n)
  (fun c o hcc e=>⟨o,k1 c o hcc e⟩) (fun _ _ e=>e) (fun _ _ _ e=>e) (fun c ps e=>⟨#[],by rw [e]; simp⟩) (fun m hm=>?_) (fun c u e=>?_) I.bare
 ·obtain⟨_,a1,_,a3,a4,a5⟩:=hf c (zch hc')
  exact⟨a3,a1,a4,a5⟩
 ·obtain⟨o,es',ep,ho,r⟩:=hm
  exact⟨o,es',ep,k1 _ o (fun z=>(hf _ (zch z)).2.1 rfl) ho,r⟩
 ·refine (I.hok c u e).stay (fun d v' hd q=>k1 d v' ?_ q) (fun _ q=>q) fun _ _ q=>q
  rcases hd with z | z
  ·rw [z]; exact nit c u e
  ·exact nit d _ z
theorem zhW {X:Cx} {pins:List (Addr×Obj)} {σ:St} {H:Hp} {s:Shared} {a b:Addr} {kvs:List (List Key×V)} {k:List Key} {v:V} {r:Value} {A:Around} {E:Value→Shared→Prop} {Q:Unit→Shared→Prop} (hu:A.units+1 < cLine) (I:Inv X pins σ H s) (e:H a=some (.dT kvs)) (eb:H b=some (.tup (k.map kV))) (l:kvs.length < sizeLine) (rv:RelV v r)
  (h:∀ s',(∀ c o,c≠a→s.heap.get? c=some o→s'.heap.get? c=some o)→Inv X pins σ (upd H a (.dT (putK kvs k v))) s'→Q () s'):wpAny (model X.prog X.w) A.in1 (dictSet a (.ref b) r) Q E s:=by
 obtain⟨z,hd,xs,rel,dd⟩:=zl6 I.hok e
 have hz:xs.length≤sizeLine:=by rw [← Paired.length rel]; exact z
 have hl:(putK kvs k v).length≤sizeLine:=by have:=zfO kvs k v; omega
 refine wpAny_dictSet_heap (hsz:=hz) (tupleKind_room_in1 hu) (zgz I.hok eb) dd fun h' dd' hs=>h _ (fun c o hc eo=>hs.extBut c o hc eo) ?_
 obtain⟨q,es,ep,hq,h2,h3,h4,_,h5⟩:=dd'
 refine zj5 I (by rw [e]; exact True.intro) hs ⟨q,hq⟩ ⟨hl,hd,_,(rel.put k eb rv).keeps fun c ys ec=>?_,q,es,ep,hq,h2,h3,h4,h5⟩
 rw [zl (zlH ec e (fun z=>nomatch z))]
 exact ec
def KyA (H:Hp):List V→List (List Key)→Prop:=Paired fun x k=>∃ c,x = .ref c∧H c=some (.tup (k.map kV))
theorem zkf {X:Cx} {pins:List (Addr×Obj)} {σ:St} {A:Around} {R:Result→Shared→Prop} {H0:Hp} {a b n D:Nat} {xs ys:List V} {ks:List (List Key)} (hh:A.handled=none) (hu:A.units+1 < cLine) (ha:a < n) (hb:b < n)
  (hD:H0 D=none) (hfD:D∉zbB n) (hq1:SqL X.K H0 a xs) (hq2:SqL X.K H0 b ys) (hk:KyA H0 xs ks) (hnd:ks.Nodup) (hf:∀ c∈zbB n,zbx X pins H0 c)
  (hR:∀ s' H',Inv X pins σ H' s'→zy H0 H'→H' D=some (.dT (ks.zip ys))→R (.ok (.ret .none)) s') :
  ∀ (m i:Nat) (t:Tok) (s:Shared) (H:Hp),i+m=min xs.length ys.length→Inv X pins σ H s→zy H0 H→(∀ c∈zbB n,H c=none)→zmz n a b i s.heap→H D=some (.dT ((ks.zip ys).take i)) →
   codeAny (model X.prog X.w) A (.builtin "dict.update.loop" ⟨[.ref D,.ref (n+4),.int i t,.none],[]⟩) R s:=by
 intro m
 induction m with
 | zero =>
  intro i t s H hi I hs hn st hHD
  obtain⟨⟨f0,f1,h1,hzf⟩,h2,⟨u0,v0,h3⟩,h4,h5⟩:=st
  obtain⟨its1,rv1,p1,hz1⟩:=I.list (hs.seq hq1)
  obtain⟨its2,rv2,p2,hz2⟩:=I.list (hs.seq hq2)
  have hl1:=rv1.length
  have hl2:=rv2.length
  refine codeAny_builtin zfS ?_
  rw [Around.under_plainId zcK _]
  show wpAny _ A.in1 (pyNext (.ref (n+4)) >>= _) _ _ s
  have hh2:A.in1.in1.handled=none:=by simp [hh]
  refine wpAny_bind (ziQ (Draws.list hh2 n a (nq (by omega)) its1.toArray) (Draws.list hh2 (n+1) b (nq (by omega)) its2.toArray) (zdw ha hb) h1 hzf h2 h3 ⟨h4,p1.isList⟩ ⟨h5,p2.isList⟩ (by rw [List.size_toArray,List.size_toArray]; omega) fun h' tk kk=>?_)
  show wpAny _ A.in1 (Builtin.Dict.addKeywords D [] >>= _) _ _ _
  (refine wpAny_bind (wpAny_pure (wpAny_pure ?_)))
  have I1:Inv X pins σ H { s with heap:=h',toks:=tk }:=zl9 I (fun c hc=>⟨hn c hc,(hf c hc).2⟩) fun c o hc' e=>by
   simp only [List.mem_cons,List.not_mem_nil,or_false,not_or] at hc'
   exact kk c o hc'.1 hc'.2.1 hc'.2.2.1 hc'.2.2.2 e
  refine hR _ _ I1 hs ?_
  rw [hHD,List.take_of_length_le]
  rw [List.length_zip,← Paired.length hk]
  omega
 | succ m ih =>
  intro i t s H hi I hs hn st hHD
  obtain⟨⟨f0,f1,h1,hzf⟩,h2,⟨u0,v0,h3⟩,h4,h5⟩:=st
  obtain⟨its1,rv1,p1,hz1⟩:=I.list (hs.seq hq1)
  obtain⟨its2,rv2,p2,hz2⟩:=I.list (hs.seq hq2)
  have hl1:=rv1.length
  have hl2:=rv2.length
  have hx:xs[i]? = some (xs[i]'(by omega)):=List.getElem?_eq_getElem _
  have hy:ys[i]? = some (ys[i]'(by omega)):=List.getElem?_eq_getElem _
  generalize xs[i]'(by omega)=x at hx
  generalize ys[i]'(by omega)=y at hy
  obtain⟨u,huu,ru⟩:=rv1.get hx
  obtain⟨v,hv,rv⟩:=rv2.get hy
  refine codeAny_builtin zfS ?_
  rw [Around.under_plainId zcK _]
  show wpAny _ A.in1 (pyNext (.ref (n+4)) >>= _) _ _ s
  have hh2:A.in1.in1.handled=none:=by simp [hh]
  refine wpAny_bind (zhc (Draws.list hh2 n a (nq (by omega)) its1.toArray) (Draws.list hh2 (n+1) b (nq (by omega)) its2.toArray) (zdw ha hb) h1 hzf h2 h3 ⟨h4,p1.isList⟩ ⟨h5,p2.isList⟩ (by rw [List.size_toArray]; omega) (by rw [List.size_toArray]; omega)
   fun x' y' h' tk g0 g1 a' b' px py ez ezf e2 e3 t4 t5 pp hsz kk=>?_)
  have eu:x'=u:=by
   have e1:its1[i]? = some x':=by simpa using px
   rw [huu] at e1; exact (Option.some.inj e1).symm
  have ev:y'=v:=by
   have e1:its2[i]? = some y':=by simpa using py
   rw [hv] at e1; exact (Option.some.inj e1).symm
  subst eu ev
  obtain⟨k,hki,kc,rfl,hkc⟩:=zke hk hx
  cases ru
  have hff:∀ c∈zbB n,zbx X pins H c:=fun c hc=>⟨hn c hc,(hf c hc).2⟩
  have hes:n+4 < s.heap.objs.size:=Heap.lt_size h1
  have k1:∀ c o,c∉[n+4,n+3,n,n+1]→s.heap.get? c=some o→h'.get? c=some o:=fun c o hc' eo=>by
   simp only [List.mem_cons,List.not_mem_nil,or_false,not_or] at hc'
   exact kk c o hc'.1 hc'.2.1 hc'.2.2.1 hc'.2.2.2 eo
  have I1:Inv X pins σ H { s with heap:=h',toks:=tk }:=zl9 I hff k1
  show wpAny _ A.in1 (holding [.ref s.heap.objs.size] _ >>= _) _ _ _
  (refine wpAny_bind (wpAny_holding ?_))
  (refine wpAny_bind (wpAny_tryCatch ?_))
  unfold Builtin.Dict.pairItems
  have hT:({ s with heap:=h',toks:=tk }:Shared).TypeIs (.ref s.heap.objs.size) "tuple":=⟨_,pp,rfl⟩
  (refine wpAny_bind (wpAny_typeOf hT ?_))
  rw [if_pos (by decide)]
  refine wpAny_bind (wpAny_seqItems pp rfl (wpAny_pure ?_))
  show wpAny _ A.in1 (holding [.ref kc,y'] (dictSet D (.ref kc) y')) _ _ _
  have hlt:((ks.zip ys).take i).length < sizeLine:=by
   rw [List.length_take]
   omega
  refine wpAny_holding (zhW (A:=A) hu I1 hHD (hs _ _ hkc) hlt rv fun s2 k2 I2=>?_)
  rw [ziY _ (zhV (zkd hnd hki)),← zjd hki hy] at I2
  have nD:∀ c,c∈zbB n→c≠D:=fun c hc z=>hfD (by rw [← z]; exact hc)
  refine wpAny_pure ⟨plainId_quiet zcK _,?_⟩
  show codeAny _ A (.builtin "dict.update.loop" ⟨[.ref D,.ref (n+4),.int ((i+1:Nat):Int) _,.none],[]⟩) R s2
  refine ih (i+1) _ s2 _ (by omega) I2 (fun c o e=>?_) (fun c hc=>?_) ?_ zc
  ·rw [zl (zp e hD)]
   exact hs c o e
  ·rw [zl (nD c hc)]
   exact hn c hc
  ·exact⟨⟨g0,g1,k2 _ _ (nD _ (by simp)) ez,ezf⟩,k2 _ _ (nD _ (by simp)) e2,⟨_,_,k2 _ _ (nD _ (by simp)) e3⟩,t4.1.at fun o e=>k2 _ o (nD _ (by simp)) e,t5.1.at fun o e=>k2 _ o (nD _ (by simp)) e⟩
def tDZ (K:PySem.W.Frag) (ta:TA):TE:=fun σ H Q=>ta σ H fun vs H1=>∃ a b xs ys ks,vs = [.ref a,.ref b]∧SqL K H1 a xs∧SqL K H1 b ys∧KyA H1 xs ks∧ks.Nodup∧∀ D H',H1 D=none→zy H1 H'→H' D=some (.dT (ks.zip ys))→Q (.ref D) H'
theorem zgE {X:Cx} {p p2 pos pos2:Pos} {a b:Expr} {ta:TA} (hu:X.A.units+2 < cLine) (hc:X.calm=true) (hg:Gl X "dict") (hm:X.mg "dict" = none) (hg2:Gl X "zip") (hm2:X.mg "zip" = none) (ha:PA X [a,b] ta) (hs:starEach [a,b] X.env = [(false,eval a X.env),(false,eval b X.env)]:=by rfl) (hs2:starEach [b] X.env = [(false,eval b X.env)]:=by rfl)
  (hs3:starEach [.Call (.Name "zip" p2) [a,b] [] pos2] X.env = [(false,eval (.Call (.Name "zip" p2) [a,b] [] pos2) X.env)]:=by rfl) :
  PE X (.Call (.Name "dict" p) [.Call (.Name "zip" p2) [a,b] [] pos2] [] pos) (tDZ X.K ta):=by
 intro pins s σ H Q I h
 refine Call_ (zbn I hg hm boot_dict (PyProof.Rows.callWith_type1 ?_ hs3 rfl))
 rw [hs3]
 show wpAny _ _ (spliced ((false,eval (.Call (.Name "zip" p2) [a,b] [] pos2) X.env) :: [])) _ _ s
 refine Calls.spliced_cons ?_
 refine Call_ (zbn I hg2 hm2 boot_zip (PyProof.Rows.callWith_type1 (thn (ha pos2 pins s σ H _ I h) fun us s1 ⟨vs,H1,I1,r1,q1⟩=>?_) (by rw [hs,hs2]) (by rw [hs2]; rfl)))
 obtain⟨l1,l2,xs,ys,ks,e,hq1,hq2,hky,hnd,q⟩:=q1
 subst e
 cases r1 with
 | cons r rr =>
  cases rr with
  | cons r' rr =>
   cases rr
   cases r
   cases r'
   obtain⟨its1,rv1,pl1,hz1⟩:=I1.list hq1
   obtain⟨its2,rv2,pl2,hz2⟩:=I1.list hq2
   have hlt1:l1 < s1.heap.objs.size:=by obtain⟨_,_,e,_⟩:=pl1; exact Heap.lt_size e
   have hlt2:l2 < s1.heap.objs.size:=by obtain⟨_,_,e,_⟩:=pl2; exact Heap.lt_size e
   refine call_zip_2 pl1.isList pl2.isList fun h' b1 b2 b3 b4 b5 b6 kk=>?_
   refine Calls.spliced_nil ?_
   have I2:Inv X pins σ H1 { s1 with heap:=h' }:=I1.kept (t':=s1.toks) kk
   have hfp:∀ c∈zbB s1.heap.objs.size,zbx X pins H1 c:=fun c hc=>by
    have hle:s1.heap.objs.size≤c:=by
     simp only [zbB,List.mem_cons,List.not_mem_nil,or_false] at hc
     rcases hc with z | z | z | z | z <;> subst z
     all_goals first | exact Nat.le_add_right _ _ | exact Nat.le_refl _
    exact I1.fpOk hle (I1.hok.fresh hle)
   generalize hn:s1.heap.objs.size=n at b1 b2 b3 b4 b5 b6 hlt1 hlt2 hfp ⊢
   refine callType_codes (Q₁:=fun obj s₁=>obj = .ref h'.objs.size∧s₁ = { s1 with heap:=h'.push { cls:=.type "dict",data:=.dict #[] } }) F.kt_called_dict (F.kt_typeCall_dict_1 _) F.entry_dict_init (kt_code_dict_new _ ⟨rfl,rfl⟩) ?_
   rintro obj s₁ ⟨rfl,rfl⟩
   have hpn:∀ c o,h'.get? c=some o→(h'.push { cls:=.type "dict",data:=.dict #[] }).get? c=some o:=fun c o e=>Heap.get?_push_of_some _ e
   have I3:Inv X pins σ (upd H1 h'.objs.size (.dT [])) { s1 with heap:=h'.push { cls:=.type "dict",data:=.dict #[] } } :=
    I2.laid (a:=h'.objs.size) (o:=.dT []) (t':=s1.toks) hpn (Nat.le_refl _) (zi0 h' I2.big)
   have hT:({ s1 with heap:=h'.push { cls:=.type "dict",data:=.dict #[] } }:Shared).TypeIs (.ref h'.objs.size) "dict":=⟨_,Heap.get?_push_size _ rfl,rfl⟩
   refine⟨hT,F.args_dict_init_2 _ _,?_⟩
   (unfold Builtin.«dict.__init__»; refine wpAny_bind ?_; unfold Builtin.Dict.selfAndRest)
   (refine wpAny_bind (wpAny_notOrdered_dict hT ?_))
   show wpAny _ _ (pure (h'.objs.size,[Value.ref (n+4)])) _ _ _
   refine (wpAny_pure ?_)
   show wpAny _ _ (Builtin.Dict.updateFrom "dict.__init__" h'.objs.size (.ref (n+4)) [] .none) _ _ _
   (unfold Builtin.Dict.updateFrom)
   have hz3:=hpn _ _ b1
   have hTz:({ s1 with heap:=h'.push { cls:=.type "dict",data:=.dict #[] } }:Shared).TypeIs (.ref (n+4)) "zip":=⟨_,hz3,rfl⟩
   refine wpAny_bind (wpAny_typeOf hTz ?_)
   rw [if_pos (by decide)]
   have hh:X.A.handled=none:=I.ok.hd hc
   refine wpAny_bind (zkc hz3 (by simp [hh]) fun h2 tk kk2=>?_)
   rw [if_pos (by rfl)]
   refine wpAny_bind (wpAny_rule ?_)
   have I4:Inv X pins σ (upd H1 h'.objs.size (.dT [])) { s1 with heap:=h2,toks:=tk }:=Inv.kept (s:={ s1 with heap:=h'.push { cls:=.type "dict",data:=.dict #[] } }) (t':=tk) I3 kk2
   refine wpAny_bind (ze5 (kk2 _ _ hz3) (wpAny_pure ⟨plainId_quiet zcK _,?_⟩))
   have D0:H1 h'.objs.size=none:=I2.hok.fresh (Nat.le_refl _)
   have up:∀ c o,h'.get? c=some o→h2.get? c=some o:=fun c o e=>kk2 c o (hpn c o e)
   refine zkf (X:=X) (pins:=pins) (σ:=σ) (A:=X.A.in1) (H0:=H1) (a:=l1) (b:=l2) (n:=n) (D:=h'.objs.size) (xs:=xs) (ys:=ys) (ks:=ks) (by simp [hh]) (by simp only [Around.in1_units]; omega) hlt1 hlt2 D0 ?_ hq1 hq2 hky hnd hfp (fun s' H' I' e1 e2=>?_) (min xs.length ys.length) 0 _ _ _ (by omega) I4 (fun c o e=>?_) (fun c hc=>?_) ?_ ?_
   ·rw [b6]
    simp
   ·exact⟨rfl,.ref h'.objs.size,_,I',rfl,q _ _ D0 e1 e2⟩
   ·rw [zl (zp e D0)]
    exact e
   ·rw [zl]
    ·exact (hfp c hc).1
    ·rw [b6]
     simp only [zbB,List.mem_cons,List.not_mem_nil,or_false] at hc
     rcases hc with z | z | z | z | z <;> subst z <;> exact nq (by omega)
   ·exact⟨⟨_,_,up _ _ b1,.inl rfl,_,rfl⟩,up _ _ b2,⟨_,_,up _ _ b3⟩,b4.at fun o e=>up _ o e,b5.at fun o e=>up _ o e⟩
   ·rw [List.take_zero]
    exact zc
end L2
end
section
set_option maxHeartbeats 3998000
namespace PySem
theorem zcL:typeLookup (.type "list") (dunderI "add")=pure (some (.builtin "list.__iadd__")):=by rw [typeLookup_type,builtinLookup_eq_fast]; kernel_rfl
theorem zea:seqSlot? (.type "list") (dunderI "add")=pure (some (.builtin "list.__iadd__")):=by
 unfold seqSlot?
 rw [zcL]
 kernel_rfl
theorem ze9:fillsInplaceSlot (.type "list") "add" (Operator.Add == .Add)=pure false:=by
 unfold fillsInplaceSlot
 show (typeLookup (.type "list") (dunderI "add") >>= fun fi=>pure (fi.isSome && !isSeqSlot fi))=pure false
 rw [zcL]
 kernel_rfl
theorem zhX {M:Model} {A:Around} {E:Value→Shared→Prop} {s:Shared} {a b:Value} {Q:Value→Shared→Prop} (ha:s.TypeIs a "list") (hb:s.TypeIs b "list")
  (hc:wpAny M A (call (.builtin "list.__iadd__") [a,b]) Q E s):wpAny M A (inplaceOp .Add a b) Q E s:=by
 (unfold inplaceOp; refine wpAny_holding ?_)
 refine wpAny_bind (wpAny_typeOf ha (wpAny_bind (wpAny_of_eq ze9 ?_)))
 (show wpAny M A (if false=true then _ else _) Q E s)
 rw [if_neg Bool.false_ne_true]
 refine wpAny_bind (wpAny_binaryOp1_none (nm:="add") ha hb noFill_list_add ?_)
 refine wpAny_bind (wpAny_of_eq zea ?_)
 exact (wpAny_bind (wpAny_rule hc))
theorem zkg (l:Addr) (items:Array Value) (n:Nat) (b:Addr) (items2:Array Value) (n2:Nat) (dd:Option Addr) (sl:Array (Option Value)) (hs0:¬(!items.isEmpty && Builtin.List.listTooLong (items.size+items2.size))=true) (hs1:items.size≤sizeLine) (hs2:items.size+items2.size≤sizeLine+1) :
  Meets (Builtin.«list.extend» ⟨[.ref l,.ref b],[]⟩) (fun _ R s=>s.heap.get? l=some { cls:=.type "list",dict:=none,data:=.seq items n,slots:=#[] }∧s.heap.get? b=some { cls:=.type "tuple",dict:=dd,data:=.seq items2 n2,slots:=sl }∧R (.ok (.ret Value.none)) { s with heap:=s.heap.update l (Obj.mapSeq fun x=>x++items2),toks:=s.toks }) :=
 (.of_wp fun prog w A R s h=>by
  (obtain⟨hp,g,d,tk,os⟩:=s; obtain⟨hl,hb,h⟩:=h; have f1:=AutoSeq1.idx_int; have f2:=AutoSeq1.sub_tuple_tuple; have f3:=AutoSeq1.sub_list_list; have f4:=AutoSeq1.sub_tuple_list; have f5:=AutoSeq1.sub_list_tuple)
  have hz':(items++items2).size≤sizeLine+1:=by (rw [Array.size_append]; exact hs2)
  wp_walk using (wpAny_updateSeq hl rfl (hz:=hs1) (_hz':=hz')),wpAny_loadPart' hl,wpAny_loadPart' hb; exact⟨_,rfl,h⟩)
end PySem
namespace L2
open PySem PySem.Spec PyProof.Rows
def zlv:R2:=fun x y H Q=>∃ l b xs zs,x = .ref l∧y = .ref b∧H l=some (.lst xs)∧H b=some (.lst zs)∧xs.length+zs.length≤sizeLine∧Q (.ref l) (upd H l (.lst (xs++zs)))
theorem zje {X:Cx}:OpR X (inplaceOp .Add) zlv:=by
 intro pins s σ H x y v u Q I rx ry h
 obtain⟨l,b,xs,zs,rfl,rfl,hH,hB,hz,q⟩:=h
 cases rx
 cases ry
 obtain⟨z,its,n,r,hl,e⟩:=I.lstM hH
 obtain⟨z2,its2,n2,r2,hl2,e2⟩:=I.lstM hB
 have hsz:its.toArray.size+its2.toArray.size≤sizeLine:=by rw [List.size_toArray,List.size_toArray]; omega
 have hlong:¬ (!its.toArray.isEmpty && Builtin.List.listTooLong (its.toArray.size+its2.toArray.size))=true:=by
  rw [zcE hsz,Bool.and_false]
  exact Bool.false_ne_true
 refine zhX ⟨_,e,rfl⟩ ⟨_,e2,rfl⟩ (call_meets F.slot_list_iadd ⟨_,e,rfl⟩ F.entry_list_iadd (F.args_list_iadd_2 _ _)
  (AutoSeq1.list___iadd___list_list_0 l its.toArray n b its2.toArray n2 hlong (by rw [List.size_toArray]; omega) (by omega)) ⟨e,e2,?_⟩)
 refine⟨.ref l,_,I.lset (its':=its++its2) hH e (by simp) (r.append r2) ?_,rfl,q⟩
 rw [List.length_append]
 omega
def zma (K:PySem.W.Frag):V→List V→Hp→VK→Prop:=fun x vs H Q=>∃ l b xs zs,x = .ref l∧vs = [.ref b]∧H l=some (.lst xs)∧SqT K H b zs∧xs.length+zs.length≤sizeLine∧Q .non (upd H l (.lst (xs++zs)))
theorem zgF {X:Cx}:MtM X "list.extend" (zma X.K):=by
 intro pins s σ H x vs v us Q I rx rv h
 obtain⟨l,b,xs,zs,rfl,rfl,hH,hB,hz,q⟩:=h
 cases rx
 obtain⟨u,rfl,ru⟩:=rv.one
 cases ru
 obtain⟨z,its,n,r,hl,e⟩:=I.lstM hH
 obtain⟨its2,r2,p2,hz2⟩:=I.tuple hB
 obtain⟨⟨cls2,dd2,data2,sl2⟩,ho2,hc2,n2,hd2⟩:=id p2
 simp only at hc2 hd2
 subst hc2 hd2
 have hl2:=r2.length
 have hsz:its.toArray.size+its2.toArray.size≤sizeLine:=by rw [List.size_toArray,List.size_toArray]; omega
 have hlong:¬ (!its.toArray.isEmpty && Builtin.List.listTooLong (its.toArray.size+its2.toArray.size))=true:=by
  rw [zcE hsz,Bool.and_false]
  exact Bool.false_ne_true
 refine call_meets F.slot_list_extend ⟨_,e,rfl⟩ F.entry_list_extend (F.args_list_extend_2 _ _)
  (zkg l its.toArray n b its2.toArray n2 dd2 sl2 hlong (by rw [List.size_toArray]; omega) (by omega)) ⟨e,ho2,?_⟩
 refine⟨.non,_,I.lset (its':=its++its2) hH e (by simp) (r.append r2) ?_,rfl,q⟩
 rw [List.length_append]
 omega
end L2
namespace L2
open PySem PySem.Spec PyProof.Rows
theorem zhY {X:Cx} {K:PySem.W.Frag} {es:List Expr} {k:Nat} {tpos p pos:Pos} {a b:Expr} {ta:TA} (hK:X.K=K) (hg:Gl X "zip") (hm:X.mg "zip" = none) (ha:PA X [a,b] ta) (hs:starEach [a,b] X.env = [(false,eval a X.env),(false,eval b X.env)]:=by rfl) (hs2:starEach [b] X.env = [(false,eval b X.env)]:=by rfl) :
  PI X (.Tuple es k tpos) (.Call (.Name "zip" p) [a,b] [] pos) (iZq (SqT K) (SqL K) ta):=by subst hK; exact zfI hg hm ha hs hs2
theorem zgG {X:Cx} {K:PySem.W.Frag} (hK:X.K=K) (hc:X.calm=true):zbb X (.builtin "sum") (fun xs H Q=>∃ (p:Addr) (ns:List Int),xs = [.ref p]∧SqL K H p (ns.map V.int)∧Q (.int ns.sum) H):=by subst hK; exact zbH hc
end L2
end
section
set_option maxHeartbeats 3999000
namespace My
open PySem L2 PyProof.Rows
def ch:Nat→Nat→Int
 | _,0=>1
 | 0,_+1=>0
 | t+1,j+1=>ch t j+ch t (j+1)
theorem zbv:∀ {t j:Nat},t < j→ch t j=0
 | _,0,h=>by omega
 | 0,j+1,_=>rfl
 | t+1,j+1,h=>by rw [ch,zbv (by omega),zbv (by omega)]; rfl
theorem zdy:∀ {t j:Nat},((j:Int)+1)*ch t (j+1)=((t:Int) - j)*ch t j
 | 0,0=>by simp [ch]
 | 0,j+1=>by simp [ch]
 | t+1,0=>by
  have h:=zdy (t:=t) (j:=0)
  simp only [ch] at h ⊢
  push_cast at h ⊢; grind
 | t+1,j+1=>by
  have h:=zdy (t:=t) (j:=j)
  have h':=zdy (t:=t) (j:=j+1)
  simp only [ch] at h h' ⊢
  push_cast at h h' ⊢; grind
theorem zlw {t j:Nat}:ch t j*((t:Int) - j) / ((j:Int)+1)=ch t (j+1):=by
 rw [Int.mul_comm,← zdy]
 exact Int.mul_ediv_cancel_left _ (by omega)
end My
end
section
set_option maxHeartbeats 3999000
namespace My
open PySem L2 PyProof.Rows
theorem zgH {S:List Nat}:∀ {l:List Nat},l.Nodup→l.length≤(l.filter fun i=>decide (i∉S)).length+S.length:=by
 induction S with
 | nil =>
  intro l _
  rw [List.filter_eq_self.mpr (by simp)]
  exact Nat.le_refl _
 | cons a S ih =>
  intro l hl
  have h1:=ih hl
  have h2:l.filter (fun i=>decide (i∉a :: S))=(l.filter fun i=>decide (i∉S)).filter (fun i=>i != a):=by
   rw [List.filter_filter]
   refine List.filter_congr fun i _=>?_
   by_cases e:i=a <;> by_cases e2:i∈S <;> simp [e,e2]
  have h3:=List.Nodup.erase_eq_filter (hl.filter fun i=>decide (i∉S)) a
  have h4:(l.filter fun i=>decide (i∉S)).length≤((l.filter fun i=>decide (i∉S)).erase a).length+1:=by
   rw [List.length_erase]
   split <;> omega
  rw [h2,← h3,List.length_cons]
  omega
theorem zfT {f:Nat→Int} (m:Nat):∀ n,sm (m+n) f=sm m f+sm n fun j=>f (m+j)
 | 0=>by show sm m f=sm m f+0; omega
 | n+1=>by
  show sm (m+n) f+f (m+n)=sm m f+(sm n (fun j=>f (m+j))+f (m+n))
  rw [zfT m n]
  omega
end My
end
section
set_option maxHeartbeats 3999000
namespace My
open PySem L2 PyProof.Rows
theorem zjf {l:List Nat} {d:Nat} (h:l.Nodup) (hl:∀ x∈l,x < d):l.length≤d:=by
 have h1:=zgH (S:=List.range d) h
 rw [List.filter_eq_nil_iff.mpr (fun x hx=>by have:=hl x hx; simpa using this),List.length_range] at h1
 simpa using h1
theorem zhf {p:Int} (hp:p∈zH) {L N m:Nat} {vs:List (List Int)} {cl:List (Nat×List Int)} (E:Ech p L N m vs cl) (hm:m < N) {w0:List Int} (W0:Wh p L N m vs [] w0):∀ i,i≤cl.length→∃ w,Wh p L N m vs (cl.take i) w
 | 0,_=>⟨w0,by rw [List.take_zero]; exact W0⟩
 | i+1,hi=>by
  obtain⟨w,W⟩:=zhf hp E hm W0 i (by omega)
  exact⟨_,zhe hp E hm (List.getElem?_eq_getElem (by omega)) W⟩
theorem zjg {p:Int} (hp:p∈zH) {L:Nat} {vs:List (List Int)} (hv:∀ v∈vs,v.length=L∧∀ c∈v,0≤c∧c < p) (hI:Indep p L vs):∀ m,m≤vs.length→∃ cl,Ech p L vs.length m vs cl
 | 0,_=>⟨[],Ech.start p L vs.length vs⟩
 | m+1,hm=>by
  have rp:=zU hp
  obtain⟨cl,E⟩:=zjg hp hv hI m (by omega)
  have hvm:vs[m]? = some (vs[m]'(by omega)):=List.getElem?_eq_getElem (by omega)
  obtain⟨h1,h2⟩:=hv _ (List.mem_of_getElem? hvm)
  obtain⟨w,W⟩:=zhf hp E (by omega) (zfQ hp (N:=vs.length) (by omega) hvm h1 h2) cl.length (Nat.le_refl _)
  rw [List.take_length] at W
  by_cases hz:∀ x,x < L→gl w x=0
  ·exfalso
   obtain⟨_,d2,d3⟩:=zi8 W (by omega) hz
   have:=hI _ d3 m (by omega)
   rw [d2] at this
   have:=this.eq (by omega) (by omega) (Int.le_refl _) (by omega)
   omega
  ·obtain⟨x,hx⟩:=Classical.not_forall.mp hz
   obtain⟨hx1,hx2⟩:=Classical.not_imp.mp hx
   exact⟨_,zfR hp E (by omega) W hx1 hx2⟩
theorem zjh {p:Int} (hp:p∈zH) {L:Nat} {vs:List (List Int)} (hv:∀ v∈vs,v.length=L∧∀ c∈v,0≤c∧c < p) (hI:Indep p L vs):vs.length≤L:=by
 obtain⟨cl,E⟩:=zjg hp hv hI vs.length (Nat.le_refl _)
 have hn:(cl.map (·.1)).Nodup:=by
  rw [List.nodup_iff_pairwise_ne,List.pairwise_map,List.pairwise_iff_getElem]
  intro i j hi hj hij e
  have h1:=E.up i j _ _ (List.getElem?_eq_getElem hi) (List.getElem?_eq_getElem hj) hij
  have h2:=(E.one j _ (List.getElem?_eq_getElem hj)).2.2.2.2.1
  rw [e,h2] at h1
  cases h1
 have:=zjf hn fun x hx=>by
  obtain⟨a,ha,rfl⟩:=List.mem_map.mp hx
  obtain⟨j,hj⟩:=List.getElem?_of_mem ha
  exact (E.one j a hj).1
 rw [List.length_map,E.ln] at this
 exact this
def dot (n:Nat) (row:List Int) (v:Nat→Int):Int:=sm n fun j=>gl row j*v j
def Sol (p:Int) (n:Nat) (M:List (List Int)) (v:Nat→Int):Prop:=∀ (i:Nat) (row:List Int),M[i]? = some row→Cg p (dot n row v) 0
structure RK (p:Int) (n:Nat) (M:List (List Int)) (pv:List Nat):Prop where
 nd:pv.Nodup
 lt:∀ c∈pv,c < n
 U:∀ v,Sol p n M v→(∀ j,j < n→j∉pv→Cg p (v j) 0)→∀ j,j < n→Cg p (v j) 0
 E:∀ w:Nat→Int,∃ v,Sol p n M v∧∀ j,j < n→j∉pv→v j=w j
structure Gs (p:Int) (n:Nat) (M:List (List Int)) (at':Nat) (pv:List Nat) (R:List (List Int)):Prop where
 ln:R.length=M.length
 rw:∀ row∈R,row.length=n∧∀ c∈row,0≤c∧c < p
 sol:∀ v,Sol p n R v↔Sol p n M v
 pvl:pv.length≤R.length
 piv:∀ (i c:Nat) (row:List Int),pv[i]? = some c→R[i]? = some row→c < at'∧gl row c≠0∧∀ j,j < c→gl row j=0
 low:∀ (i:Nat) (row:List Int),pv.length≤i→R[i]? = some row→∀ j,j < at'→gl row j=0
 nd:pv.Nodup
 plt:∀ c∈pv,c < at'
theorem zkh {p:Int} {n:Nat} {M:List (List Int)} {at':Nat} {pv:List Nat} {R:List (List Int)} (G:Gs p n M at' pv R) (h:∀ (i:Nat) (row:List Int),pv.length≤i→R[i]? = some row→gl row at'=0):Gs p n M (at'+1) pv R:=by
 refine⟨G.ln,G.rw,G.sol,G.pvl,fun i c row h1 h2=>?_,fun i row h1 h2 j hj=>?_,G.nd,fun c hc=>by have:=G.plt c hc; omega⟩
 ·obtain⟨a,b⟩:=G.piv i c row h1 h2
  exact⟨by omega,b⟩
 ·by_cases e:j=at'
  ·rw [e]; exact h i row h1 h2
  ·exact G.low i row h1 h2 j (by omega)
structure El (p:Int) (n:Nat) (M:List (List Int)) (at':Nat) (pv:List Nat) (first:List Int) (k:Nat) (R:List (List Int)):Prop where
 ln:R.length=M.length
 rw:∀ row∈R,row.length=n∧∀ c∈row,0≤c∧c < p
 sol:∀ v,Sol p n R v↔Sol p n M v
 fs:R[pv.length]? = some first
 f0:gl first at'≠0
 piv:∀ (i c:Nat) (row:List Int),pv[i]? = some c→R[i]? = some row→c < at'∧gl row c≠0∧∀ j,j < c→gl row j=0
 low:∀ (i:Nat) (row:List Int),pv.length≤i→R[i]? = some row→∀ j,j < at'→gl row j=0
 cl:∀ (i:Nat) (row:List Int),pv.length < i→i < k→R[i]? = some row→gl row at'=0
 nd:pv.Nodup
 plt:∀ c∈pv,c < at'
theorem zji {p:Int} {n:Nat} {M:List (List Int)} {at':Nat} {pv:List Nat} {R:List (List Int)} (G:Gs p n M at' pv R) {k0:Nat} {first other:List Int} (hk:pv.length≤k0) (h1:R[k0]? = some first) (h2:R[pv.length]? = some other) (h0:gl first at'≠0) :
  El p n M at' pv first (pv.length+1) ((R.set k0 other).set pv.length first):=by
 have hk0:=(List.getElem?_eq_some_iff.mp h1).1
 have hp0:=(List.getElem?_eq_some_iff.mp h2).1
 have hg:∀ i,((R.set k0 other).set pv.length first)[i]? = if i=pv.length then some first else if i=k0 then some other else R[i]?:=fun i=>by
  by_cases e:i=pv.length
  ·subst e
   rw [if_pos rfl,List.getElem?_set_self (by rw [List.length_set]; exact hp0)]
  ·rw [if_neg e,List.getElem?_set_ne (Ne.symm e)]
   by_cases e2:i=k0
   ·subst e2
    rw [if_pos rfl,List.getElem?_set_self hk0]
   ·rw [if_neg e2,List.getElem?_set_ne (Ne.symm e2)]
 have hsrc:∀ (i:Nat) (row:List Int),((R.set k0 other).set pv.length first)[i]? = some row→∃ j:Nat,R[j]? = some row∧(pv.length≤i→pv.length≤j):=fun i row h=>by
  rw [hg] at h
  by_cases e:i=pv.length
  ·rw [if_pos e] at h
   exact⟨k0,by rw [h1]; exact h,fun _=>hk⟩
  ·rw [if_neg e] at h
   by_cases e2:i=k0
   ·rw [if_pos e2] at h
    exact⟨pv.length,by rw [h2]; exact h,fun _=>Nat.le_refl _⟩
   ·rw [if_neg e2] at h
    exact⟨i,h,id⟩
 refine⟨by rw [List.length_set,List.length_set]; exact G.ln,fun row hr=>?_,fun v=>?_,by rw [hg,if_pos rfl],h0,fun i c row hc hr=>?_,fun i row hi hr=>?_,fun i row hi hk hr=>by omega,G.nd,G.plt⟩
 ·obtain⟨i,hi⟩:=List.getElem?_of_mem hr
  obtain⟨j,hj,_⟩:=hsrc i row hi
  exact G.rw row (List.mem_of_getElem? hj)
 ·rw [← G.sol v]
  constructor
  ·intro h j row hj
   by_cases e:j=k0
   ·refine h pv.length row ?_
    rw [hg,if_pos rfl,← h1,← e]; exact hj
   ·by_cases e2:j=pv.length
    ·refine h k0 row ?_
     rw [hg,if_neg (fun e3=>e (by rw [e2,e3])),if_pos rfl,← h2,← e2]; exact hj
    ·refine h j row ?_
     rw [hg,if_neg e2,if_neg e]; exact hj
  ·intro h i row hi
   obtain⟨j,hj,_⟩:=hsrc i row hi
   exact h j row hj
 ·have hil:i < pv.length:=(List.getElem?_eq_some_iff.mp hc).1
  rw [hg,if_neg (by omega),if_neg (by omega)] at hr
  exact G.piv i c row hc hr
 ·obtain⟨j,hj,hle⟩:=hsrc i row hr
  exact G.low j row (hle hi) hj
theorem zki {p:Int} {n:Nat} {M:List (List Int)} {at':Nat} {pv:List Nat} {first:List Int} {k:Nat} {R:List (List Int)} (L:El p n M at' pv first k R) {row:List Int} (hr:R[k]? = some row) (h0:gl row at'=0):El p n M at' pv first (k+1) R:=by
 refine⟨L.ln,L.rw,L.sol,L.fs,L.f0,L.piv,L.low,fun i row' h1 h2 h3=>?_,L.nd,L.plt⟩
 by_cases e:i=k
 ·subst e
  rw [hr] at h3
  cases h3
  exact h0
 ·exact L.cl i row' h1 (by omega) h3
theorem zkj {p:Int} (hp:p∈zH) {n:Nat} {M:List (List Int)} {at':Nat} {pv:List Nat} {first:List Int} {k:Nat} {R:List (List Int)} (L:El p n M at' pv first k R) (hat:at' < n) (hk:pv.length < k) {row:List Int} (hr:R[k]? = some row) :
  El p n M at' pv first (k+1) (R.set k (List.zipWith (fun one other=>(one*gl first at' - gl row at'*other) % p) row first)):=by
 have rp:=zU hp
 obtain⟨r1,r2⟩:=L.rw row (List.mem_of_getElem? hr)
 obtain⟨f1,f2⟩:=L.rw first (List.mem_of_getElem? L.fs)
 have hkl:=(List.getElem?_eq_some_iff.mp hr).1
 obtain⟨nw,hnw⟩:∃ nw,nw=List.zipWith (fun one other=>(one*gl first at' - gl row at'*other) % p) row first:=⟨_,rfl⟩
 rw [← hnw]
 have hg:∀ y,y < n→gl nw y=(gl row y*gl first at' - gl row at'*gl first y) % p:=fun y hy=>by rw [hnw]; exact zgC (by omega) (by omega)
 have hgn:∀ i,(R.set k nw)[i]? = if i=k then some nw else R[i]?:=fun i=>by
  by_cases e:i=k
  ·subst e; rw [if_pos rfl,List.getElem?_set_self hkl]
  ·rw [if_neg e,List.getElem?_set_ne (Ne.symm e)]
 have hdot:∀ v,Cg p (dot n nw v) (gl first at'*dot n row v - gl row at'*dot n first v):=fun v=>by
  unfold dot
  have e:gl first at'*sm n (fun j=>gl row j*v j) - gl row at'*sm n (fun j=>gl first j*v j)=sm n (fun j=>(gl row j*gl first at' - gl row at'*gl first j)*v j):=by
   rw [show ∀ a b c:Int,a - b*c=a+(-b)*c by intros; grind,← zdR,← zdR,← zgA]
   exact zar fun j _=>by grind
  rw [e]
  exact zdb fun j hj=>by
   rw [hg j hj]
   exact (Cg.emod _ _).mul (Cg.refl p _)
 refine⟨by rw [List.length_set]; exact L.ln,fun row' h=>?_,fun v=>?_,by rw [hgn,if_neg (by omega)]; exact L.fs,L.f0,fun i c row' hc h=>?_,fun i row' hi h j hj=>?_,fun i row' hi hik h=>?_,L.nd,L.plt⟩
 ·rcases List.mem_or_eq_of_mem_set h with h | rfl
  ·exact L.rw row' h
  ·rw [hnw]
   refine⟨by rw [List.length_zipWith]; omega,fun c hc=>?_⟩
   obtain⟨x,y,rfl⟩:=zdI hc
   exact⟨Int.emod_nonneg _ (by omega),Int.emod_lt_of_pos _ (by omega)⟩
 ·rw [← L.sol v]
  constructor
  ·intro h i row' hi
   by_cases e:i=k
   ·subst e
    rw [hr] at hi
    cases hi
    have h1:=h i nw (by rw [hgn,if_pos rfl])
    have h2:=h pv.length first (by rw [hgn,if_neg (by omega)]; exact L.fs)
    have h3:=((hdot v).symm.trans h1).add ((Cg.refl p (gl row at')).mul h2)
    obtain⟨g0,g1⟩:=zcx (show 0 < p by omega) f2 at'
    refine zcX hp (a:=gl first at') (by rw [Int.emod_eq_of_lt g0 g1]; exact L.f0) ?_
    exact (Cg.of_eq (by omega)).trans (h3.trans (Cg.of_eq (by omega)))
   ·exact h i row' (by rw [hgn,if_neg e]; exact hi)
  ·intro h i row' hi
   rw [hgn] at hi
   by_cases e:i=k
   ·rw [if_pos e] at hi
    cases hi
    have h1:=h k row hr
    have h2:=h pv.length first L.fs
    exact (hdot v).trans ((((Cg.refl p _).mul h1).sub ((Cg.refl p _).mul h2)).trans (Cg.of_eq (by omega)))
   ·rw [if_neg e] at hi
    exact h i row' hi
 ·have hil:i < pv.length:=(List.getElem?_eq_some_iff.mp hc).1
  rw [hgn,if_neg (by omega)] at h
  exact L.piv i c row' hc h
 ·rw [hgn] at h
  by_cases e:i=k
  ·rw [if_pos e] at h
   cases h
   rw [hg j (by omega),L.low k row (by omega) hr j hj,L.low pv.length first (Nat.le_refl _) L.fs j hj,Int.zero_mul,Int.mul_zero]
   rfl
  ·rw [if_neg e] at h
   exact L.low i row' hi h j hj
 ·rw [hgn] at h
  by_cases e:i=k
  ·rw [if_pos e] at h
   cases h
   rw [hg at' hat,show gl row at'*gl first at' - gl row at'*gl first at'=0 by omega]
   rfl
  ·rw [if_neg e] at h
   exact L.cl i row' hi (by omega) h
theorem zlx {p:Int} {n:Nat} {M:List (List Int)} {at':Nat} {pv:List Nat} {first:List Int} {k:Nat} {R:List (List Int)} (L:El p n M at' pv first k R) (hk:R.length≤k):Gs p n M (at'+1) (pv++[at']) R:=by
 have hf:=(List.getElem?_eq_some_iff.mp L.fs).1
 refine⟨L.ln,L.rw,L.sol,by rw [List.length_append]; show pv.length+1≤_; omega,fun i c row hc hr=>?_,fun i row hi hr j hj=>?_,?_,fun c hc=>?_⟩
 ·by_cases hi:i < pv.length
  ·rw [List.getElem?_append_left hi] at hc
   obtain⟨a,b⟩:=L.piv i c row hc hr
   exact⟨by omega,b⟩
  ·have hil:=(List.getElem?_eq_some_iff.mp hc).1
   rw [List.length_append] at hil
   have hip:i=pv.length:=by have:i < pv.length+1:=hil; omega
   subst hip
   rw [List.getElem?_append_right (Nat.le_refl _),Nat.sub_self] at hc
   cases hc
   rw [L.fs] at hr
   cases hr
   exact⟨by omega,L.f0,L.low pv.length first (Nat.le_refl _) L.fs⟩
 ·rw [List.length_append] at hi
  have hi:pv.length+1≤i:=hi
  by_cases e:j=at'
  ·rw [e]
   exact L.cl i row (by omega) (by have:=(List.getElem?_eq_some_iff.mp hr).1; omega) hr
  ·exact L.low i row (by omega) hr j (by omega)
 ·rw [List.nodup_append]
  exact⟨L.nd,by simp,fun a ha b hb e=>by
   have:=L.plt a ha
   have hb:b=at':=by simpa using hb
   omega⟩
 ·rcases List.mem_append.mp hc with h | h
  ·have:=L.plt c h
   omega
  ·have:c=at':=by simpa using h
   omega
theorem zfU {n c:Nat} {row:List Int} {v:Nat→Int} (hc:c≤n) (h:∀ j,j < c→gl row j=0):dot n row v=sm (n - c) fun j=>gl row (c+j)*v (c+j):=by
 unfold dot
 induction n with
 | zero=>rw [show 0 - c=0 by omega]; rfl
 | succ n ih =>
  by_cases e:c=n+1
  ·subst e
   rw [Nat.sub_self]
   exact zaU fun j hj=>by rw [h j hj,Int.zero_mul]
  ·rw [show n+1 - c=(n - c)+1 by omega]
   show sm n _+_=sm (n - c) _+_
   rw [ih (by omega)]
   dsimp only
   rw [show c+(n - c)=n by omega]
theorem zmb {p:Int} (hp:p∈zH) {n:Nat} {M:List (List Int)} {pv:List Nat} {R:List (List Int)} (G:Gs p n M n pv R):RK p n M pv:=by
 have rp:=zU hp
 have hrow:∀ i,i < pv.length→∃ row,R[i]? = some row:=fun i hi=>⟨R[i]'(by have:=G.pvl; omega),by simp⟩
 have hrg:∀ (i:Nat) (row:List Int),R[i]? = some row→∀ y,0≤gl row y∧gl row y < p:=fun i row h y=>zcx (show 0 < p by omega) (G.rw row (List.mem_of_getElem? h)).2 y
 refine⟨G.nd,G.plt,fun v hv h0=>?_,fun w=>?_⟩
 ·have hv:=(G.sol v).mpr hv
  have key:∀ t,t≤n→∀ j,n - t≤j→j < n→Cg p (v j) 0:=by
   intro t
   induction t with
   | zero=>intro _ j h1 h2; omega
   | succ t ih =>
    intro ht j h1 h2
    have ih:=ih (by omega)
    by_cases e:n - t≤j
    ·exact ih j e h2
    ·have hj:j=n - (t+1):=by omega
     by_cases hpj:j∈pv
     ·obtain⟨i,hi⟩:=List.getElem?_of_mem hpj
      obtain⟨row,hr⟩:=hrow i (List.getElem?_eq_some_iff.mp hi).1
      obtain⟨_,g1,g2⟩:=G.piv i j row hi hr
      have hd:=hv i row hr
      rw [zfU (by omega) g2,show n - j=(n - j - 1)+1 by omega,zdx] at hd
      have hz:Cg p (sm (n - j - 1) fun i=>gl row (j+(i+1))*v (j+(i+1))) 0:=(zdb (g:=fun _=>0) fun m hm=>((Cg.refl p _).mul (ih (j+(m+1)) (by omega) (by omega))).trans (Cg.of_eq (Int.mul_zero _))).trans (Cg.of_eq (zaU fun _ _=>rfl))
      obtain⟨q0,q1⟩:=hrg i row hr j
      refine zcX hp (a:=gl row j) (by rw [Int.emod_eq_of_lt q0 q1]; exact g1) ?_
      have:=hd.sub hz
      exact (Cg.of_eq (by rw [Nat.add_zero]; omega)).trans (this.trans (Cg.of_eq (by omega)))
     ·exact h0 j h2 hpj
  exact fun j hj=>key n (Nat.le_refl _) j (by omega) hj
 ·have key:∀ t,t≤n→∃ v:Nat→Int,(∀ j,n - t≤j→j < n→j∉pv→v j=w j)∧∀ (i c:Nat) (row:List Int),pv[i]? = some c→R[i]? = some row→n - t≤c→Cg p (dot n row v) 0:=by
   intro t
   induction t with
   | zero=>exact fun _=>⟨fun _=>0,fun j h1 h2=>by omega,fun i c row h1 _ h3=>by have:=G.plt c (List.mem_of_getElem? h1); omega⟩
   | succ t ih =>
    intro ht
    obtain⟨v,hv1,hv2⟩:=ih (by omega)
    have hsame:∀ (z:Int) (i c:Nat) (row:List Int),pv[i]? = some c→R[i]? = some row→n - t≤c→dot n row (fun j=>if j=n - (t+1) then z else v j)=dot n row v:=fun z i c row h1 h2 h3=>by
     unfold dot
     refine zar fun j _=>?_
     dsimp only
     by_cases e:j=n - (t+1)
     ·rw [(G.piv i c row h1 h2).2.2 j (by omega),Int.zero_mul,Int.zero_mul]
     ·rw [if_neg e]
    by_cases hpj:n - (t+1)∈pv
    ·obtain⟨i0,hi0⟩:=List.getElem?_of_mem hpj
     obtain⟨row0,hr0⟩:=hrow i0 (List.getElem?_eq_some_iff.mp hi0).1
     obtain⟨_,g1,g2⟩:=G.piv i0 _ row0 hi0 hr0
     obtain⟨q0,q1⟩:=hrg i0 row0 hr0 (n - (t+1))
     obtain⟨rest,hrest⟩:∃ rest,rest=sm (n - (n - (t+1)) - 1) (fun i=>gl row0 (n - (t+1)+(i+1))*v (n - (t+1)+(i+1))):=⟨_,rfl⟩
     refine⟨fun j=>if j=n - (t+1) then -(inv p (gl row0 (n - (t+1)))*rest) else v j,fun j h1 h2 h3=>?_,fun i c row h1 h2 h3=>?_⟩
     ·dsimp only
      by_cases e:j=n - (t+1)
      ·exact absurd hpj (e ▸ h3)
      ·rw [if_neg e]; exact hv1 j (by omega) h2 h3
     ·by_cases e:n - t≤c
      ·rw [hsame _ i c row h1 h2 e]
       exact hv2 i c row h1 h2 e
      ·have hc:c=n - (t+1):=by omega
       subst hc
       have hii:i=i0:=(List.getElem?_inj (List.getElem?_eq_some_iff.mp h1).1 G.nd).mp (h1.trans hi0.symm)
       subst hii
       rw [hr0] at h2
       cases h2
       rw [zfU (by omega) g2,show n - (n - (t+1))=(n - (n - (t+1)) - 1)+1 by omega,zdx]
       have e2:sm (n - (n - (t+1)) - 1) (fun i=>gl row0 (n - (t+1)+(i+1))*(if n - (t+1)+(i+1)=n - (t+1) then -(inv p (gl row0 (n - (t+1)))*rest) else v (n - (t+1)+(i+1))))=rest:=by
        rw [hrest]
        exact zar fun j _=>by rw [if_neg (by omega)]
       rw [e2,Nat.add_zero,if_pos rfl]
       have hi1:=zgo hp (h:=gl row0 (n - (t+1))) (by omega) q1
       have h4:Cg p (inv p (gl row0 (n - (t+1)))*gl row0 (n - (t+1))*rest) (1*rest):=hi1.mul (Cg.refl p rest)
       have h5:=(Cg.refl p rest).sub h4
       exact (Cg.of_eq (by grind)).trans (h5.trans (Cg.of_eq (by omega)))
    ·refine⟨fun j=>if j=n - (t+1) then w (n - (t+1)) else v j,fun j h1 h2 h3=>?_,fun i c row h1 h2 h3=>?_⟩
     ·dsimp only
      by_cases e:j=n - (t+1)
      ·rw [if_pos e,e]
      ·rw [if_neg e]; exact hv1 j (by omega) h2 h3
     ·have hne:c≠n - (t+1):=fun e=>hpj (e ▸ List.mem_of_getElem? h1)
      rw [hsame _ i c row h1 h2 (by omega)]
      exact hv2 i c row h1 h2 (by omega)
  obtain⟨v,h1,h2⟩:=key n (Nat.le_refl _)
  refine⟨v,(G.sol v).mp fun i row hr=>?_,fun j hj hn=>h1 j (by omega) hj hn⟩
  by_cases hi:i < pv.length
  ·obtain⟨c,hc⟩:∃ c,pv[i]? = some c:=⟨pv[i],by simp⟩
   exact h2 i c row hc hr (by omega)
  ·refine Cg.of_eq ?_
   unfold dot
   exact zaU fun j hj=>by rw [G.low i row (by omega) hr j hj,Int.zero_mul]
end My
end
section
set_option maxHeartbeats 3998000
namespace My
open PySem L2 PyProof.Rows
abbrev Tm:=Nat×Nat
def cf (x:Int) (n u:Nat):Int:=ch n u*x ^ (n - u)
theorem zfa (x:Int) (n:Nat):cf x n 0=x ^ n:=by
 unfold cf
 cases n <;> simp [ch]
theorem zkk (x:Int) (n u:Nat):cf x (n+1) (u+1)=cf x n u+x*cf x n (u+1):=by
 unfold cf
 by_cases h:u < n
 ·rw [show n+1 - (u+1)=n - u by omega,show n - u=(n - (u+1))+1 by omega,Int.pow_succ]
  show (ch n u+ch n (u+1))*_=_
  grind
 ·have h1:ch n (u+1)=0:=zbv (by omega)
  rw [show n+1 - (u+1)=n - u by omega]
  show (ch n u+ch n (u+1))*_=_
  rw [h1]
  simp
structure Co where
 x:Int
 y:Int
 u:Nat
 v:Nat
def cv (t:Tm) (c:Co):Int:=cf c.x t.1 c.u*cf c.y t.2 c.v
def pco (q:Int×Int×Nat):List Co:=(List.range q.2.2).flatMap fun u=>(List.range (q.2.2 - u)).map fun v=>⟨q.1,q.2.1,u,v⟩
def cos (pts:List (Int×Int×Nat)):List Co:=pts.flatMap pco
def zau (p:Int) (pts:List (Int×Int×Nat)) (t:Tm):List Int:=(cos pts).map fun c=>cv t c % p
def tz (k:Nat) (t:Tm):Nat:=t.1+(k - 1)*t.2
def tms (k s:Nat):List Tm:=(List.range (s / (k - 1)+1)).map fun j=>(s - (k - 1)*j,j)
def zQ (k s:Nat):List Tm:=(List.range s).flatMap (tms k)
theorem za3 (k s:Nat):zQ k (s+1)=zQ k s++tms k s:=by
 unfold zQ
 rw [List.range_succ,List.flatMap_append]
 simp
theorem zcg {k s:Nat} (hk:2≤k) {t:Tm}:t∈tms k s↔tz k t=s:=by
 unfold tms tz
 have k1:0 < k - 1:=by omega
 constructor
 ·intro h
  obtain⟨j,hj,rfl⟩:=List.mem_map.mp h
  have hj:=List.mem_range.mp hj
  have:(k - 1)*j≤s:=by
   have:=(Nat.le_div_iff_mul_le k1).mp (show j≤s / (k - 1) by omega)
   rw [Nat.mul_comm]; exact this
  show s - (k - 1)*j+(k - 1)*j=s
  omega
 ·intro h
  refine List.mem_map.mpr ⟨t.2,List.mem_range.mpr ?_,?_⟩
  ·have:t.2≤s / (k - 1):=(Nat.le_div_iff_mul_le k1).mpr (by rw [Nat.mul_comm]; omega)
   omega
  ·have:s - (k - 1)*t.2=t.1:=by omega
   rw [this]
theorem zaB {k s:Nat} (hk:2≤k) {t:Tm}:t∈zQ k s↔tz k t < s:=by
 unfold zQ
 rw [List.mem_flatMap]
 constructor
 ·rintro⟨z,hz,h⟩
  rw [(zcg hk).mp h]
  exact List.mem_range.mp hz
 ·intro h
  exact⟨tz k t,List.mem_range.mpr h,(zcg hk).mpr rfl⟩
theorem zhZ (k s:Nat):(tms k s).Nodup:=by
 unfold tms
 rw [List.nodup_iff_pairwise_ne,List.pairwise_map]
 refine List.Pairwise.imp ?_ List.nodup_range
 intro a b h e
 exact h (congrArg Prod.snd e)
theorem zaR {k:Nat} (hk:2≤k):∀ s,(zQ k s).Nodup
 | 0=>by simp [zQ]
 | s+1=>by
  rw [za3,List.nodup_append]
  refine⟨zaR hk s,zhZ k s,fun a ha b hb e=>?_⟩
  subst e
  have h1:=(zaB hk).mp ha
  have h2:=(zcg hk).mp hb
  omega
theorem zbV {k:Nat} (hk:2≤k):∀ s,(zQ k s).Pairwise fun a b=>tz k a≤tz k b
 | 0=>by simp [zQ]
 | s+1=>by
  rw [za3,List.pairwise_append]
  refine⟨zbV hk s,?_,fun a ha b hb=>?_⟩
  ·refine List.Pairwise.imp_of_mem (R:=fun _ _=>True) ?_ (List.pairwise_of_forall fun _ _=>trivial)
   intro a b ha hb _
   rw [(zcg hk).mp ha,(zcg hk).mp hb]
   exact Nat.le_refl _
  ·have h1:=(zaB hk).mp ha
   have h2:=(zcg hk).mp hb
   omega
theorem zcY (k:Nat):∀ s,s≤(zQ k s).length
 | 0=>Nat.zero_le _
 | s+1=>by
  rw [za3,List.length_append]
  have:=zcY k s
  have h:1≤(tms k s).length:=by unfold tms; rw [List.length_map,List.length_range]; exact Nat.le_add_left _ _
  omega
theorem zeD (k:Nat) {a:Nat}:∀ {b},a≤b→zQ k a <+: zQ k b
 | 0,h=>by
  obtain rfl:a=0:=by omega
  exact List.prefix_refl _
 | b+1,h=>by
  by_cases e:a=b+1
  ·rw [e]
   exact List.prefix_refl _
  ·exact (zeD k (show a≤b by omega)).trans (by rw [za3]; exact List.prefix_append _ _)
def lsum (l:List Tm) (f:Tm→Int):Int:=(l.map f).sum
theorem zjj (f:Tm→Int):lsum [] f=0:=rfl
theorem za4 (a:Tm) (l:List Tm) (f:Tm→Int):lsum (a :: l) f=f a+lsum l f:=by simp [lsum]
theorem zdc (l m:List Tm) (f:Tm→Int):lsum (l++m) f=lsum l f+lsum m f:=by simp [lsum]
theorem zdz {p:Int} {f g:Tm→Int}:∀ {l:List Tm},(∀ t∈l,Cg p (f t) (g t))→Cg p (lsum l f) (lsum l g)
 | [],_=>Cg.refl p _
 | a :: l,h=>by
  rw [za4,za4]
  exact (h a List.mem_cons_self).add (zdz fun t ht=>h t (List.mem_cons_of_mem _ ht))
theorem zjk {l m:List Int} (h:l.Perm m):l.sum=m.sum:=by
 induction h with
 | nil=>rfl
 | cons a _ ih=>simp [ih]
 | swap a b l=>simp only [List.sum_cons]; omega
 | trans _ _ h1 h2=>rw [h1,h2]
theorem zh0 {l m:List Tm} {f:Tm→Int} (h:l.Perm m):lsum l f=lsum m f:=zjk (h.map f)
theorem zeE {l m:List Tm} {f:Tm→Int} (hl:l.Nodup) (hm:m.Nodup) (h:∀ t,t∈l↔t∈m):lsum l f=lsum m f:=zh0 ((List.perm_ext_iff_of_nodup hl hm).mpr h)
theorem zdA {f:Tm→Int} {g:Nat→Int}:∀ {l:List Tm} {n:Nat},n=l.length→(∀ i t,l[i]? = some t→g i=f t)→sm n g=lsum l f
 | [],_,rfl,_=>rfl
 | a :: l,_,rfl,h=>by
  rw [za4,List.length_cons,zdx,h 0 a rfl,zdA rfl fun i t e=>h (i+1) t (by simpa using e)]
def gps (k s:Nat):List Tm:=(List.range (s / (k - 1)+1)).flatMap fun j=>(List.range (s - (k - 1)*j+1)).map fun i=>(i,j)
theorem zfb {k s:Nat} (hk:2≤k) {t:Tm}:t∈gps k s↔tz k t≤s:=by
 unfold gps tz
 have k1:0 < k - 1:=by omega
 rw [List.mem_flatMap]
 constructor
 ·rintro⟨j,hj,h⟩
  (obtain⟨i,hi,rfl⟩:=List.mem_map.mp h)
  have hj:=List.mem_range.mp hj
  have hi:=List.mem_range.mp hi
  have:(k - 1)*j≤s:=by
   have:=(Nat.le_div_iff_mul_le k1).mp (show j≤s / (k - 1) by omega)
   rw [Nat.mul_comm]; exact this
  show i+(k - 1)*j≤s
  omega
 ·intro h
  refine⟨t.2,List.mem_range.mpr ?_,List.mem_map.mpr ⟨t.1,List.mem_range.mpr (by omega),rfl⟩⟩
  have:t.2≤s / (k - 1):=(Nat.le_div_iff_mul_le k1).mpr (by rw [Nat.mul_comm]; omega)
  omega
theorem zcZ (k s:Nat):(gps k s).Nodup:=by
 unfold gps
 rw [List.nodup_iff_pairwise_ne,List.pairwise_flatMap]
 refine⟨fun j _=>?_,?_⟩
 ·rw [List.pairwise_map]
  refine List.Pairwise.imp ?_ List.nodup_range
  intro a b h e
  exact h (congrArg Prod.fst e)
 ·refine List.Pairwise.imp ?_ List.nodup_range
  intro a b h x hx y hy e
  obtain⟨i,_,rfl⟩:=List.mem_map.mp hx
  obtain⟨i',_,rfl⟩:=List.mem_map.mp hy
  exact h (congrArg Prod.snd e)
theorem zhg {k s:Nat} (hk:2≤k) (f:Tm→Int):lsum (gps k s) f=lsum (zQ k (s+1)) f :=
 zeE (zcZ k s) (zaR hk _) fun t=>by rw [zfb hk,zaB hk]; omega
theorem zhh {k s:Nat} (hk:2≤k):(gps k s).length=(zQ k (s+1)).length :=
 ((List.perm_ext_iff_of_nodup (zcZ k s) (zaR hk _)).mpr fun t=>by rw [zfb hk,zaB hk]; omega).length_eq
def zkl (p:Int) (L m:Nat) (vs:List (List Int)):Prop:=∀ u:Nat→Int,(∀ x,x < L→Cg p (sm m fun i=>u i*vx vs i x) 0)→∀ i,i < m→Cg p (u i) 0
theorem zkm {p:Int} {L N m:Nat} {vs:List (List Int)} {cl:List (Nat×List Int)} (hm:m≤N) (E:Ech p L N m vs cl):zkl p L m vs:=fun u hu i hi=>by
 have key:∀ y,sm N (fun i=>(if i < m then u i else 0)*vx vs i y)=sm m (fun i=>u i*vx vs i y):=fun y=>by
  rw [ze7 hm (f:=fun i=>(if i < m then u i else 0)*vx vs i y) (fun i h1 _=>by rw [if_neg (by omega)]; simp)]
  exact zar fun i hi=>by rw [if_pos hi]
 have h:=E.ii (fun y=>if y < L then sm m (fun i=>u i*vx vs i y) else if y - L < m then u (y - L) else 0) (fun x hx=>?_) (fun i h1 h2=>?_) (fun a ha=>?_) i (by omega)
 ·rw [if_neg (by omega),Nat.add_sub_cancel_left,if_pos hi] at h
  exact h
 ·dsimp only
  rw [if_pos hx,← key]
  refine Cg.of_eq (zar fun i _=>?_)
  have e:(if L+i < L then sm m (fun i_1=>u i_1*vx vs i_1 (L+i)) else if L+i - L < m then u (L+i - L) else 0)=if i < m then u i else 0:=by rw [if_neg (by omega),Nat.add_sub_cancel_left]
  rw [e]
 ·rw [if_neg (by omega),Nat.add_sub_cancel_left,if_neg (by omega)]
  exact Cg.refl p 0
 ·obtain⟨j,hj⟩:=List.getElem?_of_mem ha
  have:=(E.one j a hj).1
  rw [if_pos this]
  exact hu _ this
theorem zly {p:Int} {pts:List (Int×Int×Nat)} {t:Tm} {x:Nat} {c:Co} (h:(cos pts)[x]? = some c):gl (zau p pts t) x=cv t c % p:=zbI (by unfold zau; rw [List.getElem?_map,h]; rfl)
theorem zhi (p:Int) (pts:List (Int×Int×Nat)) (t:Tm):(zau p pts t).length=(cos pts).length:=by unfold zau; rw [List.length_map]
theorem zkn {p:Int} (p0:0 < p) {pts:List (Int×Int×Nat)} {t:Tm}:∀ c∈zau p pts t,0≤c∧c < p:=fun c hc=>by
 unfold zau at hc
 obtain⟨d,_,rfl⟩:=List.mem_map.mp hc
 exact⟨Int.emod_nonneg _ (by omega),Int.emod_lt_of_pos _ p0⟩
theorem zjl {p:Int} {pts:List (Int×Int×Nat)} {ts:List Tm} {i x:Nat} {t:Tm} {c:Co} (ht:ts[i]? = some t) (h:(cos pts)[x]? = some c):vx (ts.map (zau p pts)) i x=cv t c % p:=by
 unfold vx
 rw [List.getD_eq_getElem?_getD,List.getElem?_map,ht]
 exact zly h
structure Lst (p:Int) (k:Nat) (pts:List (Int×Int×Nat)) (size:Nat) (g:Tm→Int):Prop where
 rg:∀ t,0≤g t∧g t < p
 top:∃ t,tz k t=size∧g t≠0
 out:∀ t,size < tz k t→g t=0
 ok:∀ c∈cos pts,Cg p (lsum (zQ k (size+1)) fun t=>g t*cv t c) 0
 least:∀ h:Tm→Int,(∀ c∈cos pts,Cg p (lsum (zQ k size) fun t=>h t*cv t c) 0)→∀ t,tz k t < size→Cg p (h t) 0
 few:(zQ k size).length≤(cos pts).length
def gof (ts:List Tm) (c:List Int) (t:Tm):Int:=(List.lookup t (ts.zip c)).getD 0
theorem zgI:∀ {ts:List Tm} {c:List Int} {i:Nat} {t:Tm},ts.Nodup→ts[i]? = some t→gof ts c t=gl c i
 | [],_,_,_,_,h=>(by simp at h)
 | a :: ts,[],i,t,_,_=>by
  show (List.lookup t ([]:List (Tm×Int))).getD 0=_
  rw [zgB (by simp)]
  rfl
 | a :: ts,b :: c,0,t,_,h=>by
  cases h
  unfold gof
  rw [List.zip_cons_cons,List.lookup_cons,beq_self_eq_true]
  rfl
 | a :: ts,b :: c,i+1,t,hn,h=>by
  (have hn':=List.nodup_cons.mp hn)
  have h':ts[i]? = some t:=by simpa using h
  have ne:t≠a:=fun e=>hn'.1 (by rw [← e]; exact List.mem_of_getElem? h')
  have:=zgI (c:=c) hn'.2 h'
  unfold gof at this ⊢
  rw [List.zip_cons_cons,List.lookup_cons,show (t == a)=false by simpa using ne,this]
  unfold gl
  simp
theorem zhj:∀ {ts:List Tm} {c:List Int} {t:Tm},gof ts c t≠0→∃ i,i < c.length∧ts[i]? = some t
 | [],_,_,h=>absurd rfl h
 | a :: ts,[],t,h=>absurd rfl h
 | a :: ts,b :: c,t,h=>by
  by_cases e:t=a
  ·exact⟨0,by simp,by rw [e]; rfl⟩
  ·unfold gof at h
   rw [List.zip_cons_cons,List.lookup_cons,show (t == a)=false by simpa using e] at h
   obtain⟨i,h1,h2⟩:=zhj (ts:=ts) (c:=c) (t:=t) h
   exact⟨i+1,by simpa using h1,by simpa using h2⟩
theorem zko {p:Int} (p0:0 < p) {ts:List Tm} {c:List Int} (hc:∀ z∈c,0≤z∧z < p) (t:Tm):0≤gof ts c t∧gof ts c t < p:=by
 unfold gof
 cases h:List.lookup t (ts.zip c) with
 | none=>exact⟨Int.le_refl _,p0⟩
 | some z =>
  have:(t,z)∈ts.zip c:=by
   clear hc
   induction ts generalizing c with
   | nil=>simp at h
   | cons a ts ih =>
    cases c with
    | nil=>simp at h
    | cons b c =>
     rw [List.zip_cons_cons,List.lookup_cons] at h
     cases e:(t == a) with
     | true =>
      rw [e] at h
      cases h
      rw [show t=a by simpa using e]
      exact List.mem_cons_self
     | false =>
      rw [e] at h
      exact List.mem_cons_of_mem _ (ih h)
  exact hc z (List.of_mem_zip this).2
theorem zb5 {f:Tm→Int} {q:Tm→Bool}:∀ {l:List Tm},(∀ t∈l,q t=false→f t=0)→lsum l f=lsum (l.filter q) f
 | [],_=>rfl
 | a :: l,h=>by
  have ih:=zb5 (l:=l) (f:=f) (q:=q) fun t ht=>h t (List.mem_cons_of_mem _ ht)
  cases e:q a with
  | true=>rw [List.filter_cons_of_pos e,za4,za4,ih]
  | false=>rw [List.filter_cons_of_neg (by rw [e]; simp),za4,h a List.mem_cons_self e,ih]; omega
theorem zc0 {k:Nat} {l:List Tm} (h:l.Pairwise fun a b=>tz k a≤tz k b) {i j:Nat} {a b:Tm} (ha:l[i]? = some a) (hb:l[j]? = some b) (hij:i≤j):tz k a≤tz k b:=by
 by_cases e:i=j
 ·subst e
  rw [ha] at hb
  cases hb
  exact Nat.le_refl _
 ·obtain⟨h1,e1⟩:=List.getElem?_eq_some_iff.mp ha
  obtain⟨h2,e2⟩:=List.getElem?_eq_some_iff.mp hb
  have:=List.pairwise_iff_getElem.mp h i j h1 h2 (by omega)
  rw [e1,e2] at this
  exact this
theorem zlz {p:Int} (p0:0 < p) {k:Nat} (hk:2≤k) {pts:List (Int×Int×Nat)} {S:Nat} {ts:List Tm} (hts:ts=(zQ k S).take ((cos pts).length+1)) {c:List Int} {m:Nat} (hc:IsP p (m+1) c) {top:Tm} (htop:ts[m]? = some top) (h1:gl c m=1)
  (hD:Dep p (cos pts).length (ts.map (zau p pts)) c) (hI:zkl p (cos pts).length m (ts.map (zau p pts))):Lst p k pts (tz k top) (gof ts c):=by
 have hpre:ts <+: zQ k S:=by rw [hts]; exact List.take_prefix _ _
 have hnd:ts.Nodup:=List.Sublist.nodup hpre.sublist (zaR hk S)
 have hso:ts.Pairwise fun a b=>tz k a≤tz k b:=List.Pairwise.sublist hpre.sublist (zbV hk S)
 have hmt:m < ts.length:=(List.getElem?_eq_some_iff.mp htop).1
 have hml:m < (cos pts).length+1:=by
  rw [hts,List.length_take] at hmt
  omega
 have hin:∀ t,gof ts c t≠0→∃ i,i≤m∧ts[i]? = some t:=fun t ht=>by
  obtain⟨i,h1,h2⟩:=zhj ht
  exact⟨i,by rw [hc.1] at h1; omega,h2⟩
 have topS:tz k top < S:=(zaB hk).mp (hpre.sublist.subset (List.mem_of_getElem? htop))
 have sumAll:∀ F:Tm→Int,lsum (zQ k (tz k top+1)) (fun t=>gof ts c t*F t)=lsum ts (fun t=>gof ts c t*F t):=fun F=>by
  rw [zb5 (l:=zQ k (tz k top+1)) (q:=fun t=>decide (gof ts c t≠0)) fun t _ e=>by
    rw [show gof ts c t=0 by simpa using e]; simp,
   zb5 (l:=ts) (q:=fun t=>decide (gof ts c t≠0)) fun t _ e=>by
    rw [show gof ts c t=0 by simpa using e]; simp]
  refine zeE (List.Sublist.nodup List.filter_sublist (zaR hk _)) (List.Sublist.nodup List.filter_sublist hnd) fun t=>?_
  rw [List.mem_filter,List.mem_filter,zaB hk]
  constructor
  ·rintro⟨_,h⟩
   obtain⟨i,_,hi⟩:=hin t (by simpa using h)
   exact⟨List.mem_of_getElem? hi,h⟩
  ·rintro⟨_,h⟩
   obtain⟨i,him,hi⟩:=hin t (by simpa using h)
   exact⟨Nat.lt_succ_of_le (zc0 hso hi htop him),h⟩
 have preM:zQ k (tz k top) <+: zQ k S:=zeD k (Nat.le_of_lt topS)
 have hM:(zQ k (tz k top)).length≤m:=by
  refine Nat.le_of_not_lt fun hlt=>?_
  have hS:(zQ k S)[m]? = some top:=by
   obtain⟨r,hr⟩:=hpre
   rw [← hr,List.getElem?_append_left hmt]
   exact htop
  obtain⟨r,hr⟩:=preM
  rw [← hr,List.getElem?_append_left hlt] at hS
  have:=(zaB hk).mp (List.mem_of_getElem? hS)
  omega
 have atM:∀ i t,(zQ k (tz k top))[i]? = some t→ts[i]? = some t:=fun i t e=>by
  have hi:=(List.getElem?_eq_some_iff.mp e).1
  obtain⟨r,hr⟩:=preM
  have hS:(zQ k S)[i]? = some t:=by rw [← hr,List.getElem?_append_left hi]; exact e
  obtain⟨r2,hr2⟩:=hpre
  rw [← hr2,List.getElem?_append_left (by omega)] at hS
  exact hS
 refine⟨zko p0 hc.2,⟨top,rfl,by rw [zgI hnd htop,h1]; decide⟩,fun t ht=>?_,fun d hd=>?_,fun h hh t ht=>?_,by omega⟩
 ·refine Classical.byContradiction fun hne=>?_
  obtain⟨i,him,hi⟩:=hin t hne
  have:=zc0 hso hi htop him
  omega
 ·rw [sumAll]
  obtain⟨x,hx⟩:=List.mem_iff_getElem?.mp hd
  have hx':=(List.getElem?_eq_some_iff.mp hx).1
  have:=hD x hx'
  rw [List.length_map,zdA (l:=ts) (f:=fun t=>gof ts c t*(cv t d % p)) rfl fun i t e=>by rw [zgI hnd e,zjl e hx]] at this
  exact (zdz fun t _=>(Cg.refl p _).mul (Cg.emod p _).symm).trans this
 ·have hu:=hI (fun i=>if i < (zQ k (tz k top)).length then h (ts.getD i (0,0)) else 0) (fun x hx=>?_)
  ·obtain⟨i,hi⟩:=List.mem_iff_getElem?.mp ((zaB hk).mpr ht)
   have hil:=(List.getElem?_eq_some_iff.mp hi).1
   have:=hu i (by omega)
   rw [if_pos hil,List.getD_eq_getElem?_getD,atM i t hi] at this
   exact this
  ·have hx2:(cos pts)[x]? = some ((cos pts)[x]'hx):=List.getElem?_eq_getElem hx
   rw [ze7 hM fun i h2 _=>by rw [if_neg (by omega)]; simp]
   rw [zdA (l:=zQ k (tz k top)) (f:=fun t=>h t*(cv t ((cos pts)[x]'hx) % p)) rfl fun i t e=>by
    rw [if_pos (List.getElem?_eq_some_iff.mp e).1,zjl (atM i t e) hx2,List.getD_eq_getElem?_getD,atM i t e]
    rfl]
   exact (zdz fun t _=>(Cg.refl p _).mul (Cg.emod p _)).trans (hh _ (List.getElem_mem hx))
end My
end
section
set_option maxHeartbeats 3998000
namespace My
open PySem L2 PyProof.Rows
theorem zkp {p:Int} (hp:1 < p) {n:Nat} {M:List (List Int)} {pv:List Nat} (R:RK p n M pv) (h:∀ v,Sol p n M v→∀ j,j < n→Cg p (v j) 0):pv.length=n:=by
 have all:∀ j,j < n→j∈pv:=fun j hj=>Classical.byContradiction fun hn=>by
  obtain⟨v,hv,hw⟩:=R.E fun _=>1
  have:=h v hv j hj
  rw [hw j hj hn] at this
  exact absurd (this.eq (by decide) hp (by decide) (by omega)) (by decide)
 have:=((List.perm_ext_iff_of_nodup R.nd List.nodup_range).mpr fun j=>⟨fun hj=>List.mem_range.mpr (R.lt j hj),fun hj=>all j (List.mem_range.mp hj)⟩).length_eq
 rwa [List.length_range] at this
def zfV (p:Int) (k s:Nat) (pts:List (Int×Int×Nat)):List (List Int):=(cos pts).map fun c=>(gps k s).map fun t=>cv t c % p
theorem zjm {l:List Tm} (hn:l.Nodup) {i:Nat} {t:Tm} (h:l[i]? = some t):l.idxOf t=i:=by
 (obtain⟨hi,e⟩:=List.getElem?_eq_some_iff.mp h)
 rw [← e]
 exact List.Nodup.idxOf_getElem hn i hi
theorem zjn {p:Int} {k s:Nat} (hk:2≤k) {pts:List (Int×Int×Nat)} {g:Tm→Int} (L:Lst p k pts (s+1) g) {v:Nat→Int} (hS:Sol p (gps k s).length (zfV p k s pts) v):∀ j,j < (gps k s).length→Cg p (v j) 0:=fun j hj=>by
 have hn:=zcZ k s
 have hj':(gps k s)[j]? = some ((gps k s)[j]'hj):=List.getElem?_eq_getElem hj
 have:=L.least (fun t=>v ((gps k s).idxOf t)) (fun c hc=>?_) ((gps k s)[j]'hj) (Nat.lt_succ_of_le ((zfb hk).mp (List.getElem_mem hj)))
 ·rw [zjm hn hj'] at this
  exact this
 ·obtain⟨i,hi⟩:=List.mem_iff_getElem?.mp hc
  have hr:=hS i ((gps k s).map fun t=>cv t c % p) (by unfold zfV; rw [List.getElem?_map,hi]; rfl)
  unfold dot at hr
  rw [zdA (l:=gps k s) (f:=fun t=>(cv t c % p)*v ((gps k s).idxOf t)) rfl fun i t e=>by
   rw [zjm hn e,zbI (by rw [List.getElem?_map,e]; rfl)]] at hr
  rw [← zhg hk]
  refine (zdz fun t _=>?_).trans hr
  exact ((Cg.refl p _).mul (Cg.emod p _).symm).trans (Cg.of_eq (Int.mul_comm _ _))
def tri (w:Nat):Nat:=w*(w+1) / 2
theorem zjo (w:Nat):tri (w+1)=tri w+(w+1):=by
 unfold tri
 rw [show (w+1)*(w+1+1)=w*(w+1)+2*(w+1) by grind,Nat.add_mul_div_left _ _ (by decide)]
theorem zfW (n:Nat):∀ m,m≤n→((List.range m).map fun u=>n - u).sum+tri (n - m)=tri n
 | 0,_=>by simp
 | m+1,h=>by
  have ih:=zfW n m (by omega)
  rw [List.range_succ,List.map_append,List.sum_append]
  have:tri (n - m)=tri (n - (m+1))+(n - m):=by
   rw [show n - m=(n - (m+1))+1 by omega,zjo]
  (simp only [List.map_cons,List.map_nil,List.sum_cons,List.sum_nil])
  omega
theorem zkq (q:Int×Int×Nat):(pco q).length=tri q.2.2:=by
 unfold pco
 rw [List.length_flatMap]
 have:=zfW q.2.2 q.2.2 (Nat.le_refl _)
 have e:(List.range q.2.2).map (fun u=>((List.range (q.2.2 - u)).map fun v=>(⟨q.1,q.2.1,u,v⟩:Co)).length)=(List.range q.2.2).map fun u=>q.2.2 - u:=List.map_congr_left fun u _=>by rw [List.length_map,List.length_range]
 rw [e]
 have t0:tri (q.2.2 - q.2.2)=0:=by rw [Nat.sub_self]; rfl
 omega
def zbJ (pts:List (Int×Int×Nat)):Nat:=(pts.map fun q=>tri q.2.2).sum
theorem zci:∀ pts,(cos pts).length=zbJ pts
 | []=>rfl
 | q :: pts=>by
  have ih:=zci pts
  unfold cos zbJ at ih ⊢
  rw [List.flatMap_cons,List.length_append,zkq,ih]
  simp
theorem zkr {pts:List (Int×Int×Nat)} {x y:Int} {w u v:Nat} (h:(x,y,w)∈pts) (hu:u < w) (hv:v < w - u):(⟨x,y,u,v⟩:Co)∈cos pts:=by
 unfold cos
 refine List.mem_flatMap.mpr ⟨_,h,?_⟩
 unfold pco
 exact List.mem_flatMap.mpr ⟨u,List.mem_range.mpr hu,List.mem_map.mpr ⟨v,List.mem_range.mpr hv,rfl⟩⟩
def zaC (k s:Nat) (g:Tm→Int):List (List Int):=(List.range (s / (k - 1)+1)).map fun j=>(List.range (s - (k - 1)*j+1)).map fun i=>g (i,j)
theorem zbq (k s:Nat) (g:Tm→Int):(zaC k s g).length=s / (k - 1)+1:=by unfold zaC; rw [List.length_map,List.length_range]
theorem zdT {k s j:Nat} {g:Tm→Int} (h:j < s / (k - 1)+1):(zaC k s g)[j]? = some ((List.range (s - (k - 1)*j+1)).map fun i=>g (i,j)):=by
 unfold zaC
 rw [List.getElem?_map,List.getElem?_range h]
 rfl
theorem zgJ {g:Tm→Int} {n j i:Nat} (h:i < n):gl ((List.range n).map fun i=>g (i,j)) i=g (i,j):=zbI (by rw [List.getElem?_map,List.getElem?_range h]; rfl)
theorem zh1 {f:Tm→Int} {n:Nat} {w:Nat→Nat}:lsum ((List.range n).flatMap fun j=>(List.range (w j)).map fun i=>(i,j)) f=sm n fun j=>sm (w j) fun i=>f (i,j):=by
 induction n with
 | zero=>rfl
 | succ n ih =>
  rw [List.range_succ,List.flatMap_append,zdc,ih]
  show _=sm n (fun j=>sm (w j) fun i=>f (i,j))+sm (w n) (fun i=>f (i,n))
  congr 1
  have:∀ m,lsum ((List.range m).map fun i=>(i,n)) f=sm m fun i=>f (i,n):=by
   intro m
   induction m with
   | zero=>rfl
   | succ m ih2 =>
    rw [List.range_succ,List.map_append,zdc,ih2]
    show _+lsum [(m,n)] f=sm m (fun i=>f (i,n))+f (m,n)
    rw [za4,zjj]
    omega
  simp only [List.flatMap_cons,List.flatMap_nil,List.append_nil]
  exact this _
theorem zlA {k s:Nat} {f:Tm→Int}:lsum (gps k s) f=sm (s / (k - 1)+1) fun j=>sm (s - (k - 1)*j+1) fun i=>f (i,j):=zh1
theorem zfc {a b:Int} (h0:0≤a) (h:a≤b):∀ j:Nat,a ^ j≤b ^ j
 | 0=>by simp
 | j+1=>by
  rw [Int.pow_succ,Int.pow_succ]
  exact Int.le_trans (Int.mul_le_mul_of_nonneg_right (zfc h0 h j) h0) (Int.mul_le_mul_of_nonneg_left h (Int.pow_nonneg (by omega)))
theorem zjp:∀ (t j:Nat),0≤ch t j
 | 0,0=>by decide
 | _+1,0=>by show (0:Int)≤1; decide
 | 0,j+1=>by show (0:Int)≤0; decide
 | t+1,j+1=>by
  have h1:=zjp t j
  have h2:=zjp t (j+1)
  show 0≤ch t j+ch t (j+1)
  omega
theorem zjq:∀ (t j:Nat),ch t j≤((t:Int)+1) ^ j
 | t,0=>by cases t <;> simp [ch]
 | 0,j+1=>by
  show (0:Int)≤_
  exact Int.pow_nonneg (by decide)
 | t+1,j+1=>by
  have h1:=zjq t j
  have h2:=zjq t (j+1)
  have h3:((t:Int)+1) ^ j≤((t:Int)+1+1) ^ j:=zfc (by omega) (by omega) j
  have h4:(0:Int)≤((t:Int)+1) ^ j:=Int.pow_nonneg (by omega)
  have h5:((t:Int)+1) ^ j*((t:Int)+1+1)≤((t:Int)+1+1) ^ j*((t:Int)+1+1):=Int.mul_le_mul_of_nonneg_right h3 (by omega)
  show ch t j+ch t (j+1)≤(((t+1:Nat):Int)+1) ^ (j+1)
  rw [show (((t+1:Nat):Int)+1)=(t:Int)+1+1 by omega,Int.pow_succ]
  rw [Int.pow_succ] at h2
  have h6:((t:Int)+1) ^ j+((t:Int)+1) ^ j*((t:Int)+1)=((t:Int)+1) ^ j*((t:Int)+1+1):=by grind
  omega
theorem zjr {t j:Nat} (ht:t≤200) (hj:j≤3):0≤ch t j∧ch t j < 1073741824:=by
 refine⟨zjp t j,Int.lt_of_le_of_lt (zjq t j) ?_⟩
 have h1:((t:Int)+1) ^ j≤(201:Int) ^ j:=zfc (by omega) (by omega) j
 have h2:(201:Int) ^ j < 1073741824:=by
  have:j=0∨j=1∨j=2∨j=3:=by omega
  rcases this with rfl | rfl | rfl | rfl <;> decide
 omega
end My
end
section
set_option maxHeartbeats 3998000
namespace My
open PySem L2 PyProof.Rows
section
variable {K:PySem.W.Frag}
theorem LsA.off {H:Hp} {l:Addr} {ls:List Addr} {vv:List (List Int)} (h:LsA H ls vv) (hl:H l=some (.lst (ls.map V.ref))):∀ (i:Nat) (b:Addr),ls[i]? = some b→b≠l:=by
 rintro i b hb rfl
 obtain⟨v,_,hv⟩:=Paired.get h hb
 rw [hl] at hv
 cases ls with
 | nil=>simp at hb
 | cons x r =>
  cases v with
  | nil=>simp at hv
  | cons y z=>simp at hv
theorem zmc {many:Nat} {base:Int} {ds:List Int} (h:ze0 many base ds) {i:Int} (h0:0≤i) (h1:i < many):∃ d,atI (ds.map V.int) i=some (.int d)∧0≤d∧d < base:=by
 obtain⟨n,rfl⟩:∃ n:Nat,i=n:=⟨i.toNat,by omega⟩
 have hn:n < ds.length:=by rw [h.1]; omega
 refine⟨ds[n]'hn,zL (by rw [List.getElem?_map,List.getElem?_eq_getElem hn]; rfl),h.2 _ (List.getElem_mem hn)⟩
theorem zjs {H H':Hp} {ls:List Addr} {vv:List (List Int)} {D:Addr} (hD:D∉ls) (k:∀ b o,b≠D→H b=some o→H' b=some o) (h:LsA H ls vv):LsA H' ls vv:=by
 induction h with
 | nil=>exact .nil
 | cons h1 _ ih=>exact .cons (k _ _ (fun e=>hD (by rw [← e]; exact List.mem_cons_self)) h1) (ih fun z=>hD (List.mem_cons_of_mem _ z))
theorem zdd {α β:Type} {R:α→β→Prop}:∀ {as:List α} {bs:List β} {x:α} {y:β},Paired R (as++[x]) (bs++[y])→Paired R as bs∧R x y
 | [],[],_,_,h=>by cases h with | cons h1 _=>exact⟨.nil,h1⟩
 | [],b :: bs,_,_,h=>by have:=Paired.length h; simp at this
 | a :: as,[],_,_,h=>by have:=Paired.length h; simp at this
 | a :: as,b :: bs,_,_,h=>by
  cases h with
  | cons h1 h2 =>
   obtain⟨p1,p2⟩:=zdd h2
   exact⟨.cons h1 p1,p2⟩
def trm (j:Nat) (r:List Int) (m:Nat):List (Int×Int):=((List.range m).filter fun i=>gl r i≠0).map fun i:Nat=>((i:Int),(j:Int))
def zcy (rows:List (List Int)) (m:Nat):List (Int×Int):=(List.range m).flatMap fun j=>trm j (rows.getD j []) (rows.getD j []).length
theorem zfX (j:Nat) (r:List Int) (m:Nat):trm j r (m+1)=if gl r m≠0 then trm j r m++[((m:Int),(j:Int))] else trm j r m:=by
 unfold trm
 rw [List.range_succ,List.filter_append,List.map_append]
 by_cases h:gl r m=0 <;> simp [h]
theorem zeF (rows:List (List Int)) (m:Nat):zcy rows (m+1)=zcy rows m++trm m (rows.getD m []) (rows.getD m []).length:=by
 unfold zcy
 rw [List.range_succ,List.flatMap_append]
 simp
theorem zfd (j:Nat) (r:List Int) (m:Nat):(trm j r m).length≤m:=by
 unfold trm
 rw [List.length_map]
 exact Nat.le_trans (List.length_filter_le _ _) (by simp)
def szs (k:Int) (ts:List (Int×Int)):List Int:=ts.map fun q=>q.1+(k - 1)*q.2
theorem zfe (k:Int) (ts:List (Int×Int)):(szs k ts).length=ts.length:=by simp [szs]
theorem zhk (k:Int) (l m:List (Int×Int)):szs k (l++m)=szs k l++szs k m:=by simp [szs]
def wd (rows:List (List Int)):Nat:=rows.foldr (fun r m=>max r.length m) 0
theorem zkO {rows:List (List Int)} {r:List Int} (h:r∈rows):r.length≤wd rows:=by
 induction rows with
 | nil=>cases h
 | cons a l ih =>
  show r.length≤max a.length (wd l)
  rcases (List.mem_cons.mp h) with rfl | h
  ·exact Nat.le_max_left _ _
  ·exact Nat.le_trans (ih h) (Nat.le_max_right _ _)
theorem zff:∀ {rows:List (List Int)},rows≠[]→∃ r∈rows,r.length=wd rows
 | [],h=>absurd rfl h
 | a :: l,_=>by
  by_cases e:l = []
  ·subst e; exact⟨a,List.mem_cons_self,by show _=max a.length 0; omega⟩
  ·obtain⟨r,hr,er⟩:=zff e
   by_cases h:wd l≤a.length
   ·exact⟨a,List.mem_cons_self,by show _=max a.length (wd l); omega⟩
   ·exact⟨r,List.mem_cons_of_mem _ hr,by show _=max a.length (wd l); omega⟩
def zaV (rows:List (List Int)):List Int:=rows.map fun r=>(r.length:Int)
theorem zgK (rows:List (List Int)):(zaV rows).length=rows.length:=by simp [zaV]
theorem zmd {rows:List (List Int)} {M:Int} (h0:zaV rows = []→M=0) (h1:zaV rows≠[]→M∈zaV rows∧∀ a∈zaV rows,if true=true then a≤M else M≤a):M=(wd rows:Int):=by
 by_cases e:rows = []
 ·subst e; exact h0 rfl
 ·obtain⟨m1,m2⟩:=h1 (by simpa [zaV] using e)
  obtain⟨r,hr,rfl⟩:=List.mem_map.mp m1
  obtain⟨r',hr',e'⟩:=zff e
  have b1:=zkO hr
  have b2:=m2 _ (List.mem_map.mpr ⟨r',hr',rfl⟩)
  rw [if_pos rfl] at b2
  omega
def zbk (p x:Int) (m:Nat):List Int:=(List.range m).map fun i=>x ^ i % p
theorem zeG (p x:Int) (m:Nat):zbk p x (m+1)=zbk p x m++[x ^ m % p]:=by
 unfold zbk
 rw [List.range_succ,List.map_append]
 rfl
theorem zcM (p x:Int) (m:Nat):(zbk p x m).length=m:=by unfold zbk; rw [List.length_map,List.length_range]
theorem zhl {xs:List V} {v:V}:atI (xs++[v]) (-1)=some v:=by
 unfold atI ixN
 rw [if_neg (by decide),if_pos (by rw [List.length_append]; show -((xs.length+1:Nat):Int)≤-1; omega)]
 show (xs++[v])[(-1+((xs++[v]).length:Int)).toNat]? = some v
 rw [List.length_append,show (-1+((xs.length + [v].length:Nat):Int)).toNat=xs.length by show (-1+((xs.length+1:Nat):Int)).toNat=_; omega,List.getElem?_append_right (Nat.le_refl _),Nat.sub_self]
 rfl
theorem zeH {B:Nat} {rows:List (List Int)} (h:∀ r∈rows,r.length≤B):∀ m,(zcy rows m).length≤B*m
 | 0=>by simp [zcy]
 | m+1=>by
  have ih:=zeH h m
  have hl:(rows.getD m []).length≤B:=by
   cases e:rows[m]? with
   | none=>simp [List.getD,e]
   | some r=>simp only [List.getD,e,Option.getD_some]; exact h r (List.mem_of_getElem? e)
  have h2:=zfd m (rows.getD m []) (rows.getD m []).length
  rw [zeF,List.length_append,Nat.mul_succ]
  omega
end
end My
end
section
set_option maxHeartbeats 3999000
namespace My
open PySem L2 PyProof.Rows
def top (i:Nat):Stmt:=PySem.Challenge.pw_slipcurve_k11_whole_least_curves.main.body.getD i (.Pass ⟨0,0,0,0⟩)
abbrev zcj:Stmt:=top 13
abbrev zaW:Stmt:=top 14
abbrev zaX:Stmt:=top 16
abbrev zao:Stmt:=top 17
abbrev zaD:Stmt:=top 18
abbrev zbK:Stmt:=top 19
abbrev zae:Stmt:=top 20
abbrev zbd:Stmt:=top 21
abbrev zav:Stmt:=top 23
abbrev zaJ:Stmt:=top 25
abbrev zac:Stmt:=top 26
abbrev zaY:Stmt:=top 27
abbrev zbe:Stmt:=top 28
abbrev zcN:Stmt:=top 30
abbrev zck:Stmt:=top 31
abbrev zcl:Stmt:=top 32
abbrev zb6:Stmt:=top 33
abbrev zcm:Stmt:=top 34
abbrev zaw:Stmt:=top 35
abbrev zcO:Stmt:=top 36
abbrev zbf:Stmt:=top 37
abbrev zbW:Stmt:=top 38
abbrev zbX:Stmt:=top 39
abbrev zax:Stmt:=top 40
abbrev zbL:Stmt:=top 41
abbrev zas:Stmt:=top 42
abbrev zcP:Stmt:=top 43
abbrev zcQ:Stmt:=top 44
abbrev zaE:Stmt:=top 45
abbrev zb7:Stmt:=top 46
abbrev zbM:Stmt:=top 47
structure Adr where
 SlipError:Addr
 TooFew:Addr
 NoCurve:Addr
 NoPaper:Addr
 NoPlace:Addr
 NoNumber:Addr
 Heard:Addr
 NotHeard:Addr
 NothingLeft:Addr
 NoText:Addr
 NoRow:Addr
 inverse:Addr
 times_root:Addr
 moved_powers:Addr
 numbers_at:Addr
 vectors_of:Addr
 without:Addr
 first_relation:Addr
 first_sum:Addr
 heard_points:Addr
 first_terms:Addr
 least_curve:Addr
 check_curves:Addr
 curve_for:Addr
 l_cell:Addr
 l_draws:Addr
 l_whole:Addr
 l_code:Addr
 l_value:Addr
 l_polynomial:Addr
 l_row:Addr
 l_rank:Addr
 l_powers:Addr
 l_choose:Addr
 l_passes:Addr
 l_asked:Addr
 l_has_curve:Addr
 l_word:Addr
 l_told:Addr
 l_is_curve:Addr
 l_size:Addr
 law:Addr
structure KW (K:PySem.W.Frag) (t:Adr) (C:Addr) (b0 b1 b2 b3 b4 b5 b6 b7 b8 b9:Bool):Prop where
 i0:PySem.W.kitOne K (.ref C) (.ref t.TooFew)=some b0
 i1:PySem.W.kitOne K (.ref C) (.ref t.NoCurve)=some b1
 i2:PySem.W.kitOne K (.ref C) (.ref t.NoPaper)=some b2
 i3:PySem.W.kitOne K (.ref C) (.ref t.NoPlace)=some b3
 i4:PySem.W.kitOne K (.ref C) (.ref t.NoNumber)=some b4
 i5:PySem.W.kitOne K (.ref C) (.ref t.Heard)=some b5
 i6:PySem.W.kitOne K (.ref C) (.ref t.NotHeard)=some b6
 i7:PySem.W.kitOne K (.ref C) (.ref t.NothingLeft)=some b7
 i8:PySem.W.kitOne K (.ref C) (.ref t.NoText)=some b8
 i9:PySem.W.kitOne K (.ref C) (.ref t.NoRow)=some b9
 iv:PySem.W.kitOne K (.ref C) (.type "ValueError")=some true
 xc:Xc K C
 sl:PySem.W.kitCls K (.ref C) (.ref t.SlipError)=some true
structure Txt (K:PySem.W.Frag) (mg:Str→Option Value) (t:Adr):Prop where
 len_:mg "len" = none
 range_:mg "range" = none
 list_:mg "list" = none
 tuple_:mg "tuple" = none
 min_:mg "min" = none
 max_:mg "max" = none
 int_:mg "int" = none
 bool_:mg "bool" = none
 isinstance_:mg "isinstance" = none
 zip_:mg "zip" = none
 enumerate_:mg "enumerate" = none
 sum_:mg "sum" = none
 dict_:mg "dict" = none
 ValueError_:mg "ValueError" = none
 x_SlipError:mg "SlipError" = some (.ref t.SlipError)
 x_TooFew:mg "TooFew" = some (.ref t.TooFew)
 x_NoCurve:mg "NoCurve" = some (.ref t.NoCurve)
 x_NoPaper:mg "NoPaper" = some (.ref t.NoPaper)
 x_NoPlace:mg "NoPlace" = some (.ref t.NoPlace)
 x_NoNumber:mg "NoNumber" = some (.ref t.NoNumber)
 x_Heard:mg "Heard" = some (.ref t.Heard)
 x_NotHeard:mg "NotHeard" = some (.ref t.NotHeard)
 x_NothingLeft:mg "NothingLeft" = some (.ref t.NothingLeft)
 x_NoText:mg "NoText" = some (.ref t.NoText)
 x_NoRow:mg "NoRow" = some (.ref t.NoRow)
 xi_NoCurve:PySem.W.excIn K t.NoCurve ziT "ValueError.__new__" = true
 kw_NoCurve:KW K t t.NoCurve false true false false false false false false false false
 sb:PySem.W.mroIn K t.SlipError (.type "BaseException")=some true
 m_inverse:mg "inverse" = some (.ref t.inverse)
 m_times_root:mg "times_root" = some (.ref t.times_root)
 m_moved_powers:mg "moved_powers" = some (.ref t.moved_powers)
 m_numbers_at:mg "numbers_at" = some (.ref t.numbers_at)
 m_vectors_of:mg "vectors_of" = some (.ref t.vectors_of)
 m_without:mg "without" = some (.ref t.without)
 m_first_relation:mg "first_relation" = some (.ref t.first_relation)
 m_first_sum:mg "first_sum" = some (.ref t.first_sum)
 m_heard_points:mg "heard_points" = some (.ref t.heard_points)
 m_first_terms:mg "first_terms" = some (.ref t.first_terms)
 m_least_curve:mg "least_curve" = some (.ref t.least_curve)
 m_check_curves:mg "check_curves" = some (.ref t.check_curves)
 m_curve_for:mg "curve_for" = some (.ref t.curve_for)
 m_l_cell:mg "_law_cell" = some (.ref t.l_cell)
 m_l_draws:mg "_law_draws" = some (.ref t.l_draws)
 m_l_whole:mg "_law_whole" = some (.ref t.l_whole)
 m_l_code:mg "_law_code" = some (.ref t.l_code)
 m_l_value:mg "_law_value" = some (.ref t.l_value)
 m_l_polynomial:mg "_law_polynomial" = some (.ref t.l_polynomial)
 m_l_row:mg "_law_row" = some (.ref t.l_row)
 m_l_rank:mg "_law_rank" = some (.ref t.l_rank)
 m_l_powers:mg "_law_powers" = some (.ref t.l_powers)
 m_l_choose:mg "_law_choose" = some (.ref t.l_choose)
 m_l_passes:mg "_law_passes" = some (.ref t.l_passes)
 m_l_asked:mg "_law_asked" = some (.ref t.l_asked)
 m_l_has_curve:mg "_law_has_curve" = some (.ref t.l_has_curve)
 m_l_word:mg "_law_word" = some (.ref t.l_word)
 m_l_told:mg "_law_told" = some (.ref t.l_told)
 m_l_is_curve:mg "_law_is_curve" = some (.ref t.l_is_curve)
 m_l_size:mg "_law_size" = some (.ref t.l_size)
 f_inverse:∃ fd,Fun K "inverse" "inverse" zcj t.inverse fd∧Binds K fd ["p","number"] []
 f_times_root:∃ fd,Fun K "times_root" "times_root" zaW t.times_root fd∧Binds K fd ["p","polynomial","root"] []
 f_moved_powers:∃ fd,Fun K "moved_powers" "moved_powers" zaX t.moved_powers fd∧Binds K fd ["p","by","most","kept"] []
 f_numbers_at:∃ fd,Fun K "numbers_at" "numbers_at" zao t.numbers_at fd∧Binds K fd ["p","terms","point"] []
 f_vectors_of:∃ fd,Fun K "vectors_of" "vectors_of" zaD t.vectors_of fd∧Binds K fd ["p","terms","points"] []
 f_without:∃ fd,Fun K "without" "without" zbK t.without fd∧Binds K fd ["p","vector","times","other"] []
 f_first_relation:∃ fd,Fun K "first_relation" "first_relation" zae t.first_relation fd∧Binds K fd ["p","vectors"] []
 f_first_sum:∃ fd,Fun K "first_sum" "first_sum" zbd t.first_sum fd∧Binds K fd ["p","terms","points"] []
 f_heard_points:∃ fd,Fun K "heard_points" "heard_points" zav t.heard_points fd∧Binds K fd ["code","row"] []
 f_first_terms:∃ fd,Fun K "first_terms" "first_terms" zaJ t.first_terms fd∧Binds K fd ["k","many"] []
 f_least_curve:∃ fd,Fun K "least_curve" "least_curve" zac t.least_curve fd∧Binds K fd ["p","k","points"] []
 f_check_curves:∃ fd,Fun K "check_curves" "check_curves" zaY t.check_curves fd∧Binds K fd ["k"] []
 f_curve_for:∃ fd,Fun K "curve_for" "curve_for" zbe t.curve_for fd∧Binds K fd ["code","row","m"] []
 f_l_cell:∃ fd,Fun K "_law_cell" "_law_cell" zcN t.l_cell fd∧Binds K fd ["script","k"] []
 f_l_draws:∃ fd,Fun K "_law_draws" "_law_draws" zck t.l_draws fd∧Binds K fd ["script","k","many","base"] []
 f_l_whole:∃ fd,Fun K "_law_whole" "_law_whole" zcl t.l_whole fd∧Binds K fd ["found"] []
 f_l_code:∃ fd,Fun K "_law_code" "_law_code" zb6 t.l_code fd∧Binds K fd ["script","at","most_k","most_n"] []
 f_l_value:∃ fd,Fun K "_law_value" "_law_value" zcm t.l_value fd∧Binds K fd ["p","polynomial","x"] []
 f_l_polynomial:∃ fd,Fun K "_law_polynomial" "_law_polynomial" zaw t.l_polynomial fd∧Binds K fd ["draws","p","k"] []
 f_l_row:∃ fd,Fun K "_law_row" "_law_row" zcO t.l_row fd∧Binds K fd ["script","at","code"] []
 f_l_rank:∃ fd,Fun K "_law_rank" "_law_rank" zbf t.l_rank fd∧Binds K fd ["p","rows"] []
 f_l_powers:∃ fd,Fun K "_law_powers" "_law_powers" zbW t.l_powers fd∧Binds K fd ["p","x","many"] []
 f_l_choose:∃ fd,Fun K "_law_choose" "_law_choose" zbX t.l_choose fd∧Binds K fd ["many","few"] []
 f_l_passes:∃ fd,Fun K "_law_passes" "_law_passes" zax t.l_passes fd∧Binds K fd ["p","curve","point","m"] []
 f_l_asked:∃ fd,Fun K "_law_asked" "_law_asked" zbL t.l_asked fd∧Binds K fd ["p","k","weighed","size"] []
 f_l_has_curve:∃ fd,Fun K "_law_has_curve" "_law_has_curve" zas t.l_has_curve fd∧Binds K fd ["p","k","weighed","size"] []
 f_l_word:∃ fd,Fun K "_law_word" "_law_word" zcP t.l_word fd∧Binds K fd ["e"] []
 f_l_told:∃ fd,Fun K "_law_told" "_law_told" zcQ t.l_told fd∧Binds K fd ["code","row","m"] []
 f_l_is_curve:∃ fd,Fun K "_law_is_curve" "_law_is_curve" zaE t.l_is_curve fd∧Binds K fd ["p","curve"] []
 f_l_size:∃ fd,Fun K "_law_size" "_law_size" zb7 t.l_size fd∧Binds K fd ["k","curve"] []
section
variable {P:Program} {w:World} {K:PySem.W.Frag} {mg:Str→Option Value} {base:Heap} {t:Adr}
theorem zh2:FnScope ["script","k"] ["script","k"] (zh zcN):=⟨rfl,rfl,rfl,by decide +kernel,rfl,by decide +kernel,by decide +kernel⟩
theorem zh3 {fd:FuncData} (T:Txt K mg t) (F:Fun K "_law_cell" "_law_cell" zcN t.l_cell fd):FnOk P w K mg base CX0 1 t.l_cell fd ["script","k"] (zhI K):=by
 refine F.ok zh2 (fun vs H Q E h=>?_) (fun cdv A outer s H vs Q E hr h=>?_)
 ·obtain⟨a,ns,k,rfl,_⟩:=h; rfl
 ·obtain⟨a,ns,k,rfl,hS,hlen,k0,k1,q⟩:=h
  refine⟨_,(@zd _ _ _ _ _ (@zaG _ _ _ _ _ _ _ _ (@zz _ _ _ _ _ _ _ _ (@zdF _) (@pvx _ 1 _ _ rfl) (@zn _ _ _ _ _ _ _ _ _ (@zx _) (by rfl) T.len_ boot_len (@za _ _ _ _ _ (@pvx _ 0 _ _ rfl) (@ze _) (by rfl)) (by decide) (by decide) (by rfl) (by rfl)) (zF _)) (@zj _ _ _ (@zB _ _ _ _ (@zu _ _ _ _ _ _ _ (@zq _) (@pvx _ 0 _ _ rfl) (@pvx _ 1 _ _ rfl) (fun _ _=>rfl)))) (@zY _)) (by exact (@zd _ _ _ _ _ (@zaG _ _ _ _ _ _ _ _ (@zz _ _ _ _ _ _ _ _ (@zc4 _) (@zn _ _ _ _ _ _ _ _ _ (@zx _) (by rfl) T.len_ boot_len (@za _ _ _ _ _ (@pvx _ 0 _ _ rfl) (@ze _) (by rfl)) (by decide) (by decide) (by rfl) (by rfl)) (@zf _ _ _ _) (zF _)) (@zj _ _ _ (@zB _ _ _ _ (@zg _ _ _ _ _ _ _ _ (@zJ _) (@zg _ _ _ _ _ _ _ _ (@zD _) (@zf _ _ _ _) (@pvx _ 1 _ _ rfl)) (@zf _ _ _ _)))) (@zY _)) (by exact (@zj _ _ _ (@zB _ _ _ _ (@zg _ _ _ _ _ _ _ _ (@zJ _) (@zg _ _ _ _ _ _ _ _ (@zC _) (@zu _ _ _ _ _ _ _ (@zq _) (@pvx _ 0 _ _ rfl) (@zg _ _ _ _ _ _ _ _ (@zC _) (@pvx _ 1 _ _ rfl) (@zn _ _ _ _ _ _ _ _ _ (@zx _) (by rfl) T.len_ boot_len (@za _ _ _ _ _ (@pvx _ 0 _ _ rfl) (@ze _) (by rfl)) (by decide) (by decide) (by rfl) (by rfl))) (fun _ _=>rfl)) (@zf _ _ _ _)) (@zg _ _ _ _ _ _ _ _ (@zD _) (@zf _ _ _ _) (@pvx _ 1 _ _ rfl))))))))),?_⟩
  refine⟨_,rfl,_,rfl,a,_,rfl,.inl hS,_,_,rfl,rfl,_,rfl,?_⟩; rw [List.length_map]
  refine zap (fun h=>?_) (fun h=>?_)
  ·have h:k < (ns.length:Int):=by simpa using h
   obtain⟨c,hc⟩:=zdu k0 h
   exact⟨_,rfl,_,rfl,a,_,k,_,rfl,rfl,hS,hc,q c⟩
  ·have h:¬ k < (ns.length:Int):=by simpa using h
   refine⟨_,rfl,a,_,rfl,.inl hS,rfl,_,rfl,?_⟩
   rw [List.length_map]
   refine zap (fun h2=>?_) (fun h2=>?_)
   ·exact⟨_,rfl,_,_,rfl,rfl,.inl ⟨by decide,by decide⟩,_,_,rfl,rfl,q _⟩
   ·have h2:¬ V.int (ns.length:Int)=V.int 0:=by simpa using h2
    have hpos:0 < (ns.length:Int):=by
     have:(ns.length:Int)≠0:=fun z=>h2 (by rw [z])
     omega
    have m0:=Int.emod_nonneg k (show (ns.length:Int)≠0 by omega)
    have m1:=Int.emod_lt_of_pos k hpos
    obtain⟨c,hc⟩:=zdu m0 m1
    refine⟨_,rfl,_,rfl,_,rfl,a,_,rfl,.inl hS,_,_,rfl,rfl,by rw [List.length_map]; exact hpos,a,_,_,_,rfl,rfl,hS,by rw [List.length_map]; exact hc,_,_,rfl,rfl,(by show (0:Int) < 1000003; decide),?_⟩
    exact⟨_,rfl,_,_,rfl,rfl,.inl ⟨by decide,by decide⟩,_,_,rfl,rfl,q _⟩
theorem zZ:FnScope ["script","k","many","base","primes","cell","rest","row","j","mash"] ["script","k","many","base"] (zh zck):=⟨rfl,rfl,rfl,by decide +kernel,rfl,by decide +kernel,by decide +kernel⟩
theorem zcz {fd:FuncData} (T:Txt K mg t) (F:Fun K "_law_draws" "_law_draws" zck t.l_draws fd):FnOk P w K mg base CX0 2 t.l_draws fd ["script","k","many","base"] (zgp K):=by
 obtain⟨fd_l_cell,F_l_cell,b_l_cell⟩:=T.f_l_cell
 have G_l_cell:=zh3 (P:=P) (w:=w) (base:=base) T F_l_cell
 refine F.ok zZ (fun vs H Q E h=>?_) (fun cdv A outer s H vs Q E hr h=>?_)
 ·obtain⟨a,ns,k,many,base,rfl,_⟩:=h
  rfl
 ·obtain⟨a,ns,k,many,bs,rfl,hS,hlen,k0,k1,m0,m1,b0,b1,q⟩:=h
  refine⟨_,(@zd _ _ _ _ _ (@zm _ _ (4) _ _ _ _ zZ.nd rfl (Or.inl rfl) (@zbg _ _ _ _ _ (@zb3 _ _ _ _ _ _ (by exact (@zb3 _ _ _ _ _ _ (by exact (@zb3 _ _ _ _ _ _ (by exact (@zb3 _ _ _ _ _ _ (by exact (@zb3 _ _ _ _ _ _ (by exact (@za _ _ _ _ _ (@zf _ _ _ _) (@za _ _ _ _ _ (@zf _ _ _ _) (@za _ _ _ _ _ (@zf _ _ _ _) (@ze _) (by rfl)) (by rfl)) (by rfl))))))))))))) (by rfl) (by trivial)) (by exact (@zd _ _ _ _ _ (@zm _ _ (5) _ _ _ _ zZ.nd rfl (Or.inl rfl) (@zt _ _ _ _ _ _ _ _ _ _ _ _ _ _ _ _ G_l_cell (hr.mono (by decide)) rfl T.m_l_cell F_l_cell.kp b_l_cell .nil (@zW _) (@za _ _ _ _ _ (@pvx _ 0 _ _ rfl) (@za _ _ _ _ _ (@pvx _ 1 _ _ rfl) (@ze _) (by rfl)) (by rfl)) (by decide) (by rfl) (by rfl)) (by rfl) (by trivial)) (by exact (@zd _ _ _ _ _ (@zm _ _ (6) _ _ _ _ zZ.nd rfl (Or.inl rfl) (@zf _ _ _ _) (by rfl) (by trivial)) (by exact (@zd _ _ _ _ _ (@zaG _ _ _ _ _ _ _ _ (@zz _ _ _ _ _ _ _ _ (@zg0 _) (@pvx _ 5 _ _ rfl) (@zg _ _ _ _ _ _ _ _ (@zk1 _) (@zf _ _ _ _) (@zf _ _ _ _)) (zF _)) (@zj _ _ _ (@zm _ _ (6) _ _ _ _ zZ.nd rfl (Or.inl rfl) (@pvx _ 5 _ _ rfl) (by rfl) (by trivial))) (@zY _)) (by exact (@zd _ _ _ _ _ (@zm _ _ (7) _ _ _ _ zZ.nd rfl (Or.inl rfl) (@zN _ _ _ _ (@ze _)) (by rfl) (by trivial)) (by exact (@zd _ _ _ _ _ (@zai _ _ _ _ _ _ _ _ PassesOwn.never rfl (@zI _ _ _ _ _ _ rfl T.range_ (@za _ _ _ _ _ (@pvx _ 2 _ _ rfl) (@ze _) (by rfl)) (by rfl)) (@zi _ _ (8) _ zZ.nd rfl (Or.inl rfl) (by trivial)) (@zd _ _ _ _ _ (@zm _ _ (9) _ _ _ _ zZ.nd rfl (Or.inl rfl) (@zg _ _ _ _ _ _ _ _ (@zD _) (@zg _ _ _ _ _ _ _ _ (@zC _) (@pvx _ 5 _ _ rfl) (@zu _ _ _ _ _ _ _ (@zbZ _) (@pvx _ 4 _ _ rfl) (@zg _ _ _ _ _ _ _ _ (@zC _) (@pvx _ 8 _ _ rfl) (@zf _ _ _ _)) (fun _ _=>rfl))) (@zg _ _ _ _ _ _ _ _ (@zJ _) (@zf _ _ _ _) (@zg _ _ _ _ _ _ _ _ (@zD _) (@zg _ _ _ _ _ _ _ _ (@zD _) (@zf _ _ _ _) (@pvx _ 8 _ _ rfl)) (@pvx _ 8 _ _ rfl)))) (by rfl) (by trivial)) (by exact (@zd _ _ _ _ _ (@zm _ _ (9) _ _ _ _ zZ.nd rfl (Or.inl rfl) (@zg _ _ _ _ _ _ _ _ (@zJ _) (@zg _ _ _ _ _ _ _ _ (@zJ _) (@pvx _ 9 _ _ rfl) (@zg _ _ _ _ _ _ _ _ (@zD _) (@zg _ _ _ _ _ _ _ _ (@zD _) (@zf _ _ _ _) (@zg _ _ _ _ _ _ _ _ (@zJ _) (@pvx _ 8 _ _ rfl) (@zf _ _ _ _))) (@zg _ _ _ _ _ _ _ _ (@zJ _) (@pvx _ 8 _ _ rfl) (@zf _ _ _ _)))) (@zg _ _ _ _ _ _ _ _ (@zD _) (@zf _ _ _ _) (@pvx _ 1 _ _ rfl))) (by rfl) (by trivial)) (by exact (@zd _ _ _ _ _ (@zm _ _ (9) _ _ _ _ zZ.nd rfl (Or.inl rfl) (@zg _ _ _ _ _ _ _ _ (@zC _) (@pvx _ 9 _ _ rfl) (@zu _ _ _ _ _ _ _ (@zbZ _) (@pvx _ 4 _ _ rfl) (@zg _ _ _ _ _ _ _ _ (@zC _) (@zg _ _ _ _ _ _ _ _ (@zJ _) (@zg _ _ _ _ _ _ _ _ (@zD _) (@zf _ _ _ _) (@pvx _ 8 _ _ rfl)) (@pvx _ 1 _ _ rfl)) (@zf _ _ _ _)) (fun _ _=>rfl))) (by rfl) (by trivial)) (by exact (@zd _ _ _ _ _ (@zm _ _ (9) _ _ _ _ zZ.nd rfl (Or.inl rfl) (@zg _ _ _ _ _ _ _ _ (@zC _) (@zg _ _ _ _ _ _ _ _ (@zD _) (@zg _ _ _ _ _ _ _ _ (@zD _) (@pvx _ 9 _ _ rfl) (@pvx _ 9 _ _ rfl)) (@pvx _ 9 _ _ rfl)) (@zu _ _ _ _ _ _ _ (@zbZ _) (@pvx _ 4 _ _ rfl) (@zg _ _ _ _ _ _ _ _ (@zC _) (@zg _ _ _ _ _ _ _ _ (@zJ _) (@pvx _ 8 _ _ rfl) (@zf _ _ _ _)) (@zf _ _ _ _)) (fun _ _=>rfl))) (by rfl) (by trivial)) (by exact (@zd _ _ _ _ _ (@zaG _ _ _ _ _ _ _ _ (@zz _ _ _ _ _ _ _ _ (@zfr _) (@pvx _ 6 _ _ rfl) (@zf _ _ _ _) (zF _)) (@zj _ _ _ (@zm _ _ (9) _ _ _ _ zZ.nd rfl (Or.inl rfl) (@pvx _ 6 _ _ rfl) (by rfl) (by trivial))) (@zY _)) (by exact (@zd _ _ _ _ _ (@zaS _ _ _ _ (@zbF _ _ _ _ _ _ _ _ _ _ _ _ PySem.F.plainAttrs_list PySem.F.slot_list_append PySem.F.type_list_append (@za1 _) (@pvx _ 7 _ _ rfl) (@za _ _ _ _ _ (@zg _ _ _ _ _ _ _ _ (@zC _) (@pvx _ 9 _ _ rfl) (@pvx _ 3 _ _ rfl)) (@ze _) (by rfl)) (by rfl) (by rfl) (by rfl) (by rfl) (by rfl)) (by rfl)) (by exact (@zj _ _ _ (@zm _ _ (6) _ _ _ _ zZ.nd rfl (Or.inl rfl) (@zg _ _ _ _ _ _ _ _ (@zaA _) (@pvx _ 6 _ _ rfl) (@pvx _ 3 _ _ rfl)) (by rfl) (by trivial))))))))))))))) (by intro _; rfl)) (by exact (@zj _ _ _ (@zB _ _ _ _ (@pvx _ 7 _ _ rfl))))))))))))))),?_⟩
  refine⟨by show 8≤sizeLine; rw [sizeLine_eq]; decide,fun tp ht=>?_⟩
  have s1:zy H (upd H tp (.tup zjY)):=zb ht
  refine⟨_,rfl,_,rfl,a,ns,k,rfl,s1.seq hS,hlen,k0,k1,fun c=>?_⟩
  refine⟨_,rfl,_,_,rfl,rfl,⟨by decide,by decide,by decide⟩,_,_,rfl,rfl,_,rfl,?_⟩
  refine zap (fun _=>⟨_,rfl,?_⟩) (fun _=>?_)
  all_goals
   refine⟨Nat.zero_le _,fun l hl=>?_⟩
   have hln:H l=none:=zy.free s1 hl
   have htl:tp≠l:=zp zc hl
   refine⟨_,rfl,many,rfl,by omega,by omega,zam (lo:=0) (n:=many.toNat) (fun i σ H'=>∃ (r:Int) (v8 v9:Option V) (ds:List Int),σ = [some (.ref a),some (.int k),some (.int many),some (.int bs),some (.ref tp),some (.int c),some (.int r),some (.ref l),v8,v9]∧ze0 i bs ds∧zy H H'∧H' tp=some (.tup zjY)∧H' l=some (.lst (ds.map V.int)))
    ⟨_,none,none,[],rfl,⟨rfl,by simp⟩,zS s1 hln,by rw [zl htl]; exact zc,zc⟩ ?_ ?_⟩
   ·rintro i σ H2 hi ⟨r,v8,v9,ds,rfl,hd,s2,htp,hrow⟩
    obtain⟨q1,e1,q1p,q1l⟩:=zdJ (0+(i:Int))
    obtain⟨q2,e2,q2p,q2l⟩:=zdJ (3*(0+(i:Int))+k)
    obtain⟨q3,e3,q3p,q3l⟩:=zdJ (0+(i:Int)+5)
    have c1:=Int.emod_nonneg c (show q1≠0 by omega)
    have c2:=Int.emod_lt_of_pos c q1p
    have hi':(i:Int) < 1000:=by omega
    refine⟨_,rfl,_,rfl,_,rfl,_,_,rfl,rfl,(by show (0:Int) < 8; decide),tp,_,_,_,rfl,rfl,SqT.of htp,e1,_,_,rfl,rfl,q1p,_,rfl,_,_,rfl,rfl,.inl ⟨by decide,by decide⟩,_,rfl,_,_,rfl,rfl,.inl ⟨by omega,by omega⟩,_,_,rfl,rfl,_,_,rfl,rfl,.inl ⟨by omega,by omega⟩,?_⟩
    refine⟨_,rfl,_,rfl,_,_,rfl,rfl,_,_,rfl,rfl,.inl ⟨by decide,by decide⟩,_,rfl,_,_,rfl,rfl,_,_,rfl,rfl,.inl ⟨by omega,by omega⟩,_,_,rfl,rfl,_,rfl,_,_,rfl,rfl,.inl ⟨by decide,by decide⟩,_,_,rfl,rfl,?_⟩
    refine⟨_,rfl,_,rfl,_,rfl,_,_,rfl,rfl,.inl ⟨by decide,by decide⟩,_,rfl,_,_,rfl,rfl,_,_,rfl,rfl,(by show (0:Int) < 8; decide),tp,_,_,_,rfl,rfl,SqT.of htp,e2,_,_,rfl,rfl,q2p,?_⟩
    generalize c % q1*(48271+2*(0+(i:Int))*(0+(i:Int)))+7919*(0+(i:Int)+1)*(0+(i:Int)+1)+104729*k=ms
    have d1:=Int.emod_nonneg ms (show q2≠0 by omega)
    have d2:=Int.emod_lt_of_pos ms q2p
    refine⟨_,rfl,_,rfl,_,_,rfl,rfl,.inl ⟨by omega,by omega⟩,_,rfl,_,_,rfl,rfl,.inr ⟨by omega,by omega⟩,_,rfl,_,rfl,_,_,rfl,rfl,_,_,rfl,rfl,(by show (0:Int) < 8; decide),tp,_,_,_,rfl,rfl,SqT.of htp,e3,_,_,rfl,rfl,q3p,?_⟩
    refine⟨_,rfl,_,_,rfl,rfl,_,rfl,?_⟩
    have hdl:=hd.1
    refine zap (fun _=>⟨_,rfl,?_⟩) (fun _=>?_)
    all_goals
     refine⟨_,rfl,.inl ⟨rfl,_,SqL.of hrow⟩,_,rfl,_,rfl,_,_,rfl,rfl,b0,l,_,_,rfl,rfl,hrow,zaa (by rw [List.length_map]; omega),?_⟩
     refine⟨_,rfl,_,rfl,_,_,rfl,rfl,⟨b0,b1⟩,?_⟩
     refine⟨_,_,_,ds++[_],rfl,⟨by rw [List.length_append,hdl]; rfl,fun d hm=>?_⟩,zS s2 hln,by rw [zl htl]; exact htp,by rw [zc,List.map_append]; rfl⟩; rcases List.mem_append.mp hm with hm | hm
     ·exact hd.2 d hm
     ·have e:=List.mem_singleton.mp hm
      rw [e]
      exact⟨Int.emod_nonneg _ (by omega),Int.emod_lt_of_pos _ b0⟩
   ·rintro σ H2 ⟨r,v8,v9,ds,rfl,hd,s2,htp,hrow⟩
    exact⟨_,rfl,q l ds H2 hln s2 hd hrow⟩
theorem zgL:FnScope ["found"] ["found"] (zh zcl):=⟨rfl,rfl,rfl,by decide +kernel,rfl,by decide +kernel,by decide +kernel⟩
theorem zdU {fd:FuncData} (T:Txt K mg t) (F:Fun K "_law_whole" "_law_whole" zcl t.l_whole fd):FnOk P w K mg base CX0 1 t.l_whole fd ["found"] (zgr K):=by
 refine F.ok zgL (fun vs H Q E h=>?_) (fun cdv A outer s H vs Q E hr h=>?_)
 ·obtain⟨i,rfl,_⟩:=h
  rfl
 ·obtain⟨i,rfl,q⟩:=h
  refine⟨_,(@zj _ _ _ (@zB _ _ _ _ (@zga _ _ _ _ _ _ _ (@zn _ _ _ _ _ _ _ _ _ (@zbc _) (by rfl) T.isinstance_ boot_isinstance (@za _ _ _ _ _ (@pvx _ 0 _ _ rfl) (@za _ _ _ _ _ (@zca _ _ (.ty "int") _ _ rfl T.int_ boot_int rfl (by decide) (by decide)) (@ze _) (by rfl)) (by rfl)) (by decide) (by decide) (by rfl) (by rfl)) (@zf9 _ _ _ _ _ (@zkV _ _ _ _ (@zn _ _ _ _ _ _ _ _ _ (@zbc _) (by rfl) T.isinstance_ boot_isinstance (@za _ _ _ _ _ (@pvx _ 0 _ _ rfl) (@za _ _ _ _ _ (@zca _ _ (.ty "bool") _ _ rfl T.bool_ boot_bool rfl (by decide) (by decide)) (@ze _) (by rfl)) (by rfl)) (by decide) (by decide) (by rfl) (by rfl))))))),?_⟩
  refine⟨_,rfl,_,_,_,_,rfl,.int i,rfl,_,rfl,zhC ?_⟩
  exact⟨_,rfl,_,_,_,_,rfl,.int i,rfl,_,rfl,q⟩
theorem za5:FnScope ["script","at","most_k","most_n","plan","primes","p","k","many","left"] ["script","at","most_k","most_n"] (zh zb6):=⟨rfl,rfl,rfl,by decide +kernel,rfl,by decide +kernel,by decide +kernel⟩
theorem zh4 {fd:FuncData} (T:Txt K mg t) (F:Fun K "_law_code" "_law_code" zb6 t.l_code fd):FnOk P w K mg base CX0 3 t.l_code fd ["script","at","most_k","most_n"] (zhJ K):=by
 obtain⟨fd_l_draws,F_l_draws,b_l_draws⟩:=T.f_l_draws
 have G_l_draws:=zcz (P:=P) (w:=w) (base:=base) T F_l_draws
 refine F.ok za5 (fun vs H Q E h=>?_) (fun cdv A outer s H vs Q E hr h=>?_)
 ·obtain⟨a,ns,at',mk,mn,rfl,_⟩:=h
  rfl
 ·obtain⟨a,ns,at',mk,mn,rfl,hS,hlen,a0,a1,k1,k5,kn,n16,q⟩:=h
  refine⟨_,(@zd _ _ _ _ _ (@zm _ _ (4) _ _ _ _ za5.nd rfl (Or.inr rfl) (@zt _ _ _ _ _ _ _ _ _ _ _ _ _ _ _ _ G_l_draws (hr.mono (by decide)) rfl T.m_l_draws F_l_draws.kp b_l_draws .nil (@zW _) (@za _ _ _ _ _ (@pvx _ 0 _ _ rfl) (by exact (@za _ _ _ _ _ (@pvx _ 1 _ _ rfl) (@za _ _ _ _ _ (@zf _ _ _ _) (@za _ _ _ _ _ (@zf _ _ _ _) (@ze _) (by rfl)) (by rfl)) (by rfl))) (by rfl)) (by decide) (by rfl) (by rfl)) (by rfl) (by trivial)) (by exact (by exact (@ziI _ 5 _ _ _ _ _ _ _ [5,7,11,13,17,19,23,29,31,37,41,43,47,53,59,61,67,71,73,79,83,89,97] (by decide +kernel) za5.nd rfl (Or.inl rfl) (by first | exact .inl rfl | exact .inr rfl) (by exact (@zd _ _ _ _ _ (@zm _ _ (6) _ _ _ _ za5.nd rfl (Or.inl rfl) (@zu _ _ _ _ _ _ _ (@zq _) (@zN _ _ _ _ (@za _ _ _ _ _ (@zu _ _ _ _ _ _ _ (@zq _) (@pvx _ 5 _ _ rfl) (@zg _ _ _ _ _ _ _ _ (@zC _) (@zu _ _ _ _ _ _ _ (@zq _) (@pvx _ 4 _ _ rfl) (@zf _ _ _ _) (fun _ _=>rfl)) (@zf _ _ _ _)) (fun _ _=>rfl)) (@za _ _ _ _ _ (@zu _ _ _ _ _ _ _ (@zq _) (@pvx _ 5 _ _ rfl) (@zg _ _ _ _ _ _ _ _ (@zC _) (@zu _ _ _ _ _ _ _ (@zq _) (@pvx _ 4 _ _ rfl) (@zf _ _ _ _) (fun _ _=>rfl)) (@zf _ _ _ _)) (fun _ _=>rfl)) (@ze _) (by rfl)) (by rfl))) (@zg _ _ _ _ _ _ _ _ (@zC _) (@zu _ _ _ _ _ _ _ (@zq _) (@pvx _ 4 _ _ rfl) (@zf _ _ _ _) (fun _ _=>rfl)) (@zf _ _ _ _)) (fun _ _=>rfl)) (by rfl) (by trivial)) (by exact (@zd _ _ _ _ _ (@zm _ _ (7) _ _ _ _ za5.nd rfl (Or.inl rfl) (@zg _ _ _ _ _ _ _ _ (@zJ _) (@zf _ _ _ _) (@zg _ _ _ _ _ _ _ _ (@zC _) (@zu _ _ _ _ _ _ _ (@zq _) (@pvx _ 4 _ _ rfl) (@zf _ _ _ _) (fun _ _=>rfl)) (@zn _ _ _ _ _ _ _ _ _ (@zen _ rfl) (by rfl) T.min_ boot_min (@za _ _ _ _ _ (@pvx _ 2 _ _ rfl) (@za _ _ _ _ _ (@pvx _ 6 _ _ rfl) (@ze _) (by rfl)) (by rfl)) (by decide) (by decide) (by rfl) (by rfl)))) (by rfl) (by trivial)) (by exact (@zd _ _ _ _ _ (@zm _ _ (8) _ _ _ _ za5.nd rfl (Or.inl rfl) (@zg _ _ _ _ _ _ _ _ (@zJ _) (@pvx _ 7 _ _ rfl) (@zg _ _ _ _ _ _ _ _ (@zC _) (@zu _ _ _ _ _ _ _ (@zq _) (@pvx _ 4 _ _ rfl) (@zf _ _ _ _) (fun _ _=>rfl)) (@zg _ _ _ _ _ _ _ _ (@zJ _) (@zg _ _ _ _ _ _ _ _ (@zV _) (@zn _ _ _ _ _ _ _ _ _ (@zen _ rfl) (by rfl) T.min_ boot_min (@za _ _ _ _ _ (@pvx _ 3 _ _ rfl) (@za _ _ _ _ _ (@pvx _ 6 _ _ rfl) (@ze _) (by rfl)) (by rfl)) (by decide) (by decide) (by rfl) (by rfl)) (@pvx _ 7 _ _ rfl)) (@zf _ _ _ _)))) (by rfl) (by trivial)) (by exact (@zd _ _ _ _ _ (@zm _ _ (9) _ _ _ _ za5.nd rfl (Or.inr rfl) (@zaP _ _ _ _ _ _ _ _ _ (@zd8 _ rfl) (by rfl) T.list_ boot_list (@za _ _ _ _ _ (@zaP _ _ _ _ _ _ _ _ _ (@zfB _) (by rfl) T.range_ boot_range (@za _ _ _ _ _ (@pvx _ 6 _ _ rfl) (@ze _) (by rfl)) (by decide) (by decide) (by rfl) (by rfl)) (@ze _) (by rfl)) (by decide) (by decide) (by rfl) (by rfl)) (by rfl) (by trivial)) (by exact (@zj _ _ _ (@zB _ _ _ _ (@zbg _ _ _ _ _ (@za _ _ _ _ _ (@pvx _ 6 _ _ rfl) (@za _ _ _ _ _ (@pvx _ 7 _ _ rfl) (@za _ _ _ _ _ (@zaP _ _ _ _ _ _ _ _ _ (@za8 _) (by rfl) T.tuple_ boot_tuple (@za _ _ _ _ _ (@zG _ _ _ _ _ _ _ _ _ _ _ _ _ (CompSc.of (N':=["j","left","plan"]) (ix:=[none,some 9,some 4]) (zh zb6) ["script","at","most_k","most_n","plan","primes","p","k","many","left"] rfl rfl (by decide +kernel)) rfl (@z0 _ _ rfl) (@zI _ _ _ _ _ _ rfl T.range_ (@za _ _ _ _ _ (@pvx _ 8 _ _ rfl) (@ze _) (by rfl)) (by rfl)) (fun _ _ _ _=>(@zi _ _ (0) _ (show (["j","left","plan"]:List Str).Nodup by decide +kernel) rfl (Or.inl rfl) (by trivial))) (fun _ _ _ _=>(@zw _)) (fun _ _ _ _=>(@zle _ (K) _ _ _ _ _ _ _ _ _ _ _ rfl PySem.F.plainAttrs_list PySem.F.slot_list_pop PySem.F.type_list_pop (@ziy _) (@pvx _ 1 _ _ rfl) (@za _ _ _ _ _ (@zg _ _ _ _ _ _ _ _ (@zC _) (@zu _ _ _ _ _ _ _ (@zaq _ (K) rfl) (@pvx _ 2 _ _ rfl) (@zg _ _ _ _ _ _ _ _ (@zJ _) (@zf _ _ _ _) (@pvx _ 0 _ _ rfl)) (fun _ _=>rfl)) (@zn _ _ _ _ _ _ _ _ _ (@zbA _ (K) rfl) (by rfl) T.len_ boot_len (@za _ _ _ _ _ (@pvx _ 1 _ _ rfl) (@ze _) (by rfl)) (by decide) (by decide) (by rfl) (by rfl))) (@ze _) (by rfl)) (by rfl) (by rfl) (by rfl) (by rfl) (by rfl))) (by intro _; rfl)) (@ze _) (by rfl)) (by decide) (by decide) (by rfl) (by rfl)) (@ze _) (by rfl)) (by rfl)) (by rfl)))))))))))))))))),?_⟩
  refine⟨_,rfl,_,rfl,a,ns,at',20,27720,rfl,hS,hlen,a0,a1,by decide,by decide,by decide,by decide,fun l ds H1 hl s1 hd hpl=>?_⟩
  have hdl:ds.length=20:=hd.1
  have dat:∀ m:Int,0≤m→m < 20→∃ c:Int,atI (ds.map V.int) m=some (.int c):=fun m h0 h1=>zdu h0 (by omega)
  refine⟨by show 23≤sizeLine; rw [sizeLine_eq]; decide,fun pr hpr=>?_⟩
  have hlpr:l≠pr:=zp hpl hpr
  obtain⟨d0,ed0⟩:=dat 0 (by decide) (by decide)
  obtain⟨d1,ed1⟩:=dat 1 (by decide) (by decide)
  obtain⟨d2,ed2⟩:=dat 2 (by decide) (by decide)
  obtain⟨d3,ed3⟩:=dat 3 (by decide) (by decide)
  have hp2:(upd H1 pr (.lst (zH.map V.int))) l=some (.lst (ds.map V.int)):=by rw [zl hlpr]; exact hpl
  obtain⟨p1,mp1,ep1⟩:=ziM (ns:=zH) (k:=d0 % 23) (Int.emod_nonneg _ (by decide)) (Int.emod_lt_of_pos _ (by decide))
  obtain⟨p2,mp2,ep2⟩:=ziM (ns:=zH) (k:=d0 % 3) (Int.emod_nonneg _ (by decide)) (by have:=Int.emod_lt_of_pos d0 (show (0:Int) < 3 by decide); have e:(zH.length:Int)=23:=rfl; omega)
  obtain⟨p,ep,hpp⟩:=zlf (x:=p1) (y:=p2) (m:=d1 % 2) (Int.emod_nonneg _ (by decide)) (Int.emod_lt_of_pos _ (by decide))
  have mp:p∈zH:=by rcases hpp with e | e <;> rw [e] <;> assumption
  have rp:=zU mp
  refine⟨_,rfl,_,rfl,l,_,_,_,rfl,rfl,SqL.of hp2,ed0,_,_,rfl,rfl,(by show (0:Int) < 23; decide),pr,_,_,_,rfl,rfl,SqL.of zc,ep1,
   _,rfl,_,rfl,l,_,_,_,rfl,rfl,SqL.of hp2,ed0,_,_,rfl,rfl,(by show (0:Int) < 3; decide),pr,_,_,_,rfl,rfl,SqL.of zc,ep2,zaQ,fun l2 hl2=>?_⟩
  have hll2:l≠l2:=zp hp2 hl2
  have hp3:(upd (upd H1 pr (.lst (zH.map V.int))) l2 (.lst [.int p1,.int p2])) l=some (.lst (ds.map V.int)):=by rw [zl hll2]; exact hp2
  refine⟨_,rfl,l,_,_,_,rfl,rfl,SqL.of hp3,ed1,_,_,rfl,rfl,(by show (0:Int) < 2; decide),l2,_,_,_,rfl,rfl,SqL.of zc,ep,?_⟩
  have hm1:(0:Int) < (if p < mk then p else mk):=by split <;> omega
  have hm2:(if p < mk then p else mk)≤mk:=by split <;> omega
  have hm3:(if p < mk then p else mk)≤p:=by split <;> omega
  refine⟨_,rfl,l,_,_,_,rfl,rfl,SqL.of hp3,ed2,_,rfl,_,rfl,_,_,rfl,_,_,rfl,rfl,hm1,_,_,rfl,rfl,?_⟩
  generalize (if p < mk then p else mk)=mm at hm1 hm2 hm3 ⊢
  have hk0:=Int.emod_nonneg d2 (show mm≠0 by omega)
  have hk1:=Int.emod_lt_of_pos d2 hm1
  have hn1:(if p < mn then p else mn)≤mn:=by split <;> omega
  have hn2:(if p < mn then p else mn)≤p:=by split <;> omega
  have hn3:mm≤(if p < mn then p else mn):=by split <;> omega
  refine⟨_,rfl,_,rfl,l,_,_,_,rfl,rfl,SqL.of hp3,ed3,_,rfl,_,rfl,_,_,rfl,_,rfl,_,_,rfl,rfl,_,_,rfl,rfl,_,_,rfl,rfl,(by omega),_,_,rfl,rfl,?_⟩
  generalize (if p < mn then p else mn)=nn at hn1 hn2 hn3 ⊢
  have hq0:=Int.emod_nonneg d3 (show nn - (1+d2 % mm)+1≠0 by omega)
  have hq1:=Int.emod_lt_of_pos d3 (show 0 < nn - (1+d2 % mm)+1 by omega)
  refine⟨_,rfl,p,rfl,fun r hr2=>⟨r,p,rfl,zc,by omega,by omega,fun lf hlf=>?_⟩⟩
  have hlr:l≠r:=zp hp3 hr2
  have hlf1:l≠lf:=by
   refine zp (H:=upd (upd (upd H1 pr (.lst (zH.map V.int))) l2 (.lst [.int p1,.int p2])) r (.rng 0 p)) (o:=.lst (ds.map V.int)) ?_ hlf
   rw [zl hlr]; exact hp3
  have sA:zy H (upd (upd H1 pr (.lst (zH.map V.int))) l2 (.lst [.int p1,.int p2])):=(s1.trans (zb hpr)).trans (zb hl2)
  have sB:=(sA.trans (zb (o:=.rng 0 p) hr2)).trans (zb (o:=.lst ((zbz 0 p.toNat).map V.int)) hlf)
  have hlfH:H lf=none:=(sA.trans (zb (o:=.rng 0 p) hr2)).free hlf
  obtain⟨nd0,rg0⟩:=zhK p
  refine⟨_,rfl,_,rfl,_,rfl,_,rfl,by omega,by omega,zM (n:=(1+d2 % mm+d3 % (nn - (1+d2 % mm)+1)).toNat) (fun i ys H'=>∃ xs ls:List Int,ys=xs.map V.int∧xs.length=i∧zy H H'∧H' l=some (.lst (ds.map V.int))∧H' lf=some (.lst (ls.map V.int))∧ls.length+i=p.toNat∧(xs++ls).Nodup∧∀ y∈xs++ls,0≤y∧y < p)
   ⟨[],zbz 0 p.toNat,rfl,rfl,sB,by rw [zl hlf1,zl hlr]; exact hp3,zc,by rw [zcq]; rfl,by simpa using nd0,by simpa using rg0⟩ (fun i ys H' hi _=>hi) (fun ys H' _=>Nat.le_refl _) ?_ ?_⟩
  ·rintro i x ys H4 H5 hi ⟨xs,ls,rfl,hxl,s4,hpl4,hlf4,hll,nd,rg⟩ ⟨rfl,rfl⟩
   refine gY ?_
   obtain⟨c,ec⟩:=dat (4+(0+(i:Int))) (by omega) (by omega)
   have lpos:0 < ls.length:=by omega
   have lm:((ls.map V.int).length:Int)=(ls.length:Int):=by rw [List.length_map]
   have c0:=Int.emod_nonneg c (show (ls.length:Int)≠0 by omega)
   have c1:=Int.emod_lt_of_pos c (show (0:Int) < ls.length by omega)
   have hsl:=sizeLine_eq
   obtain⟨y,ey⟩:∃ y,ls[(c % (ls.length:Int)).toNat]? = some y:=⟨ls[(c % (ls.length:Int)).toNat]'(by omega),by simp⟩
   refine⟨_,rfl,.inl ⟨rfl,_,SqL.of hlf4⟩,_,rfl,_,rfl,_,_,rfl,rfl,l,_,_,_,rfl,rfl,SqL.of hpl4,ec,_,rfl,lf,_,rfl,.inl (SqL.of hlf4),_,_,rfl,rfl,(by rw [lm]; omega),lf,_,_,(c % (ls.length:Int)).toNat,.int y,rfl,rfl,hlf4,?_⟩
   rw [lm]
   refine⟨by omega,by omega,by rw [List.length_map]; exact seqIndex_of c0 c1,by rw [List.getElem?_map,ey]; rfl,zaa (by rw [List.length_map]; omega),xs++[y],ls.eraseIdx (c % (ls.length:Int)).toNat,by rw [List.map_append]; rfl,by rw [List.length_append,hxl]; rfl,zS s4 hlfH,by rw [zl hlf1]; exact hpl4,by rw [zc,zez],?_,zj0 ey nd rg⟩
   rw [List.length_eraseIdx]
   split <;> omega
  ·rintro ys H4 D ⟨xs,ls,rfl,hxl,s4,hpl4,hlf4,hll,nd,rg⟩ hD
   refine⟨D,_,rfl,.inl ⟨SqL.of zc,fun tt htt=>⟨by show 3≤sizeLine; rw [sizeLine_eq]; decide,fun c hc=>?_⟩⟩⟩
   have s5:=(s4.trans (zb (o:=.lst (xs.map V.int)) hD)).trans (zb (o:=.tup (xs.map V.int)) htt)
   refine q c tt p _ xs _ (s5.free hc) (s5.trans (zb hc)) ⟨mp,by omega,by omega,by omega,by omega,(List.nodup_append.mp nd).1,fun y hy=>rg y (List.mem_append_left _ hy)⟩ zc ?_
   rw [zl (zp zc hc)]
   exact zc
theorem za6:FnScope ["p","polynomial","x","total","power","number"] ["p","polynomial","x"] (zh zcm):=⟨rfl,rfl,rfl,by decide +kernel,rfl,by decide +kernel,by decide +kernel⟩
theorem zgM {fd:FuncData} (T:Txt K mg t) (F:Fun K "_law_value" "_law_value" zcm t.l_value fd):FnOk P w K mg base CX0 1 t.l_value fd ["p","polynomial","x"] (zgq K):=by
 refine F.ok za6 (fun vs H Q E h=>?_) (fun cdv A outer s H vs Q E hr h=>?_)
 ·obtain⟨p,x,a,cs,rfl,_⟩:=h
  rfl
 ·obtain⟨p,x,a,cs,rfl,hS,p0,p1,x0,x1,q⟩:=h
  refine⟨_,(@zd _ _ _ _ _ (@zm _ _ (3) _ _ _ _ za6.nd rfl (Or.inl rfl) (@zf _ _ _ _) (by rfl) (by trivial)) (by exact (@zd _ _ _ _ _ (@zm _ _ (4) _ _ _ _ za6.nd rfl (Or.inl rfl) (@zf _ _ _ _) (by rfl) (by trivial)) (by exact (@zd _ _ _ _ _ (@zai _ _ _ _ _ _ _ _ PassesOwn.never rfl (@zld _ _ _ _ (@pvx _ 1 _ _ rfl)) (@zi _ _ (5) _ za6.nd rfl (Or.inl rfl) (by trivial)) (@zd _ _ _ _ _ (@zm _ _ (3) _ _ _ _ za6.nd rfl (Or.inl rfl) (@zg _ _ _ _ _ _ _ _ (@zC _) (@zg _ _ _ _ _ _ _ _ (@zJ _) (@pvx _ 3 _ _ rfl) (@zg _ _ _ _ _ _ _ _ (@zD _) (@pvx _ 5 _ _ rfl) (@pvx _ 4 _ _ rfl))) (@pvx _ 0 _ _ rfl)) (by rfl) (by trivial)) (by exact (@zj _ _ _ (@zm _ _ (4) _ _ _ _ za6.nd rfl (Or.inl rfl) (@zg _ _ _ _ _ _ _ _ (@zC _) (@zg _ _ _ _ _ _ _ _ (@zD _) (@pvx _ 4 _ _ rfl) (@pvx _ 2 _ _ rfl)) (@pvx _ 0 _ _ rfl)) (by rfl) (by trivial))))) (by intro _; rfl)) (by exact (@zj _ _ _ (@zB _ _ _ _ (@pvx _ 3 _ _ rfl))))))))),?_⟩
  refine⟨_,rfl,a,rfl,?_⟩
  rcases hS with hS | hS
  ·refine .inl ⟨⟨_,hS⟩,zba (K:=K) (a:=a) (xs:=cs.map V.int) (fun i σ H'=>H'=H∧∃ (total power:Int) (nb:Option V),σ = [some (.int p),some (.ref a),some (.int x),some (.int total),some (.int power),nb]∧0≤power∧power≤97∧lv p x total power (cs.drop i)=lv p x 0 1 cs)
    ⟨rfl,0,1,none,rfl,by decide,by decide,rfl⟩ (fun i σ H' _ ⟨e,_⟩=>by rw [e]; exact hS) ?_ ?_⟩
   ·rintro i y σ H1 hy ⟨rfl,total,power,nb,rfl,w0,w1,hl⟩
    obtain⟨c,rfl,hc⟩:=zal hy
    have m0:=Int.emod_nonneg (power*x) (show p≠0 by omega)
    have m1:=Int.emod_lt_of_pos (power*x) p0
    refine⟨_,rfl,_,rfl,_,rfl,_,_,rfl,rfl,.inr ⟨by omega,by omega⟩,_,_,rfl,rfl,_,rfl,_,_,rfl,rfl,p0,?_⟩
    refine⟨_,rfl,_,rfl,_,_,rfl,rfl,.inl ⟨by omega,by omega⟩,_,rfl,_,_,rfl,rfl,p0,?_⟩
    exact⟨rfl,_,_,_,rfl,m0,by omega,(zhb hc).symm.trans hl⟩
   ·rintro σ H1 ⟨rfl,total,power,nb,rfl,w0,w1,hl⟩
    rw [List.length_map,List.drop_length] at hl
    have hl:total=lv p x 0 1 cs:=hl
    rw [zha p0] at hl
    rw [← hl] at q
    exact⟨_,rfl,q⟩
  ·refine .inr ⟨⟨_,hS⟩,zjL (K:=K) (a:=a) (xs:=cs.map V.int) (fun i σ H'=>H'=H∧∃ (total power:Int) (nb:Option V),σ = [some (.int p),some (.ref a),some (.int x),some (.int total),some (.int power),nb]∧0≤power∧power≤97∧lv p x total power (cs.drop i)=lv p x 0 1 cs)
    ⟨rfl,0,1,none,rfl,by decide,by decide,rfl⟩ (fun i σ H' _ ⟨e,_⟩=>by rw [e]; exact hS) ?_ ?_⟩
   ·rintro i y σ H1 hy ⟨rfl,total,power,nb,rfl,w0,w1,hl⟩
    obtain⟨c,rfl,hc⟩:=zal hy
    have m0:=Int.emod_nonneg (power*x) (show p≠0 by omega)
    have m1:=Int.emod_lt_of_pos (power*x) p0
    refine⟨_,rfl,_,rfl,_,rfl,_,_,rfl,rfl,.inr ⟨by omega,by omega⟩,_,_,rfl,rfl,_,rfl,_,_,rfl,rfl,p0,?_⟩
    refine⟨_,rfl,_,rfl,_,_,rfl,rfl,.inl ⟨by omega,by omega⟩,_,rfl,_,_,rfl,rfl,p0,?_⟩
    exact⟨rfl,_,_,_,rfl,m0,by omega,(zhb hc).symm.trans hl⟩
   ·rintro σ H1 ⟨rfl,total,power,nb,rfl,w0,w1,hl⟩
    rw [List.length_map,List.drop_length] at hl
    have hl:total=lv p x 0 1 cs:=hl
    rw [zha p0] at hl
    rw [← hl] at q
    exact⟨_,rfl,q⟩
def zh5 (K:PySem.W.Frag):Sp:=fun vs H Q _=>∃ (a:Addr) (ds:List Int) (p k:Int),vs = [.ref a,.int p,.int k]∧SqL K H a (ds.map V.int)∧ds.length≤1000∧0 < p ∧
 ∀ (l:Addr) (poly:List Int) (H':Hp),H l=none→zy H H'→(poly.length≤ds.length∧∀ x∈poly,0≤x∧x < p)→H' l=some (.tup (poly.map V.int))→Q (.ref l) H'
theorem zdl:FnScope ["draws","p","k"] ["draws","p","k"] (zh zaw):=⟨rfl,rfl,rfl,by decide +kernel,rfl,by decide +kernel,by decide +kernel⟩
theorem zdm {fd:FuncData} (T:Txt K mg t) (F:Fun K "_law_polynomial" "_law_polynomial" zaw t.l_polynomial fd):FnOk P w K mg base CX0 1 t.l_polynomial fd ["draws","p","k"] (zh5 K):=by
 refine F.ok zdl (fun vs H Q E h=>?_) (fun cdv A outer s H vs Q E hr h=>?_)
 ·obtain⟨a,ds,p,k,rfl,_⟩:=h
  rfl
 ·obtain⟨a,ds,p,k,rfl,ha,hn,p0,q⟩:=h
  refine⟨_,(@zj _ _ _ (@zB _ _ _ _ (@zaP _ _ _ _ _ _ _ _ _ (@za8 _) (by rfl) T.tuple_ boot_tuple (@za _ _ _ _ _ (@zG _ _ _ _ _ _ _ _ _ _ _ _ _ (CompSc.of (N':=["draw","p"]) (ix:=[none,some 1]) (zh zaw) ["draws","p","k"] rfl rfl (by decide +kernel)) rfl (@z0 _ _ rfl) (@z8 _ _ _ _ (@zbp _ _ _ _ _ _ _ _ _ _ zbQ (@pvx _ 0 _ _ rfl) (@zcb _) (@zbt _ _ _ (@pvx _ 2 _ _ rfl)))) (fun _ _ _ _=>(@zi _ _ (0) _ (show (["draw","p"]:List Str).Nodup by decide +kernel) rfl (Or.inl rfl) (by trivial))) (fun _ _ _ _=>(@zw _)) (fun _ _ _ _=>(@zg _ _ _ _ _ _ _ _ (@zC _) (@pvx _ 0 _ _ rfl) (@pvx _ 1 _ _ rfl))) (by intro _; rfl)) (@ze _) (by rfl)) (by decide) (by decide) (by rfl) (by rfl)))),?_⟩
  obtain⟨ms,ems,lms⟩:=zfF ds none (some k)
  refine⟨_,rfl,_,rfl,_,rfl,a,_,rfl,ha,fun z hz=>?_⟩
  rw [ems]
  have s4:=zb (o:=.lst (ms.map V.int)) hz
  refine⟨z,rfl,⟨_,SqL.of zc⟩,za2 (K:=K) (xs:=ms.map V.int) (fs:=ms.map fun d=>V.int (d % p)) (SqL.of zc) (by rw [List.length_map,List.length_map]) (by rw [List.length_map]; omega) ?_ ?_⟩
  ·intro j x y R B hx hy hR
   obtain⟨c,_,rfl,rfl⟩:=zfG hx hy
   refine gY ?_
   exact⟨_,rfl,_,rfl,_,_,rfl,rfl,p0,hR⟩
  intro D hD
  have epol:(ms.map fun d=>V.int (d % p))=(ms.map (· % p)).map V.int:=by rw [List.map_map]; rfl
  rw [epol]
  refine⟨D,_,rfl,.inl ⟨SqL.of zc,fun po hpo=>?_⟩⟩
  have s5:=s4.trans (zb (o:=.lst ((ms.map (· % p)).map V.int)) hD)
  refine q po _ _ (s5.free hpo) (s5.trans (zb hpo)) ⟨by rw [List.length_map]; exact lms,fun x hx=>?_⟩ zc
  obtain⟨d,_,rfl⟩:=List.mem_map.mp hx
  exact⟨Int.emod_nonneg _ (by omega),Int.emod_lt_of_pos _ p0⟩
def zjt (K:PySem.W.Frag):Sp:=fun vs H Q _=>∃ (a c tt:Addr) (ns:List Int) (at' p k:Int) (pl:List Int),vs = [.ref a,.int at',.ref c]∧SqL K H a (ns.map V.int)∧ns.length≤63∧0≤at'∧at'≤900∧zb4 H c tt p k pl∧0 < p∧p≤97∧(∀ x∈pl,0≤x∧x < p)∧pl.length≤16 ∧
 ∀ (l:Addr) (rw:List (Option Int)) (H':Hp),H l=none→zy H H'→rw.length=pl.length→(∀ z,some z∈rw→0≤z∧z < p)→H' l=some (.lst (rw.map enc))→Q (.ref l) H'
theorem zlB {a b m:Int} (h0:0≤m) (h1:m < 6) (a0:0≤a) (a1:a < 3) (b0:0≤b) (b1:b < 3):∃ z:Int,atI [V.int 0,.int 0,.int a,.int b,.int 0,.int 0] m=some (.int z)∧0≤z∧z < 3:=by
 have:m=0∨m=1∨m=2∨m=3∨m=4∨m=5:=by omega
 rcases this with e | e | e | e | e | e <;> subst e
 ·exact⟨0,rfl,by decide,by decide⟩
 ·exact⟨0,rfl,by decide,by decide⟩
 ·exact⟨a,rfl,a0,a1⟩
 ·exact⟨b,rfl,b0,b1⟩
 ·exact⟨0,rfl,by decide,by decide⟩
 ·exact⟨0,rfl,by decide,by decide⟩
theorem zks {m:Int} (h0:0≤m) (h1:m < 6):∃ z:Int,atI [V.int 4,.int 9,.int 9,.int 9,.int 2,.int 1] m=some (.int z)∧0 < z:=by
 have:m=0∨m=1∨m=2∨m=3∨m=4∨m=5:=by omega
 rcases this with e | e | e | e | e | e <;> subst e <;> exact⟨_,rfl,by decide⟩
theorem zkt {m:Int} (h0:0≤m) (h1:m < 2):∃ z:Int,atI [V.int 9,.int 3] m=some (.int z)∧0 < z:=by
 have:m=0∨m=1:=by omega
 rcases this with e | e <;> subst e <;> exact⟨_,rfl,by decide⟩
theorem zme (n:Nat):(List.replicate n [V.non]).flatten=(List.replicate n (none:Option Int)).map enc:=by
 induction n with
 | zero=>rfl
 | succ n ih=>rw [List.replicate_succ,List.flatten_cons,ih,List.replicate_succ]; rfl
def zfg (H:Hp) (on:Addr):Prop:=∃ os:List Addr,os.length=3∧H on=some (.lst (os.map V.ref))∧∀ o∈os,∃ ms:List Int,H o=some (.tup (ms.map V.int))
theorem zfg.same {H H':Hp} {on:Addr} (s:zy H H') (h:zfg H on):zfg H' on:=by
 obtain⟨os,h1,h2,h3⟩:=h
 exact⟨os,h1,s _ _ h2,fun o ho=>let ⟨ms,e⟩:=h3 o ho; ⟨ms,s _ _ e⟩⟩
theorem zju {p:Int} {rw:List (Option Int)} (h:∀ z,some z∈rw→0≤z∧z < p):∀ z,some z∈rw++[none]→0≤z∧z < p:=by
 intro z hz
 rcases List.mem_append.mp hz with m | m
 ·exact h z m
 ·cases List.mem_singleton.mp m
theorem zfY {p i:Int} {rw:List (Option Int)} (h:∀ z,some z∈rw→0≤z∧z < p) (hi:0≤i∧i < p):∀ z,some z∈rw++[some i]→0≤z∧z < p:=by
 intro z hz
 rcases List.mem_append.mp hz with m | m
 ·exact h z m
 ·cases List.mem_singleton.mp m
  exact hi
theorem zfZ {p x:Int} {cs:List Int} (hp:0 < p):0≤zcH p x cs∧zcH p x cs < p:=⟨zg8 hp cs,zg9 hp cs⟩
theorem zah:FnScope ["script","at","code","p","k","places","plan","ones","slips","way","row","number","which","entry"] ["script","at","code"] (zh zcO):=⟨rfl,rfl,rfl,by decide +kernel,rfl,by decide +kernel,by decide +kernel⟩
theorem zjv {fd:FuncData} (T:Txt K mg t) (F:Fun K "_law_row" "_law_row" zcO t.l_row fd):FnOk P w K mg base CX0 3 t.l_row fd ["script","at","code"] (zjt K):=by
 obtain⟨fd_l_draws,F_l_draws,b_l_draws⟩:=T.f_l_draws
 have G_l_draws:=zcz (P:=P) (w:=w) (base:=base) T F_l_draws
 obtain⟨fd_l_polynomial,F_l_polynomial,b_l_polynomial⟩:=T.f_l_polynomial
 have G_l_polynomial:=zdm (P:=P) (w:=w) (base:=base) T F_l_polynomial
 obtain⟨fd_l_value,F_l_value,b_l_value⟩:=T.f_l_value
 have G_l_value:=zgM (P:=P) (w:=w) (base:=base) T F_l_value
 refine F.ok zah (fun vs H Q E h=>?_) (fun cdv A outer s H vs Q E hr h=>?_)
 ·obtain⟨a,c,tt,ns,at',p,k,pl,rfl,_⟩:=h
  rfl
 ·obtain⟨a,c,tt,ns,at',p,k,pl,rfl,hS,hlen,a0,a1,hc,p0,p1,hpl,hn,q⟩:=h
  refine⟨_,(@zd _ _ _ _ _ (@zbo _ _ _ _ _ _ (@pvx _ 2 _ _ rfl) (@za0 _ _ _ _ _ _ rfl (@zk _ _ _ _ _ (@zi _ _ (3) _ zah.nd rfl (Or.inr rfl) (by trivial)) (@zk _ _ _ _ _ (@zi _ _ (4) _ zah.nd rfl (Or.inr rfl) (by trivial)) (@zk _ _ _ _ _ (@zi _ _ (5) _ zah.nd rfl (Or.inl rfl) (by trivial)) (@zK _) (by rfl)) (by rfl)) (by rfl)) (by rfl) (by rfl)) (by rfl) (by rfl) (by rfl)) (by exact (@zd _ _ _ _ _ (@zm _ _ (6) _ _ _ _ zah.nd rfl (Or.inr rfl) (@zt _ _ _ _ _ _ _ _ _ _ _ _ _ _ _ _ G_l_draws (hr.mono (by decide)) rfl T.m_l_draws F_l_draws.kp b_l_draws .nil (@zW _) (@za _ _ _ _ _ (@pvx _ 0 _ _ rfl) (by exact (@za _ _ _ _ _ (@pvx _ 1 _ _ rfl) (@za _ _ _ _ _ (@zf _ _ _ _) (@za _ _ _ _ _ (@zf _ _ _ _) (@ze _) (by rfl)) (by rfl)) (by rfl))) (by rfl)) (by decide) (by rfl) (by rfl)) (by rfl) (by trivial)) (by exact (@zd _ _ _ _ _ (@zaL _ _ _ _ _ _ _ _ _ _ _ _ _ (7) _ _ _ zah.nd rfl (Or.inl rfl) (CompSc.of (N':=["j","plan","p","k"]) (ix:=[none,some 6,some 3,some 4]) (zh zcO) ["script","at","code","p","k","places","plan","ones","slips","way","row","number","which","entry"] rfl rfl (by decide +kernel)) rfl (@z0 _ _ rfl) (@zI _ _ _ _ _ _ rfl T.range_ (@za _ _ _ _ _ (@zf _ _ _ _) (@ze _) (by rfl)) (by rfl)) (fun _ _ _ _=>(@zi _ _ (0) _ (show (["j","plan","p","k"]:List Str).Nodup by decide +kernel) rfl (Or.inl rfl) (by trivial))) (fun _ _ _ _=>(@zw _)) (fun _ _ _ _=>(@zt _ _ _ _ _ _ _ _ _ _ _ _ _ _ _ _ G_l_polynomial (hr.mono (by decide)) rfl T.m_l_polynomial F_l_polynomial.kp b_l_polynomial .nil (@zW _) (@za _ _ _ _ _ (@zbp _ _ _ _ _ _ _ _ _ _ (ziJ (K:=K) rfl) (@pvx _ 1 _ _ rfl) (@zbt _ _ _ (@zg _ _ _ _ _ _ _ _ (@zD _) (@zf _ _ _ _) (@pvx _ 0 _ _ rfl))) (@zcb _)) (@za _ _ _ _ _ (@pvx _ 2 _ _ rfl) (@za _ _ _ _ _ (@pvx _ 3 _ _ rfl) (@ze _) (by rfl)) (by rfl)) (by rfl)) (by decide) (by rfl) (by rfl))) (by rfl) (by intro _; rfl) (by trivial)) (by exact (@zd _ _ _ _ _ (@zm _ _ (8) _ _ _ _ zah.nd rfl (Or.inl rfl) (@zt _ _ _ _ _ _ _ _ _ _ _ _ _ _ _ _ G_l_draws (hr.mono (by decide)) rfl T.m_l_draws F_l_draws.kp b_l_draws .nil (@zW _) (@za _ _ _ _ _ (@pvx _ 0 _ _ rfl) (by exact (@za _ _ _ _ _ (@zg _ _ _ _ _ _ _ _ (@zJ _) (@pvx _ 1 _ _ rfl) (@zf _ _ _ _)) (@za _ _ _ _ _ (@zf _ _ _ _) (@za _ _ _ _ _ (@zf _ _ _ _) (@ze _) (by rfl)) (by rfl)) (by rfl))) (by rfl)) (by decide) (by rfl) (by rfl)) (by rfl) (by trivial)) (by exact (@zd _ _ _ _ _ (@zm _ _ (9) _ _ _ _ zah.nd rfl (Or.inl rfl) (@zg _ _ _ _ _ _ _ _ (@zC _) (@zu _ _ _ _ _ _ _ (@zq _) (@pvx _ 8 _ _ rfl) (@zf _ _ _ _) (fun _ _=>rfl)) (@zf _ _ _ _)) (by rfl) (by trivial)) (by exact (@zd _ _ _ _ _ (@zm _ _ (10) _ _ _ _ zah.nd rfl (Or.inl rfl) (@zN _ _ _ _ (@ze _)) (by rfl) (by trivial)) (by exact (@zd _ _ _ _ _ (@zai _ _ _ _ _ _ _ _ PassesOwn.never rfl (@zI _ _ _ _ _ _ rfl T.range_ (@za _ _ _ _ _ (@zn _ _ _ _ _ _ _ _ _ (@zx _) (by rfl) T.len_ boot_len (@za _ _ _ _ _ (@pvx _ 5 _ _ rfl) (@ze _) (by rfl)) (by decide) (by decide) (by rfl) (by rfl)) (@ze _) (by rfl)) (by rfl)) (@zi _ _ (11) _ zah.nd rfl (Or.inl rfl) (by trivial)) (@zd _ _ _ _ _ (@zm _ _ (12) _ _ _ _ zah.nd rfl (Or.inl rfl) (@zu _ _ _ _ _ _ _ (@zq _) (@zN _ _ _ _ (@zb3 _ _ _ _ _ _ (by exact (@zb3 _ _ _ _ _ _ (by exact (@za _ _ _ _ _ (@zg _ _ _ _ _ _ _ _ (@zC _) (@zu _ _ _ _ _ _ _ (@zq _) (@pvx _ 8 _ _ rfl) (@pvx _ 11 _ _ rfl) (fun _ _=>rfl)) (@zf _ _ _ _)) (by exact (@za _ _ _ _ _ (@zg _ _ _ _ _ _ _ _ (@zC _) (@zu _ _ _ _ _ _ _ (@zq _) (@pvx _ 8 _ _ rfl) (@pvx _ 11 _ _ rfl) (fun _ _=>rfl)) (@zf _ _ _ _)) (@za _ _ _ _ _ (@zf _ _ _ _) (@za _ _ _ _ _ (@zf _ _ _ _) (@ze _) (by rfl)) (by rfl)) (by rfl))) (by rfl))))))) (@pvx _ 9 _ _ rfl) (fun _ _=>rfl)) (by rfl) (by trivial)) (by exact (@zd _ _ _ _ _ (@zm _ _ (13) _ _ _ _ zah.nd rfl (Or.inl rfl) (@zt _ _ _ _ _ _ _ _ _ _ _ _ _ _ _ _ G_l_value (hr.mono (by decide)) rfl T.m_l_value F_l_value.kp b_l_value .nil (@zW _) (@za _ _ _ _ _ (@pvx _ 3 _ _ rfl) (@za _ _ _ _ _ (@zu _ _ _ _ _ _ _ (@zq _) (@pvx _ 7 _ _ rfl) (@pvx _ 12 _ _ rfl) (fun _ _=>rfl)) (@za _ _ _ _ _ (@zu _ _ _ _ _ _ _ (@zbZ _) (@pvx _ 5 _ _ rfl) (@pvx _ 11 _ _ rfl) (fun _ _=>rfl)) (@ze _) (by rfl)) (by rfl)) (by rfl)) (by decide) (by rfl) (by rfl)) (by rfl) (by trivial)) (by exact (@zd _ _ _ _ _ (@zaG _ _ _ _ _ _ _ _ (@zz _ _ _ _ _ _ _ _ (@zc4 _) (@zg _ _ _ _ _ _ _ _ (@zC _) (@zg _ _ _ _ _ _ _ _ (@zaA _) (@zu _ _ _ _ _ _ _ (@zq _) (@pvx _ 8 _ _ rfl) (@pvx _ 11 _ _ rfl) (fun _ _=>rfl)) (@zf _ _ _ _)) (@zu _ _ _ _ _ _ _ (@zq _) (@zN _ _ _ _ (@zb3 _ _ _ _ _ _ (by exact (@zb3 _ _ _ _ _ _ (by exact (@zb3 _ _ _ _ _ _ (by exact (@za _ _ _ _ _ (@zf _ _ _ _) (@za _ _ _ _ _ (@zf _ _ _ _) (@za _ _ _ _ _ (@zf _ _ _ _) (@ze _) (by rfl)) (by rfl)) (by rfl))))))))) (@pvx _ 9 _ _ rfl) (fun _ _=>rfl))) (@zf _ _ _ _) (zF _)) (@zj _ _ _ (@zm _ _ (13) _ _ _ _ zah.nd rfl (Or.inl rfl) (@zg _ _ _ _ _ _ _ _ (@zC _) (@zg _ _ _ _ _ _ _ _ (@zaA _) (@zu _ _ _ _ _ _ _ (@zq _) (@pvx _ 8 _ _ rfl) (@pvx _ 11 _ _ rfl) (fun _ _=>rfl)) (@zf _ _ _ _)) (@pvx _ 3 _ _ rfl)) (by rfl) (by trivial))) (@zY _)) (by exact (@zd _ _ _ _ _ (@zaG _ _ _ _ _ _ _ _ (@PW.pt _ _ _ (@zil _ _ _ _ _ _ _ (@zz _ _ _ _ _ _ _ _ (@zc4 _) (@zg _ _ _ _ _ _ _ _ (@zC _) (@zg _ _ _ _ _ _ _ _ (@zaA _) (@zu _ _ _ _ _ _ _ (@zq _) (@pvx _ 8 _ _ rfl) (@pvx _ 11 _ _ rfl) (fun _ _=>rfl)) (@zf _ _ _ _)) (@zu _ _ _ _ _ _ _ (@zq _) (@zN _ _ _ _ (@za _ _ _ _ _ (@zf _ _ _ _) (@za _ _ _ _ _ (@zf _ _ _ _) (@ze _) (by rfl)) (by rfl))) (@zg _ _ _ _ _ _ _ _ (@zC _) (@zu _ _ _ _ _ _ _ (@zq _) (@pvx _ 8 _ _ rfl) (@zf _ _ _ _) (fun _ _=>rfl)) (@zf _ _ _ _)) (fun _ _=>rfl))) (@zf _ _ _ _) (zF _)) (@zgV _ _ _ _ (@zz _ _ _ _ _ _ _ _ (@zfr _) (@zg _ _ _ _ _ _ _ _ (@zC _) (@zu _ _ _ _ _ _ _ (@zq _) (@pvx _ 8 _ _ rfl) (@zf _ _ _ _) (fun _ _=>rfl)) (@zf _ _ _ _)) (@zf _ _ _ _) (zF _))))) (@zj _ _ _ (@zm _ _ (13) _ _ _ _ zah.nd rfl (Or.inl rfl) (@zcU _ _ _) (by rfl) (by trivial))) (@zY _)) (by exact (@zj _ _ _ (@zaS _ _ _ _ (@zbF _ _ _ _ _ _ _ _ _ _ _ _ PySem.F.plainAttrs_list PySem.F.slot_list_append PySem.F.type_list_append (@za1 _) (@pvx _ 10 _ _ rfl) (@za _ _ _ _ _ (@pvx _ 13 _ _ rfl) (@ze _) (by rfl)) (by rfl) (by rfl) (by rfl) (by rfl) (by rfl)) (by rfl))))))))))) (by intro _; rfl)) (by exact (@zj _ _ _ (@zB _ _ _ _ (@zcB _ _ _ _ _ _ _ _ (@zz _ _ _ _ _ _ _ _ (@zc4 _) (@zg _ _ _ _ _ _ _ _ (@zC _) (@zu _ _ _ _ _ _ _ (@zq _) (@pvx _ 8 _ _ rfl) (@zf _ _ _ _) (fun _ _=>rfl)) (@zf _ _ _ _)) (@zf _ _ _ _) (zF _)) (@zg _ _ _ _ _ _ _ _ (@zgh _) (@zN _ _ _ _ (@za _ _ _ _ _ (@zcU _ _ _) (@ze _) (by rfl))) (@zn _ _ _ _ _ _ _ _ _ (@zx _) (by rfl) T.len_ boot_len (@za _ _ _ _ _ (@pvx _ 10 _ _ rfl) (@ze _) (by rfl)) (by decide) (by decide) (by rfl) (by rfl))) (@pvx _ 10 _ _ rfl)))))))))))))))))),?_⟩
  have hsl:=sizeLine_eq
  refine⟨_,rfl,c,_,rfl,SqT.of hc.1,rfl,_,_,rfl,_,_,rfl,_,_,rfl,rfl,?_⟩
  refine⟨_,rfl,_,rfl,a,ns,at',16,27720,rfl,hS,hlen,a0,by omega,by decide,by decide,by decide,by decide,fun l ds H1 hl s1 hd h1l=>?_⟩
  have hdl:ds.length=16:=hd.1
  refine⟨3,rfl,by decide,by decide,zM (n:=3) (fun i ys H'=>zy H1 H'∧∃ os:List Addr,os.length=i∧ys=os.map V.ref∧∀ o∈os,∃ ms:List Int,H' o=some (.tup (ms.map V.int))) ⟨fun _ _ e=>e,[],rfl,rfl,by simp⟩ (fun i ys H' hi _=>hi) (fun ys H' _=>Nat.le_refl _) ?_ ?_⟩
  ·rintro i xx ys H4 H5 hi ⟨s4,os,ho,rfl,hos⟩ ⟨rfl,rfl⟩
   refine gY ?_
   refine⟨_,rfl,_,rfl,_,_,rfl,rfl,.inl ⟨by decide,by decide⟩,_,rfl,l,_,rfl,SqL.of (s4 _ _ h1l),fun z hz=>?_⟩
   obtain⟨ms,ems,lms⟩:=zfF ds (some (3*(0+(i:Int)))) none
   rw [ems]
   refine⟨_,rfl,_,rfl,z,ms,p,k,rfl,SqL.of zc,by omega,p0,fun po poly H6 hpo s6 _ h6=>?_⟩
   have s5:=(zb (o:=.lst (ms.map V.int)) hz).trans s6
   refine⟨zaa (by rw [List.length_map]; omega),s4.trans s5,os++[po],by rw [List.length_append,ho]; rfl,by rw [List.map_append]; rfl,fun o hm=>?_⟩
   rcases (List.mem_append.mp hm) with hm | hm
   ·obtain⟨m2,e⟩:=hos o hm
    exact⟨m2,s5 _ _ e⟩
   ·rw [List.mem_singleton.mp hm]; exact⟨poly,h6⟩
  ·rintro ys H4 on ⟨s4,os,ho,rfl,hos⟩ hon
   have s5:=s1.trans (s4.trans (zb (o:=.lst (os.map V.ref)) hon))
   have hones:zfg (upd H4 on (.lst (os.map V.ref))) on:=⟨os,ho,zc,fun o hm=>let ⟨ms,e⟩:=hos o hm; ⟨ms,(zb hon) _ _ e⟩⟩
   generalize upd H4 on (.lst (os.map V.ref))=H5 at s5 hones ⊢
   refine⟨_,rfl,_,rfl,_,_,rfl,rfl,a,ns,at'+1,20,27720,rfl,s5.seq hS,hlen,by omega,by omega,by decide,by decide,by decide,by decide,fun sl es H6 hsl6 s6 he h6s=>?_⟩
   have hel:es.length=20:=he.1
   have her:=he.2
   have eat:∀ m:Int,0≤m→m < 20→∃ c:Int,atI (es.map V.int) m=some (.int c):=fun m h0 h1=>zdu h0 (by omega)
   obtain⟨d16,e16⟩:=eat 16 (by decide) (by decide)
   obtain⟨d17,e17⟩:=eat 17 (by decide) (by decide)
   obtain⟨d18,e18⟩:=eat 18 (by decide) (by decide)
   obtain⟨d19,e19⟩:=eat 19 (by decide) (by decide)
   have w0:=Int.emod_nonneg d16 (show (6:Int)≠0 by decide)
   have w1:=Int.emod_lt_of_pos d16 (show (0:Int) < 6 by decide)
   refine⟨_,rfl,sl,_,_,_,rfl,rfl,SqL.of h6s,e16,_,_,rfl,rfl,(by show (0:Int) < 6; decide),?_⟩
   obtain⟨way,hway⟩:∃ way,d16 % 6=way:=⟨_,rfl⟩
   rw [hway] at w0 w1
   refine⟨Nat.zero_le _,fun ro hro=>?_⟩
   have hslro:sl≠ro:=zp h6s hro
   have hroH:H ro=none:=(s5.trans s6).free hro
   have hro5:H5 ro=none:=s6.free hro
   refine⟨_,rfl,tt,_,rfl,.inr (SqT.of ((((s5.trans s6).trans (zb hro))) _ _ hc.2)),_,rfl,by rw [List.length_map]; omega,by rw [List.length_map]; omega,?_⟩
   rw [List.length_map,Int.toNat_natCast]
   refine zam (lo:=0) (n:=pl.length) (fun i σ H'=>∃ (rw:List (Option Int)) (v11 v12 v13:Option V),σ = [some (.ref a),some (.int at'),some (.ref c),some (.int p),some (.int k),some (.ref tt),some (.ref l),some (.ref on),some (.ref sl),some (.int way),some (.ref ro),v11,v12,v13] ∧
    rw.length=i∧zy H5 H'∧H' ro=some (.lst (rw.map enc))∧H' sl=some (.lst (es.map V.int))∧∀ z,some z∈rw→0≤z∧z < p)
    ⟨[],none,none,none,by subst hway; rfl,rfl,s6.trans (zb hro),zc,by rw [zl hslro]; exact h6s,fun z hz=>by simp at hz⟩ ?_ ?_
   ·rintro i σ H7 hi ⟨rw,v11,v12,v13,rfl,hrl,s7,h7r,h7s,hrg⟩
    obtain⟨di,ei⟩:=eat (0+(i:Int)) (by omega) (by omega)
    obtain⟨x,hx⟩:∃ x,pl[i]? = some x:=⟨pl[i]'hi,by simp⟩
    obtain⟨x0,x1⟩:=hpl x (List.mem_of_getElem? hx)
    have hxat:atI (pl.map V.int) (0+(i:Int))=some (.int x):=by rw [Int.zero_add]; exact zL (by rw [List.getElem?_map,hx]; rfl)
    have m20:=Int.emod_nonneg di (show (2:Int)≠0 by decide)
    have m21:=Int.emod_lt_of_pos di (show (0:Int) < 2 by decide)
    have m30:=Int.emod_nonneg di (show (3:Int)≠0 by decide)
    have m31:=Int.emod_lt_of_pos di (show (0:Int) < 3 by decide)
    obtain⟨wh,ewh,wh0,wh1⟩:=zlB w0 w1 m20 (by omega) m30 m31
    refine⟨_,rfl,_,rfl,sl,_,_,_,rfl,rfl,SqL.of h7s,ei,_,_,rfl,rfl,(by show (0:Int) < 2; decide),_,rfl,_,rfl,sl,_,_,_,rfl,rfl,SqL.of h7s,ei,_,_,rfl,rfl,(by show (0:Int) < 3; decide),by show 6≤sizeLine; omega,fun l6 hl6=>?_⟩
    refine⟨_,rfl,l6,_,_,_,rfl,rfl,SqL.of zc,ewh,?_⟩
    have s8:=s7.trans (zb (o:=.lst [.int 0,.int 0,.int (di % 2),.int (di % 3),.int 0,.int 0]) hl6)
    have h8r:=(zb (o:=.lst [.int 0,.int 0,.int (di % 2),.int (di % 3),.int 0,.int 0]) hl6) _ _ h7r
    have h8s:=(zb (o:=.lst [.int 0,.int 0,.int (di % 2),.int (di % 3),.int 0,.int 0]) hl6) _ _ h7s
    obtain⟨H8,hH8⟩:∃ H8,H8=upd H7 l6 (.lst [.int 0,.int 0,.int (di % 2),.int (di % 3),.int 0,.int 0]):=⟨_,rfl⟩
    rw [← hH8] at s8 h8r h8s ⊢
    have hc8:=hc.same (s5.trans s8)
    obtain⟨os8,o1,o2,o3⟩:=hones.same s8
    obtain⟨ow,how⟩:∃ ow,os8[wh.toNat]? = some ow:=⟨os8[wh.toNat]'(by omega),by simp⟩
    obtain⟨mw,hmw⟩:=o3 ow (List.mem_of_getElem? how)
    have hoat:atI (os8.map V.ref) wh=some (.ref ow):=by
     have e:((wh.toNat:Nat):Int)=wh:=by omega
     rw [← e]
     exact zL (by rw [List.getElem?_map,how]; rfl)
    refine⟨_,rfl,_,rfl,_,rfl,on,_,_,_,rfl,rfl,SqL.of o2,hoat,_,rfl,_,rfl,tt,_,_,_,rfl,rfl,SqT.of hc8.2,hxat,p,x,ow,mw,rfl,.inr (SqT.of hmw),p0,p1,x0,x1,?_⟩
    obtain⟨z6,ez6,z60⟩:=zks w0 w1
    refine⟨_,rfl,_,rfl,sl,_,_,_,rfl,rfl,SqL.of h8s,ei,_,_,rfl,rfl,⟨by decide,by decide⟩,by show 6≤sizeLine; omega,fun l7 hl7=>?_⟩
    have u7:=zb (o:=.lst [.int 4,.int 9,.int 9,.int 9,.int 2,.int 1]) hl7
    refine⟨_,rfl,l7,_,_,_,rfl,rfl,SqL.of zc,ez6,_,_,rfl,rfl,z60,rfl,_,rfl,?_⟩
    have s9:=s8.trans u7
    have h9r:=u7 _ _ h8r
    have h9s:=u7 _ _ h8s
    generalize upd H8 l7 (.lst [.int 4,.int 9,.int 9,.int 9,.int 2,.int 1])=H9 at s9 h9r h9s ⊢
    have t0:=Int.emod_nonneg d17 (show (2:Int)≠0 by decide)
    have t1:=Int.emod_lt_of_pos d17 (show (0:Int) < 2 by decide)
    obtain⟨z2,ez2,z20⟩:=zkt t0 t1
    refine zap (fun _=>⟨_,rfl,_,rfl,sl,_,_,_,rfl,rfl,SqL.of h9s,ei,_,_,rfl,rfl,⟨by decide,by decide⟩,_,rfl,_,_,rfl,rfl,p0,?_⟩) (fun _=>?_)
    all_goals
     refine⟨_,rfl,_,rfl,sl,_,_,_,rfl,rfl,SqL.of h9s,ei,_,_,rfl,rfl,⟨by decide,by decide⟩,zaQ,fun l8 hl8=>?_⟩
     have u8:=zb (o:=.lst [.int 9,.int 3]) hl8
     have sX:=s9.trans u8
     have hXr:=u8 _ _ h9r
     have hXs:=u8 _ _ h9s
     refine⟨_,rfl,sl,_,_,_,rfl,rfl,SqL.of hXs,e17,_,_,rfl,rfl,(by show (0:Int) < 2; decide),l8,_,_,_,rfl,rfl,SqL.of zc,ez2,_,_,rfl,rfl,z20,rfl,_,rfl,?_⟩; refine zap (fun _=>?_) (fun _=>?_)
     ·refine⟨_,rfl,sl,_,_,_,rfl,rfl,SqL.of hXs,e18,_,_,rfl,rfl,(by show (0:Int) < 3; decide),_,_,rfl,rfl,_,rfl,?_⟩; refine zap (fun _=>?_) (fun _=>?_)
      ·exact⟨_,rfl,.inl ⟨rfl,_,SqL.of hXr⟩,_,rfl,ro,_,_,rfl,rfl,hXr,zaa (by rw [List.length_map]; omega),rw++[none],_,_,_,rfl,by rw [List.length_append,hrl]; rfl,zS sX hro5,by rw [zc,List.map_append]; rfl,by rw [zl hslro]; exact hXs,zju hrg⟩
      ·exact⟨_,rfl,.inl ⟨rfl,_,SqL.of hXr⟩,_,rfl,ro,_,_,rfl,rfl,hXr,zaa (by rw [List.length_map]; omega),rw++[some _],_,_,_,rfl,by rw [List.length_append,hrl]; rfl,zS sX hro5,by rw [zc,List.map_append]; rfl,by rw [zl hslro]; exact hXs,zfY hrg (by first | exact⟨Int.emod_nonneg _ (by omega),Int.emod_lt_of_pos _ p0⟩ | exact zfZ p0)⟩
     ·refine zcu ?_
      exact⟨_,rfl,.inl ⟨rfl,_,SqL.of hXr⟩,_,rfl,ro,_,_,rfl,rfl,hXr,zaa (by rw [List.length_map]; omega),rw++[some _],_,_,_,rfl,by rw [List.length_append,hrl]; rfl,zS sX hro5,by rw [zc,List.map_append]; rfl,by rw [zl hslro]; exact hXs,zfY hrg (by first | exact⟨Int.emod_nonneg _ (by omega),Int.emod_lt_of_pos _ p0⟩ | exact zfZ p0)⟩
   ·rintro σ H7 ⟨rw,v11,v12,v13,rfl,hrl,s7,h7r,h7s,hrg⟩
    refine⟨_,rfl,sl,_,_,_,rfl,rfl,SqL.of h7s,e19,_,_,rfl,rfl,(by show (0:Int) < 30; decide),rfl,_,rfl,?_⟩
    refine zap (fun _=>?_) (fun _=>⟨_,rfl,q ro rw H7 hroH (s5.trans s7) hrl hrg h7r⟩)
    refine⟨by show 1≤sizeLine; omega,fun z hz=>⟨_,rfl,ro,_,rfl,.inl (SqL.of ((zb hz) _ _ h7r)),z,_,[.non],rfl,rfl,zc,by rw [List.length_map]; omega,by rw [List.length_map]; omega,by rw [List.length_map]; show 1*_≤sizeLine; omega,fun y hy=>?_⟩⟩
    have s8:=(s5.trans s7).trans (zb (o:=.lst [.non]) hz)
    refine q y (List.replicate pl.length none) _ (s8.free hy) (s8.trans (zb hy)) (by rw [List.length_replicate]) (fun z hz=>by cases List.eq_of_mem_replicate hz) ?_
    rw [zc,List.length_map,zme,hrl,Int.toNat_natCast]
theorem zaN:FnScope ["p","number","product","square","left"] ["p","number"] (zh zcj):=⟨rfl,rfl,rfl,by decide +kernel,rfl,by decide +kernel,by decide +kernel⟩
theorem zgN {fd:FuncData} (T:Txt K mg t) (F:Fun K "inverse" "inverse" zcj t.inverse fd):FnOk P w K mg base CX0 1 t.inverse fd ["p","number"] (zgs K):=by
 refine F.ok zaN (fun vs H Q E h=>?_) (fun cdv A outer s H vs Q E hr h=>?_)
 ·obtain⟨p,h,rfl,_⟩:=h
  rfl
 ·obtain⟨p,hh,rfl,mp,h0,h1,q⟩:=h
  refine⟨_,(@zd _ _ _ _ _ (@zm _ _ (2) _ _ _ _ zaN.nd rfl (Or.inl rfl) (@zf _ _ _ _) (by rfl) (by trivial)) (by exact (@zd _ _ _ _ _ (@zm _ _ (3) _ _ _ _ zaN.nd rfl (Or.inl rfl) (@zg _ _ _ _ _ _ _ _ (@zC _) (@pvx _ 1 _ _ rfl) (@pvx _ 0 _ _ rfl)) (by rfl) (by trivial)) (by exact (@zd _ _ _ _ _ (@zm _ _ (4) _ _ _ _ zaN.nd rfl (Or.inl rfl) (@zg _ _ _ _ _ _ _ _ (@zV _) (@pvx _ 0 _ _ rfl) (@zf _ _ _ _)) (by rfl) (by trivial)) (by exact (@zd _ _ _ _ _ (@zdD _ _ _ _ _ _ PassesOwn.never (@zz _ _ _ _ _ _ _ _ (@zfr _) (@pvx _ 4 _ _ rfl) (@zf _ _ _ _) (zF _)) (@zd _ _ _ _ _ (@zaG _ _ _ _ _ _ _ _ (@zz _ _ _ _ _ _ _ _ (@zc4 _) (@zg _ _ _ _ _ _ _ _ (@zC _) (@pvx _ 4 _ _ rfl) (@zf _ _ _ _)) (@zf _ _ _ _) (zF _)) (@zj _ _ _ (@zm _ _ (2) _ _ _ _ zaN.nd rfl (Or.inl rfl) (@zg _ _ _ _ _ _ _ _ (@zC _) (@zg _ _ _ _ _ _ _ _ (@zD _) (@pvx _ 2 _ _ rfl) (@pvx _ 3 _ _ rfl)) (@pvx _ 0 _ _ rfl)) (by rfl) (by trivial))) (@zY _)) (by exact (@zd _ _ _ _ _ (@zm _ _ (3) _ _ _ _ zaN.nd rfl (Or.inl rfl) (@zg _ _ _ _ _ _ _ _ (@zC _) (@zg _ _ _ _ _ _ _ _ (@zD _) (@pvx _ 3 _ _ rfl) (@pvx _ 3 _ _ rfl)) (@pvx _ 0 _ _ rfl)) (by rfl) (by trivial)) (by exact (@zj _ _ _ (@zgb _ _ (4) _ _ _ _ _ _ zaN.nd rfl (Or.inl rfl) (@zf _ _ _ _) zir (by trivial)))))))) (by exact (@zj _ _ _ (@zB _ _ _ _ (@pvx _ 2 _ _ rfl))))))))))),?_⟩
  have rp:=zU mp
  have e0:=Int.emod_nonneg hh (show p≠0 by omega)
  have e1:=Int.emod_lt_of_pos hh (show 0 < p by omega)
  refine⟨_,rfl,_,rfl,_,_,rfl,rfl,(by show 0 < p; omega),_,rfl,_,_,rfl,rfl,?_⟩
  refine zio (fun σ H'=>H'=H∧∃ (prod sq left:Int) (n:Nat),σ = [some (.int p),some (.int hh),some (.int prod),some (.int sq),some (.int left)]∧0≤prod∧prod < p∧0≤sq∧sq < p∧0≤left∧left < 2 ^ n∧zcc p n prod sq left=inv p hh) (fun σ _=>zlg σ)
   ⟨rfl,1,hh % p,p - 2,7,rfl,by omega,by omega,e0,e1,by omega,by omega,rfl⟩ ?_ ?_
  ·rintro σ H1 ⟨rfl,prod,sq,left,n,rfl,b0,b1,s0,s1,l0,l1,hi⟩
   refine⟨_,rfl,_,_,rfl,rfl,_,rfl,?_⟩
   refine zap (fun hl=>?_) (fun hl=>?_)
   ·have hl:0 < left:=by simpa using hl
    obtain⟨m,rfl⟩:∃ m,n=m+1:=by
     cases n with
     | zero=>omega
     | succ m=>exact⟨m,rfl⟩
    rw [ze1 hl l1] at hi
    have l2:left / 2 < 2 ^ m:=by
     have:(2:Int) ^ (m+1)=2 ^ m*2:=Int.pow_succ ..
     omega
    have m0:=Int.emod_nonneg (prod*sq) (show p≠0 by omega)
    have m1:=Int.emod_lt_of_pos (prod*sq) (show 0 < p by omega)
    have n0:=Int.emod_nonneg (sq*sq) (show p≠0 by omega)
    have n1:=Int.emod_lt_of_pos (sq*sq) (show 0 < p by omega)
    refine⟨_,rfl,_,_,rfl,rfl,(by show (0:Int) < 2; decide),rfl,_,rfl,?_⟩; refine zap (fun ho=>?_) (fun ho=>?_)
    ·have ho:left % 2=1:=by simpa using ho
     rw [if_pos ho] at hi
     refine⟨_,rfl,_,rfl,_,_,rfl,rfl,.inl ⟨by omega,by omega⟩,_,rfl,_,_,rfl,rfl,(by show 0 < p; omega),?_⟩
     refine⟨_,rfl,_,rfl,_,_,rfl,rfl,.inl ⟨by omega,by omega⟩,_,rfl,_,_,rfl,rfl,(by show 0 < p; omega),?_⟩
     refine⟨_,rfl,_,_,rfl,rfl,⟨by decide,by decide⟩,⟨rfl,_,_,_,m,rfl,m0,m1,n0,n1,by omega,l2,hi⟩,?_⟩
     show (left / 2).toNat < left.toNat
     omega
    ·have ho:¬ left % 2=1:=by simpa using ho
     rw [if_neg ho] at hi
     refine⟨_,rfl,_,rfl,_,_,rfl,rfl,.inl ⟨by omega,by omega⟩,_,rfl,_,_,rfl,rfl,(by show 0 < p; omega),?_⟩
     refine⟨_,rfl,_,_,rfl,rfl,⟨by decide,by decide⟩,⟨rfl,_,_,_,m,rfl,b0,b1,n0,n1,by omega,l2,hi⟩,?_⟩
     show (left / 2).toNat < left.toNat
     omega
   ·have hl:¬ 0 < left:=by simpa using hl
    have el:left=0:=by omega
    subst el
    rw [zfD] at hi
    rw [← hi] at q
    exact⟨_,rfl,q⟩
  ·rintro σ H1 Q1 Q2 hq ⟨v,e,i,j,e1,e2,k,e3,q⟩
   exact⟨v,e,i,j,e1,e2,k,e3,hq _ _ q⟩
def zdV (K:PySem.W.Frag):Sp:=fun vs H Q _=>∃ (p r:Int) (a:Addr) (cs:List Int),vs = [.int p,.ref a,.int r]∧H a=some (.lst (cs.map V.int))∧cs.length≤1000∧0 < p∧-97≤r∧r≤97 ∧
 ∀ (l:Addr) (H':Hp),H l=none→zy H H'→H' l=some (.lst ((zcI p r cs).map V.int))→Q (.ref l) H'
theorem zbC:FnScope ["p","polynomial","root","raised","kept"] ["p","polynomial","root"] (zh zaW):=⟨rfl,rfl,rfl,by decide +kernel,rfl,by decide +kernel,by decide +kernel⟩
theorem zeb {fd:FuncData} (T:Txt K mg t) (F:Fun K "times_root" "times_root" zaW t.times_root fd):FnOk P w K mg base CX0 1 t.times_root fd ["p","polynomial","root"] (zdV K):=by
 refine F.ok zbC (fun vs H Q E h=>?_) (fun cdv A outer s H vs Q E hr h=>?_)
 ·obtain⟨p,r,a,cs,rfl,_⟩:=h
  rfl
 ·obtain⟨p,r,a,cs,rfl,ha,hlen,p0,r0,r1,q⟩:=h
  refine⟨_,(@zd _ _ _ _ _ (@zm _ _ (3) _ _ _ _ zbC.nd rfl (Or.inl rfl) (@zg _ _ _ _ _ _ _ _ (@zct _) (@zN _ _ _ _ (@za _ _ _ _ _ (@zf _ _ _ _) (@ze _) (by rfl))) (@pvx _ 1 _ _ rfl)) (by rfl) (by trivial)) (by exact (@zd _ _ _ _ _ (@zm _ _ (4) _ _ _ _ zbC.nd rfl (Or.inl rfl) (@zg _ _ _ _ _ _ _ _ (@zct _) (@pvx _ 1 _ _ rfl) (@zN _ _ _ _ (@za _ _ _ _ _ (@zf _ _ _ _) (@ze _) (by rfl)))) (by rfl) (by trivial)) (by exact (@zj _ _ _ (@zB _ _ _ _ (@zG _ _ _ _ _ _ _ _ _ _ _ _ _ (CompSc.of (N':=["high","low","root","p"]) (ix:=[none,none,some 2,some 0]) (zh zaW) ["p","polynomial","root","raised","kept"] rfl rfl (by decide +kernel)) rfl (@zaH _ _ _ _ (@zr _ _ _ rfl (@zr _ _ _ rfl (@zaj _)))) (@zdt _ _ _ _ _ _ _ _ _ rfl T.zip_ (@za _ _ _ _ _ (@pvx _ 3 _ _ rfl) (@za _ _ _ _ _ (@pvx _ 4 _ _ rfl) (@ze _) (by rfl)) (by rfl)) (by rfl) (by rfl)) (fun _ _ _ _=>(@zak _ (K) _ _ _ (2) _ rfl rfl (@zk _ _ _ _ _ (@zi _ _ (0) _ (show (["high","low","root","p"]:List Str).Nodup by decide +kernel) rfl (Or.inl rfl) (by trivial)) (@zk _ _ _ _ _ (@zi _ _ (1) _ (show (["high","low","root","p"]:List Str).Nodup by decide +kernel) rfl (Or.inl rfl) (by trivial)) (@zK _) (by rfl)) (by rfl)) (by rfl) (by rfl))) (fun _ _ _ _=>(@zw _)) (fun _ _ _ _=>(@zg _ _ _ _ _ _ _ _ (@zC _) (@zg _ _ _ _ _ _ _ _ (@zV _) (@pvx _ 0 _ _ rfl) (@zg _ _ _ _ _ _ _ _ (@zD _) (@pvx _ 2 _ _ rfl) (@pvx _ 1 _ _ rfl))) (@pvx _ 3 _ _ rfl))) (by intro _; rfl)))))))),?_⟩
  have hsl:=sizeLine_eq
  refine⟨by show 1≤sizeLine; omega,fun z hz=>⟨_,rfl,z,a,[.int 0],cs.map V.int,rfl,rfl,zc,by rw [zl (zp ha hz)]; exact ha,by rw [List.length_map]; show 1+cs.length≤sizeLine; omega,fun ra hra=>?_⟩⟩
  have s1:zy H (upd (upd H z (.lst [.int 0])) ra (.lst ([.int 0]++cs.map V.int))):=(zb hz).trans (zb hra)
  refine⟨_,rfl,by show 1≤sizeLine; omega,fun z2 hz2=>⟨a,z2,cs.map V.int,[.int 0],rfl,rfl,by rw [zl (zp (s1 _ _ ha) hz2)]; exact s1 _ _ ha,zc,by rw [List.length_map]; show cs.length+1≤sizeLine; omega,fun ke hke=>?_⟩⟩
  have s2:=s1.trans ((zb (o:=.lst [.int 0]) hz2).trans (zb (o:=.lst (cs.map V.int++[.int 0])) hke))
  have hra2:upd (upd (upd (upd H z (.lst [.int 0])) ra (.lst ([.int 0]++cs.map V.int))) z2 (.lst [.int 0])) ke (.lst (cs.map V.int++[.int 0])) ra=some (.lst ((0 :: cs).map V.int)) :=
   ((zb (o:=.lst [.int 0]) hz2).trans (zb (o:=.lst (cs.map V.int++[.int 0])) hke)) _ _ zc
  have hke2:upd (upd (upd (upd H z (.lst [.int 0])) ra (.lst ([.int 0]++cs.map V.int))) z2 (.lst [.int 0])) ke (.lst (cs.map V.int++[.int 0])) ke=some (.lst ((cs++[0]).map V.int)):=by rw [zc,List.map_append]; rfl
  generalize upd (upd (upd (upd H z (.lst [.int 0])) ra (.lst ([.int 0]++cs.map V.int))) z2 (.lst [.int 0])) ke (.lst (cs.map V.int++[.int 0]))=H2 at s2 hra2 hke2 ⊢
  refine⟨_,rfl,_,rfl,ra,ke,_,_,rfl,SqL.of hra2,SqL.of hke2,zM (n:=cs.length+1) (fun i ys H'=>ys=((zcI p r cs).take i).map V.int∧zy H2 H') ⟨by simp,fun _ _ e=>e⟩ ?_ ?_ ?_ ?_⟩
  ·rintro i ys H3 hi ⟨_,s3⟩
   obtain⟨x,hx⟩:∃ x,(0 :: cs)[i]? = some x:=⟨(0 :: cs)[i]'(by simpa using hi),by simp⟩
   obtain⟨y,hy⟩:∃ y,(cs++[0])[i]? = some y:=⟨(cs++[0])[i]'(by simpa using hi),by simp⟩
   exact⟨_,_,.int x,.int y,SqL.of (s3 _ _ hra2),SqL.of (s3 _ _ hke2),by rw [List.getElem?_map,hx]; rfl,by rw [List.getElem?_map,hy]; rfl⟩
  ·rintro ys H3 ⟨_,s3⟩
   exact⟨_,_,SqL.of (s3 _ _ hra2),SqL.of (s3 _ _ hke2),.inl (by simp)⟩
  ·rintro i x ys H3 H4 hi ⟨rfl,s3⟩ ⟨T,u,v,hT,rfl,rfl,hu,hv⟩
   obtain⟨x,rfl,hx⟩:=zal (hu _ (SqL.of (s3 _ _ hra2)))
   obtain⟨y,rfl,hy⟩:=zal (hv _ (SqL.of (s3 _ _ hke2)))
   refine gY2 (SqT.of zc) ?_
   refine⟨_,rfl,_,rfl,_,rfl,_,_,rfl,rfl,.inl ⟨by omega,by omega⟩,_,_,rfl,rfl,_,rfl,_,_,rfl,rfl,p0,zaa ?_,?_,s3.trans (zb hT)⟩
   ·rw [List.length_map]
    exact Nat.le_trans (List.length_take_le _ _) (by omega)
   ·show _=(List.take (i+1) (List.zipWith (trF p r) (0 :: cs) (cs++[0]))).map V.int
    rw [zfE hx hy,List.map_append]
    rfl
  ·rintro ys H3 D ⟨rfl,s3⟩ hD
   refine q D _ ((s2.trans s3).free hD) ((s2.trans s3).trans (zb hD)) ?_
   rw [zc,List.take_of_length_le (by rw [zcd]; exact Nat.le_refl _)]
theorem zaK:FnScope ["code","row","p","k","places"] ["code","row"] (zh zav):=⟨rfl,rfl,rfl,by decide +kernel,rfl,by decide +kernel,by decide +kernel⟩
theorem zdn {fd:FuncData} (T:Txt K mg t) (F:Fun K "heard_points" "heard_points" zav t.heard_points fd):FnOk P w K mg base CX0 1 t.heard_points fd ["code","row"] (zj9 K):=by
 refine F.ok zaK (fun vs H Q E h=>?_) (fun cdv A outer s H vs Q E hr h=>?_)
 ·obtain⟨c,tt,r,p,k,pl,rw,rfl,_⟩:=h
  rfl
 ·obtain⟨c,tt,r,p,k,pl,rw,rfl,hc,hr',hn,q⟩:=h
  refine⟨_,(@zd _ _ _ _ _ (@zbo _ _ _ _ _ _ (@pvx _ 0 _ _ rfl) (@za0 _ _ _ _ _ _ rfl (@zk _ _ _ _ _ (@zi _ _ (2) _ zaK.nd rfl (Or.inl rfl) (by trivial)) (@zk _ _ _ _ _ (@zi _ _ (3) _ zaK.nd rfl (Or.inl rfl) (by trivial)) (@zk _ _ _ _ _ (@zi _ _ (4) _ zaK.nd rfl (Or.inl rfl) (by trivial)) (@zK _) (by rfl)) (by rfl)) (by rfl)) (by rfl) (by rfl)) (by rfl) (by rfl) (by rfl)) (by exact (@zj _ _ _ (@zB _ _ _ _ (@zG _ _ _ _ _ _ _ _ _ _ _ _ _ (CompSc.of (N':=["place","entry"]) (ix:=[none,none]) (zh zav) ["code","row","p","k","places"] rfl rfl (by decide +kernel)) rfl (@zaH _ _ _ _ (@zr _ _ _ rfl (@zr _ _ _ rfl (@zaj _)))) (@zfI _ _ _ _ _ _ _ _ _ rfl T.zip_ (@za _ _ _ _ _ (@pvx _ 4 _ _ rfl) (@za _ _ _ _ _ (@pvx _ 1 _ _ rfl) (@ze _) (by rfl)) (by rfl)) (by rfl) (by rfl)) (fun _ _ _ _=>(@zak _ (K) _ _ _ (2) _ rfl rfl (@zk _ _ _ _ _ (@zi _ _ (0) _ (show (["place","entry"]:List Str).Nodup by decide +kernel) rfl (Or.inl rfl) (by trivial)) (@zk _ _ _ _ _ (@zi _ _ (1) _ (show (["place","entry"]:List Str).Nodup by decide +kernel) rfl (Or.inl rfl) (by trivial)) (@zK _) (by rfl)) (by rfl)) (by rfl) (by rfl))) (fun _ _ _ _=>(@zbG _ _ _ (@zz _ _ _ _ _ _ _ _ (@zg1 _) (@pvx _ 1 _ _ rfl) (@zcU _ _ _) (zF _)))) (fun _ _ _ _=>(@zbg _ _ _ _ _ (@za _ _ _ _ _ (@pvx _ 0 _ _ rfl) (@za _ _ _ _ _ (@pvx _ 1 _ _ rfl) (@ze _) (by rfl)) (by rfl)))) (by intro _; rfl)))))),?_⟩
  have hsl:=sizeLine_eq
  have hl:=hr'.len
  refine⟨_,rfl,c,_,rfl,SqT.of hc.1,rfl,_,_,rfl,_,_,rfl,_,_,rfl,rfl,?_⟩
  refine⟨_,rfl,_,rfl,tt,r,_,_,rfl,SqT.of hc.2,hr'.at',zM (n:=pl.length) (fun i ys H'=>zy H H'∧∃ us:List Addr,ys=us.map V.ref∧PtB H' us (hps (pl.take i) (rw.take i))) ⟨fun _ _ e=>e,[],rfl,.nil⟩ ?_ ?_ ?_ ?_⟩
  ·rintro i ys H3 hi ⟨s3,_⟩
   obtain⟨o,ho⟩:∃ o,rw[i]? = some o:=⟨rw[i]'(by omega),by simp⟩
   exact⟨_,_,.int pl[i],enc o,SqT.of (s3 _ _ hc.2),s3.seq hr'.at',by rw [List.getElem?_map,List.getElem?_eq_getElem hi]; rfl,by rw [List.getElem?_map,ho]; rfl⟩
  ·rintro ys H3 ⟨s3,_⟩
   exact⟨_,_,SqT.of (s3 _ _ hc.2),s3.seq hr'.at',.inl (by rw [List.length_map])⟩
  ·rintro i xx ys H3 H4 hi ⟨s3,us,rfl,hus⟩ ⟨T,u,v,hT,rfl,rfl,hu,hv⟩
   obtain⟨x,rfl,hx⟩:=zal (hu _ (SqT.of (s3 _ _ hc.2)))
   obtain⟨o,rfl,ho⟩:=ze4 (hv _ (s3.seq hr'.at'))
   have v4:=zb (o:=.tup [.int x,enc o]) hT
   have s4:=s3.trans v4
   have hs:=zdQ hx ho
   have hul:=hus.length
   have hb:=zce (pl.take i) (rw.take i)
   rw [List.length_take] at hb
   refine⟨T,_,rfl,SqT.of zc,rfl,_,_,rfl,_,_,rfl,rfl,?_⟩
   refine⟨_,rfl,rfl,_,rfl,?_⟩
   cases o with
   | none =>
    refine zcu ⟨s4,us,rfl,?_⟩
    rw [hs,List.append_nil]
    exact hus.same v4
   | some z =>
    refine zhC ⟨_,rfl,_,rfl,by show 2≤sizeLine; omega,fun T2 hT2=>⟨by rw [List.length_map]; omega,s4.trans (zb hT2),us++[T2],by rw [List.map_append]; rfl,?_⟩⟩
    rw [hs]
    exact Paired.snoc (hus.same (v4.trans (zb hT2))) zc
  ·rintro ys H3 D ⟨s3,us,rfl,hus⟩ hD
   rw [List.take_length,List.take_of_length_le (by omega)] at hus
   exact q D us _ (s3.free hD) (s3.trans (zb hD)) zc (hus.same (zb hD))
end
end My
end
section
set_option maxHeartbeats 3999000
namespace My
open PySem L2 PyProof.Rows
section
variable {P:Program} {w:World} {K:PySem.W.Frag} {mg:Str→Option Value} {base:Heap} {t:Adr}
def pwr (p x:Int) (kept n:Nat):List Int:=(List.range kept).map fun u=>cf x n u % p
def pws (p x:Int) (kept n:Nat):List (List Int):=(List.range n).map (pwr p x kept)
theorem zdW (p x:Int) (kept n:Nat):pws p x kept (n+1)=pws p x kept n++[pwr p x kept n]:=by
 unfold pws
 rw [List.range_succ,List.map_append]
 rfl
theorem zaZ (p x:Int) (kept n:Nat):(pwr p x kept n).length=kept:=by unfold pwr; rw [List.length_map,List.length_range]
theorem zdX {p x:Int} {kept n u:Nat} (h:u < kept):gl (pwr p x kept n) u=cf x n u % p:=zbI (by unfold pwr; rw [List.getElem?_map,List.getElem?_range h]; rfl)
theorem zjw {p x:Int} {kept n:Nat}:(zcI p (-x) (pwr p x kept n)).take kept=pwr p x kept (n+1):=by
 refine zi6 (by rw [List.length_take,zcd,zaZ,zaZ]; omega) fun u hu=>?_
 have hu:u < kept:=by rw [List.length_take,zcd,zaZ] at hu; omega
 rw [zdX hu]
 have e1:gl ((zcI p (-x) (pwr p x kept n)).take kept) u=gl (zcI p (-x) (pwr p x kept n)) u:=by
  unfold gl
  rw [List.getD_eq_getElem?_getD,List.getD_eq_getElem?_getD,List.getElem?_take_of_lt hu]
 rw [e1]
 unfold zcI
 rw [zgC (by rw [List.length_cons,zaZ]; omega) (by rw [List.length_append,zaZ]; simp; omega)]
 have e2:gl (pwr p x kept n++[0]) u=cf x n u % p:=by
  rw [← zdX hu]
  unfold gl
  rw [List.getD_eq_getElem?_getD,List.getD_eq_getElem?_getD,List.getElem?_append_left (by rw [zaZ]; exact hu)]
 rw [e2]
 show (_ - (-x)*_) % p=_
 cases u with
 | zero =>
  show (0 - (-x)*(cf x n 0 % p)) % p=cf x (n+1) 0 % p
  rw [zfa,zfa,Int.pow_succ]
  refine Cg.mod_eq ?_
  refine (((Cg.refl p 0).sub ((Cg.refl p (-x)).mul (Cg.emod p _)))).trans (Cg.of_eq (by grind))
 | succ u =>
  have e3:gl (0 :: pwr p x kept n) (u+1)=cf x n u % p:=by
   rw [← zdX (show u < kept by omega)]
   unfold gl
   simp
  rw [e3,zkk]
  refine Cg.mod_eq ?_
  refine ((Cg.emod p _).sub ((Cg.refl p (-x)).mul (Cg.emod p _))).trans (Cg.of_eq (by grind))
theorem zjx {p x:Int} (hp:1 < p) {kept:Nat} (hk:1≤kept):pwr p x kept 0=1 :: List.replicate (kept - 1) 0:=by
 refine zi6 (by rw [zaZ,List.length_cons,List.length_replicate]; omega) fun u hu=>?_
 rw [zaZ] at hu
 rw [zdX hu]
 cases u with
 | zero =>
  rw [zfa,Int.pow_zero]
  show (1:Int) % p=1
  exact Int.emod_eq_of_lt (by decide) hp
 | succ u =>
  have e:cf x 0 (u+1)=0:=by show (0:Int)*_=0; simp
  rw [e,Int.zero_emod]
  unfold gl
  rw [List.getD_eq_getElem?_getD,List.getElem?_cons_succ,List.getElem?_replicate,if_pos (by omega)]
  rfl
def zdo (K:PySem.W.Frag):Sp:=fun vs H Q _=>∃ (p x:Int) (most kept:Nat),vs = [.int p,.int x,.int (most:Int),.int (kept:Int)]∧5≤p∧p≤97∧0≤x∧x < p∧most≤500∧1≤kept∧kept≤100 ∧
 ∀ (l:Addr) (ls:List Addr) (H':Hp),H l=none→zy H H'→H' l=some (.lst (ls.map V.ref))→LsA H' ls (pws p x kept (most+1))→Q (.ref l) H'
theorem zbh:FnScope ["p","by","most","kept","powers","power"] ["p","by","most","kept"] (zh zaX):=⟨rfl,rfl,rfl,by decide +kernel,rfl,by decide +kernel,by decide +kernel⟩
theorem zdp {fd:FuncData} (T:Txt K mg t) (F:Fun K "moved_powers" "moved_powers" zaX t.moved_powers fd):FnOk P w K mg base CX0 2 t.moved_powers fd ["p","by","most","kept"] (zdo K):=by
 obtain⟨fd_times_root,F_times_root,b_times_root⟩:=T.f_times_root
 have G_times_root:=zeb (P:=P) (w:=w) (base:=base) T F_times_root
 refine F.ok zbh (fun vs H Q E h=>?_) (fun cdv A outer s H vs Q E hr h=>?_)
 ·obtain⟨p,x,most,kept,rfl,_⟩:=h
  rfl
 ·obtain⟨p,x,most,kept,rfl,p5,p97,x0,x1,hm,k1,k2,q⟩:=h
  refine⟨_,(@zd _ _ _ _ _ (@zm _ _ (4) _ _ _ _ zbh.nd rfl (Or.inl rfl) (@zN _ _ _ _ (@za _ _ _ _ _ (@zg _ _ _ _ _ _ _ _ (@zct _) (@zN _ _ _ _ (@za _ _ _ _ _ (@zf _ _ _ _) (@ze _) (by rfl))) (@zg _ _ _ _ _ _ _ _ (@zgh _) (@zN _ _ _ _ (@za _ _ _ _ _ (@zf _ _ _ _) (@ze _) (by rfl))) (@zg _ _ _ _ _ _ _ _ (@zV _) (@pvx _ 3 _ _ rfl) (@zf _ _ _ _)))) (@ze _) (by rfl))) (by rfl) (by trivial)) (by exact (@zd _ _ _ _ _ (@zai _ _ _ _ _ _ _ _ PassesOwn.never rfl (@zI _ _ _ _ _ _ rfl T.range_ (@za _ _ _ _ _ (@pvx _ 2 _ _ rfl) (@ze _) (by rfl)) (by rfl)) (@zi _ _ (5) _ zbh.nd rfl (Or.inl rfl) (by trivial)) (@zj _ _ _ (@zaS _ _ _ _ (@zbF _ _ _ _ _ _ _ _ _ _ _ _ PySem.F.plainAttrs_list PySem.F.slot_list_append PySem.F.type_list_append (@za1 _) (@pvx _ 4 _ _ rfl) (@za _ _ _ _ _ (@zbp _ _ _ _ _ _ _ _ _ _ zbQ (@zt _ _ _ _ _ _ _ _ _ _ _ _ _ _ _ _ G_times_root (hr.mono (by decide)) rfl T.m_times_root F_times_root.kp b_times_root .nil (@zW _) (@za _ _ _ _ _ (@pvx _ 0 _ _ rfl) (@za _ _ _ _ _ (@zu _ _ _ _ _ _ _ (@zq _) (@pvx _ 4 _ _ rfl) (@ziq _ _ _ _ _ _ zgd (@zf _ _ _ _)) (fun _ _=>rfl)) (@za _ _ _ _ _ (@ziq _ _ _ _ _ _ zgd (@pvx _ 1 _ _ rfl)) (@ze _) (by rfl)) (by rfl)) (by rfl)) (by decide) (by rfl) (by rfl)) (@zcb _) (@zbt _ _ _ (@pvx _ 3 _ _ rfl))) (@ze _) (by rfl)) (by rfl) (by rfl) (by rfl) (by rfl) (by rfl)) (by rfl))) (by intro _; rfl)) (by exact (@zj _ _ _ (@zB _ _ _ _ (@pvx _ 4 _ _ rfl))))))),?_⟩
  have hsl:=sizeLine_eq
  refine⟨by show 1≤sizeLine; omega,fun A1 hA1=>?_⟩
  have u1:=zb (o:=.lst [V.int 1]) hA1
  have v1:upd H A1 (.lst [V.int 1]) A1=some (.lst [V.int 1]):=zc
  generalize upd H A1 (.lst [V.int 1])=H1 at u1 v1 ⊢
  refine⟨by show 1≤sizeLine; omega,fun A2 hA2=>?_⟩
  have u2:=u1.trans (zb (o:=.lst [V.int 0]) hA2)
  have v12:=(zb (o:=.lst [V.int 0]) hA2) _ _ v1
  have v2:upd H1 A2 (.lst [V.int 0]) A2=some (.lst [V.int 0]):=zc
  generalize upd H1 A2 (.lst [V.int 0])=H2 at u2 v12 v2 ⊢
  have ek:((kept:Int) - 1).toNat=kept - 1:=by omega
  refine⟨_,rfl,_,_,rfl,rfl,A2,_,_,rfl,rfl,v2,by omega,by omega,by rw [ek]; show 1*(kept - 1)≤sizeLine; omega,fun A3 hA3=>?_⟩
  rw [ek,List.flatten_replicate_singleton]
  have w3:=zb (o:=.lst (List.replicate (kept - 1) (V.int 0))) hA3
  have v13:=w3 _ _ v12
  have v3:upd H2 A3 (.lst (List.replicate (kept - 1) (V.int 0))) A3=some (.lst (List.replicate (kept - 1) (V.int 0))):=zc
  have u3:=u2.trans w3
  generalize upd H2 A3 (.lst (List.replicate (kept - 1) (V.int 0)))=H3 at u3 v13 v3 ⊢
  refine⟨A1,A3,_,_,rfl,rfl,v13,v3,by rw [List.length_replicate]; show 1+(kept - 1)≤sizeLine; omega,fun A4 hA4=>?_⟩
  have ez:[V.int 1]++List.replicate (kept - 1) (V.int 0)=(pwr p x kept 0).map V.int:=by rw [zjx (by omega) k1,List.map_cons,List.map_replicate]; rfl
  rw [ez]
  have u4:=u3.trans (zb (o:=.lst ((pwr p x kept 0).map V.int)) hA4)
  have v4:upd H3 A4 (.lst ((pwr p x kept 0).map V.int)) A4=some (.lst ((pwr p x kept 0).map V.int)):=zc
  generalize upd H3 A4 (.lst ((pwr p x kept 0).map V.int))=H4 at u4 v4 ⊢
  refine⟨by show 1≤sizeLine; omega,fun PW hPW=>?_⟩
  have sw:=zb (o:=.lst [V.ref A4]) hPW
  have emt:((most:Int)).toNat=most:=by omega
  refine⟨_,rfl,_,rfl,by omega,by omega,zam (lo:=0) (n:=((most:Int)).toNat) (fun i σ H'=>∃ (e5:Option V),σ = [some (.int p),some (.int x),some (.int (most:Int)),some (.int (kept:Int)),some (.ref PW),e5]∧zy H H'∧∃ ls:List Addr,H' PW=some (.lst (ls.map V.ref))∧LsA H' ls (pws p x kept (i+1))) ⟨none,rfl,u4.trans sw,[A4],zc,.cons (sw _ _ v4) .nil⟩ ?_ ?_⟩
  ·rintro i σ H5 hi ⟨e5,rfl,s5,ls,h5,hls⟩
   have hll:ls.length=i+1:=by rw [Paired.length hls]; unfold pws; rw [List.length_map,List.length_range]
   rw [zdW] at hls
   obtain⟨ls',b,rfl⟩:∃ ls' b,ls=ls'++[b]:=⟨_,_,(List.dropLast_concat_getLast (l:=ls) (fun e=>by rw [e] at hll; simp at hll)).symm⟩
   obtain⟨hA,hB⟩:=zdd hls
   have hat:atI ((ls'++[b]).map V.ref) (-1)=some (.ref b):=by rw [List.map_append]; exact zhl
   refine⟨_,rfl,.inl ⟨rfl,_,SqL.of h5⟩,_,rfl,_,rfl,_,rfl,PW,_,_,_,rfl,rfl,SqL.of h5,hat,_,rfl,_,rfl,p,-x,b,_,rfl,hB,by rw [zaZ]; omega,by omega,by omega,by omega,fun l H6 hl s6 h6=>?_⟩
   refine⟨_,rfl,_,rfl,l,_,rfl,SqL.of h6,fun z hz=>?_⟩
   have ec:zco ((zcI p (-x) (pwr p x kept i)).map V.int) none (some (kept:Int))=(pwr p x kept (i+1)).map V.int:=by
    unfold zco
    rw [HT.sIx_nat,HT.sIx_none,List.drop_zero,Nat.sub_zero,List.length_map,zcd,zaZ,Nat.min_eq_left (by omega),← List.map_take,zjw]
   rw [ec]
   have sz:=zb (o:=.lst ((pwr p x kept (i+1)).map V.int)) hz
   have h6P:=s6 _ _ h5
   have h7P:=sz _ _ h6P
   have zP:z≠PW:=(zp h6P hz).symm
   refine⟨PW,_,_,rfl,rfl,h7P,by rw [List.length_map,hll]; omega,?_⟩
   refine⟨_,rfl,zS ((s5.trans s6).trans sz) (u4.free hPW),(ls'++[b])++[z],by rw [zc]; simp,?_⟩
   rw [zdW]
   refine Paired.snoc (zjs (D:=PW) (fun hm=>?_) (fun c o hc e=>by rw [zl hc]; exact e) (LsA.same (s6.trans sz) (by rw [zdW]; exact hls))) (by rw [zl zP]; exact zc)
   obtain⟨j,hj⟩:=List.mem_iff_getElem?.mp hm
   exact LsA.off hls h5 j PW hj rfl
  ·rintro σ H5 ⟨e5,rfl,s5,ls,h5,hls⟩
   rw [emt] at hls
   exact⟨_,rfl,q PW ls _ (u4.free hPW) s5 h5 hls⟩
end
end My
end
section
set_option maxHeartbeats 3999000
namespace My
open PySem L2 PyProof.Rows
section
variable {P:Program} {w:World} {K:PySem.W.Frag} {mg:Str→Option Value} {base:Heap} {t:Adr}
def tI (t:Tm):Int×Int:=((t.1:Int),(t.2:Int))
theorem zhm {ns:List Nat} {M:Int} (hM:M∈ns.map fun n:Nat=>(n:Int)) (hM':∀ a∈ns.map (fun n:Nat=>(n:Int)),a≤M):∃ m:Nat,M=m∧m∈ns∧∀ n∈ns,n≤m:=by
 obtain⟨m,hm,rfl⟩:=List.mem_map.mp hM
 refine⟨m,rfl,hm,fun n hn=>?_⟩
 have:=hM' _ (List.mem_map.mpr ⟨n,hn,rfl⟩)
 omega
theorem zhn {K:PySem.W.Frag} {H:Hp} {tl:Addr} {bs:List Addr} {ts:List Tm} (htl:H tl=some (.lst (bs.map V.ref))) (hpt:PtB H bs (ts.map tI)) (hlen:ts.length≤200) {g:TG} {tt:TT} {te:TE} {σ0:L2.St} {Q:VK} (f:Tm→Int)
  (hs:∀ (T:Addr) (t:Tm) (R:VK) (B:L2.St→Hp→Prop),t∈ts→SqT K H T [.int (t.1:Int),.int (t.2:Int)]→R (.int (f t)) H→g (.ref T) σ0 H fun σ2 H2=>tt σ2 H2 fun b H3=>if b=true then te σ2 H3 R else B σ2 H3)
  (hd:∀ D,H D=none→Q (.ref D) (upd H D (.lst ((ts.map f).map V.int)))):cGo g tt te σ0 (Itl K tl) Q H:=by
 have hbl:bs.length=ts.length:=by rw [Paired.length hpt,List.length_map]
 refine za2 (fs:=(ts.map f).map V.int) (SqL.of htl) (by rw [List.length_map,List.length_map,List.length_map,hbl]) (by rw [List.length_map]; omega) (fun i x y R B hx hy hR=>?_) hd
 obtain⟨b,rfl,hbi⟩:=z9 hx
 obtain⟨q,hq,hT⟩:=Paired.get hpt hbi
 rw [List.getElem?_map] at hq
 obtain⟨t,ht,rfl⟩:=Option.map_eq_some_iff.mp hq
 rw [List.getElem?_map,List.getElem?_map,ht] at hy
 have hy:V.int (f t)=y:=by simpa using hy
 subst hy
 exact hs b t R B (List.mem_of_getElem? ht) (SqT.of hT) hR
def nAt (t:Tm) (x y p:Int) (w m:Nat):List Int:=(List.range m).flatMap fun u=>(List.range (w - u)).map fun v=>cv t ⟨x,y,u,v⟩ % p
theorem zf0 (t:Tm) (x y p:Int) (w m:Nat):nAt t x y p w (m+1)=nAt t x y p w m++(List.range (w - m)).map fun v=>cv t ⟨x,y,m,v⟩ % p:=by
 unfold nAt
 rw [List.range_succ,List.flatMap_append]
 simp
theorem zku (t:Tm) (x y p:Int) (w:Nat):nAt t x y p w w=(pco (x,y,w)).map fun c=>cv t c % p:=by
 unfold nAt pco
 rw [List.map_flatMap]
 congr 1
 funext u
 rw [List.map_map]
 rfl
theorem zho (t:Tm) (x y p:Int) (w:Nat):∀ m,(nAt t x y p w m).length≤w*m
 | 0=>by simp [nAt]
 | m+1=>by
  have ih:=zho t x y p w m
  rw [zf0,List.length_append,List.length_map,List.length_range,Nat.mul_succ]
  omega
theorem zjy {H:Hp} {l:Addr} {ls:List Addr} {p x:Int} {w n i u:Nat} (h:LsA H ls (pws p x w n)) (hi:i < n) (hu:u < w):∃ b,atI (ls.map V.ref) (i:Int)=some (.ref b)∧H b=some (.lst ((pwr p x w i).map V.int))∧atI ((pwr p x w i).map V.int) (u:Int)=some (.int (cf x i u % p)):=by
 have hl:ls.length=n:=by rw [Paired.length h]; unfold pws; rw [List.length_map,List.length_range]
 have hb:ls[i]? = some (ls[i]'(by omega)):=List.getElem?_eq_getElem (by omega)
 obtain⟨v,hv,hvb⟩:=Paired.get h hb
 unfold pws at hv
 rw [List.getElem?_map,List.getElem?_range hi] at hv
 cases hv
 refine⟨_,zL (by rw [List.getElem?_map,hb]; rfl),hvb,zL ?_⟩
 rw [List.getElem?_map,zaM (by rw [zaZ]; exact hu),zdX hu]
 rfl
def zec (K:PySem.W.Frag):Sp:=fun vs H Q _=>∃ (p:Int) (tl pt:Addr) (x y:Int) (w:Nat) (bs:List Addr) (ts:List Tm),vs = [.int p,.ref tl,.ref pt]∧5≤p∧p≤97∧0≤x∧x < p∧0≤y∧y < p∧1≤w∧w≤9∧H tl=some (.lst (bs.map V.ref))∧PtB H bs (ts.map tI)∧ts≠[]∧ts.length≤200∧(∀ t∈ts,t.1≤400∧t.2≤400)∧H pt=some (.tup [.int x,.int y,.int (w:Int)]) ∧
 ∀ (l:Addr) (ls:List Addr) (H':Hp),H l=none→zy H H'→H' l=some (.lst (ls.map V.ref))→LsA H' ls (ts.map fun t=>(pco (x,y,w)).map fun c=>cv t c % p)→Q (.ref l) H'
theorem zat:FnScope ["p","terms","point","x","y","weight","by_x","by_y"] ["p","terms","point"] (zh zao):=⟨rfl,rfl,rfl,by decide +kernel,rfl,by decide +kernel,by decide +kernel⟩
theorem zed {fd:FuncData} (T:Txt K mg t) (F:Fun K "numbers_at" "numbers_at" zao t.numbers_at fd):FnOk P w K mg base CX0 3 t.numbers_at fd ["p","terms","point"] (zec K):=by
 obtain⟨fd_moved_powers,F_moved_powers,b_moved_powers⟩:=T.f_moved_powers
 have G_moved_powers:=zdp (P:=P) (w:=w) (base:=base) T F_moved_powers
 refine F.ok zat (fun vs H Q E h=>?_) (fun cdv A outer s H vs Q E hr h=>?_)
 ·obtain⟨p,tl,pt,x,y,wt,bs,ts,rfl,_⟩:=h
  rfl
 ·obtain⟨p,tl,pt,x,y,wt,bs,ts,rfl,p5,p97,x0,x1,y0,y1,w1,w9,htl,hpt,hne,hlen,hts,hp,q⟩:=h
  refine⟨_,(@zd _ _ _ _ _ (@zbo _ _ _ _ _ _ (@pvx _ 2 _ _ rfl) (@za0 _ _ _ _ _ _ rfl (@zk _ _ _ _ _ (@zi _ _ (3) _ zat.nd rfl (Or.inl rfl) (by trivial)) (@zk _ _ _ _ _ (@zi _ _ (4) _ zat.nd rfl (Or.inl rfl) (by trivial)) (@zk _ _ _ _ _ (@zi _ _ (5) _ zat.nd rfl (Or.inr rfl) (by trivial)) (@zK _) (by rfl)) (by rfl)) (by rfl)) (by rfl) (by rfl)) (by rfl) (by rfl) (by rfl)) (by exact (@zd _ _ _ _ _ (@zm _ _ (6) _ _ _ _ zat.nd rfl (Or.inr rfl) (@zt _ _ _ _ _ _ _ _ _ _ _ _ _ _ _ _ G_moved_powers (hr.mono (by decide)) rfl T.m_moved_powers F_moved_powers.kp b_moved_powers .nil (@zW _) (@za _ _ _ _ _ (@pvx _ 0 _ _ rfl) (by exact (@za _ _ _ _ _ (@pvx _ 3 _ _ rfl) (@za _ _ _ _ _ (@zn _ _ _ _ _ _ _ _ _ (@zbm _ rfl) (by rfl) T.max_ boot_max (@za _ _ _ _ _ (@zG _ _ _ _ _ _ _ _ _ _ _ _ _ (CompSc.of (N':=["i","j"]) (ix:=[none,none]) (zh zao) ["p","terms","point","x","y","weight","by_x","by_y"] rfl rfl (by decide +kernel)) rfl (@zaH _ _ _ _ (@zr _ _ _ rfl (@zr _ _ _ rfl (@zaj _)))) (@z8 _ _ _ _ (@pvx _ 1 _ _ rfl)) (fun _ _ _ _=>(@zak _ (K) _ _ _ (2) _ rfl rfl (@zk _ _ _ _ _ (@zi _ _ (0) _ (show (["i","j"]:List Str).Nodup by decide +kernel) rfl (Or.inl rfl) (by trivial)) (@zk _ _ _ _ _ (@zi _ _ (1) _ (show (["i","j"]:List Str).Nodup by decide +kernel) rfl (Or.inl rfl) (by trivial)) (@zK _) (by rfl)) (by rfl)) (by rfl) (by rfl))) (fun _ _ _ _=>(@zw _)) (fun _ _ _ _=>(@pvx _ 0 _ _ rfl)) (by intro _; rfl)) (@ze _) (by rfl)) (by decide) (by decide) (by rfl) (by rfl)) (@za _ _ _ _ _ (@pvx _ 5 _ _ rfl) (@ze _) (by rfl)) (by rfl)) (by rfl))) (by rfl)) (by decide) (by rfl) (by rfl)) (by rfl) (by trivial)) (by exact (@zd _ _ _ _ _ (@zm _ _ (7) _ _ _ _ zat.nd rfl (Or.inr rfl) (@zt _ _ _ _ _ _ _ _ _ _ _ _ _ _ _ _ G_moved_powers (hr.mono (by decide)) rfl T.m_moved_powers F_moved_powers.kp b_moved_powers .nil (@zW _) (@za _ _ _ _ _ (@pvx _ 0 _ _ rfl) (by exact (@za _ _ _ _ _ (@pvx _ 4 _ _ rfl) (@za _ _ _ _ _ (@zn _ _ _ _ _ _ _ _ _ (@zbm _ rfl) (by rfl) T.max_ boot_max (@za _ _ _ _ _ (@zG _ _ _ _ _ _ _ _ _ _ _ _ _ (CompSc.of (N':=["i","j"]) (ix:=[none,none]) (zh zao) ["p","terms","point","x","y","weight","by_x","by_y"] rfl rfl (by decide +kernel)) rfl (@zaH _ _ _ _ (@zr _ _ _ rfl (@zr _ _ _ rfl (@zaj _)))) (@z8 _ _ _ _ (@pvx _ 1 _ _ rfl)) (fun _ _ _ _=>(@zak _ (K) _ _ _ (2) _ rfl rfl (@zk _ _ _ _ _ (@zi _ _ (0) _ (show (["i","j"]:List Str).Nodup by decide +kernel) rfl (Or.inl rfl) (by trivial)) (@zk _ _ _ _ _ (@zi _ _ (1) _ (show (["i","j"]:List Str).Nodup by decide +kernel) rfl (Or.inl rfl) (by trivial)) (@zK _) (by rfl)) (by rfl)) (by rfl) (by rfl))) (fun _ _ _ _=>(@zw _)) (fun _ _ _ _=>(@pvx _ 1 _ _ rfl)) (by intro _; rfl)) (@ze _) (by rfl)) (by decide) (by decide) (by rfl) (by rfl)) (@za _ _ _ _ _ (@pvx _ 5 _ _ rfl) (@ze _) (by rfl)) (by rfl)) (by rfl))) (by rfl)) (by decide) (by rfl) (by rfl)) (by rfl) (by trivial)) (by exact (@zj _ _ _ (@zB _ _ _ _ (@zG _ _ _ _ _ _ _ _ _ _ _ _ _ (CompSc.of (N':=["i","j","weight","by_x","by_y","p"]) (ix:=[none,none,some 5,some 6,some 7,some 0]) (zh zao) ["p","terms","point","x","y","weight","by_x","by_y"] rfl rfl (by decide +kernel)) rfl (@zaH _ _ _ _ (@zr _ _ _ rfl (@zr _ _ _ rfl (@zaj _)))) (@z8 _ _ _ _ (@pvx _ 1 _ _ rfl)) (fun _ _ _ _=>(@zak _ (K) _ _ _ (2) _ rfl rfl (@zk _ _ _ _ _ (@zi _ _ (0) _ (show (["i","j","weight","by_x","by_y","p"]:List Str).Nodup by decide +kernel) rfl (Or.inr rfl) (by trivial)) (@zk _ _ _ _ _ (@zi _ _ (1) _ (show (["i","j","weight","by_x","by_y","p"]:List Str).Nodup by decide +kernel) rfl (Or.inr rfl) (by trivial)) (@zK _) (by rfl)) (by rfl)) (by rfl) (by rfl))) (fun _ _ _ _=>(@zw _)) (fun _ _ _ _=>(@zj7 _ _ _ _ _ _ _ _ _ _ _ _ _ _ _ _ _ _ _ _ _ (CompSc.of (N':=["u","v","by_x","i","by_y","j","p","weight"]) (ix:=[none,none,some 3,some 0,some 4,some 1,some 5,some 2]) ({ kind:=.function,names:=[(".0",.local),("i",.cell),("j",.cell),("range",.globalImplicit),("by_x",.cell),("by_y",.cell),("p",.cell),("weight",.cell)],isGenerator:=false,isCoroutine:=false }) ["i","j","weight","by_x","by_y","p"] (by with_unfolding_all rfl) rfl (by decide +kernel)) rfl (zeX (js:=[0]) (i:=0) (by decide)) (zeX (js:=[1]) (i:=1) (by decide)) (by decide) (by decide) (@zI _ _ _ _ _ _ rfl T.range_ (@za _ _ _ _ _ (@pvx _ 2 _ _ rfl) (@ze _) (by rfl)) (by rfl)) (fun _ _ _ _=>(@zi _ _ (0) _ (show (["u","v","by_x","i","by_y","j","p","weight"]:List Str).Nodup by decide +kernel) rfl (Or.inl rfl) (by trivial))) (fun _ _ _ _=>(@zw _)) (fun _ _ _ _=>(@zI _ _ _ _ _ _ rfl T.range_ (@za _ _ _ _ _ (@zg _ _ _ _ _ _ _ _ (@zV _) (@pvx _ 7 _ _ rfl) (@pvx _ 0 _ _ rfl)) (@ze _) (by rfl)) (by rfl))) (fun _ _ _ _=>(@zi _ _ (1) _ (show (["u","v","by_x","i","by_y","j","p","weight"]:List Str).Nodup by decide +kernel) rfl (Or.inl rfl) (by trivial))) (fun _ _ _ _=>(@zw _)) (fun _ _ _ _=>(@zg _ _ _ _ _ _ _ _ (@zC _) (@zg _ _ _ _ _ _ _ _ (@zD _) (@zu _ _ _ _ _ _ _ (@zaq _ (K) rfl) (@zu _ _ _ _ _ _ _ (@zaq _ (K) rfl) (@pvx _ 2 _ _ rfl) (@pvx _ 3 _ _ rfl) (fun _ _=>rfl)) (@pvx _ 0 _ _ rfl) (fun _ _=>rfl)) (@zu _ _ _ _ _ _ _ (@zaq _ (K) rfl) (@zu _ _ _ _ _ _ _ (@zaq _ (K) rfl) (@pvx _ 4 _ _ rfl) (@pvx _ 5 _ _ rfl) (fun _ _=>rfl)) (@pvx _ 1 _ _ rfl) (fun _ _=>rfl))) (@pvx _ 6 _ _ rfl))) (by intro _; rfl) (by intros; rfl))) (by intro _; rfl)))))))))),?_⟩
  have hsl:=sizeLine_eq
  have hbl:bs.length=ts.length:=by rw [Paired.length hpt,List.length_map]
  refine⟨_,rfl,pt,_,rfl,SqT.of hp,rfl,_,_,rfl,_,_,rfl,_,_,rfl,rfl,?_⟩
  refine⟨_,rfl,_,rfl,_,rfl,tl,rfl,⟨_,SqL.of htl⟩,zhn htl hpt hlen (fun t=>(t.1:Int)) (fun T t R B ht hT hR=>gY2 hT ⟨_,rfl,hR⟩) fun D hD=>?_⟩
  refine⟨D,ts.map fun t=>(t.1:Int),rfl,SqL.of zc,by simpa using hne,fun M hM hM'=>?_⟩
  obtain⟨mx,rfl,mx1,mx2⟩:=zhm (ns:=ts.map (·.1)) (by rw [List.map_map]; exact hM) (by rw [List.map_map]; exact hM')
  have mx4:mx≤400:=by obtain⟨t,ht,rfl⟩:=List.mem_map.mp mx1; exact (hts t ht).1
  have s0:=zb (o:=.lst ((ts.map fun t:Tm=>(t.1:Int)).map V.int)) hD
  generalize upd H D (.lst ((ts.map fun t:Tm=>(t.1:Int)).map V.int))=H0 at s0 ⊢
  refine⟨_,rfl,p,x,mx,wt,rfl,p5,p97,x0,x1,by omega,w1,by omega,fun l1 ls1 H1 hl1 s1 h1 g1=>?_⟩
  have s01:=s0.trans s1
  refine⟨_,rfl,_,rfl,_,rfl,tl,rfl,⟨_,SqL.of (s01 _ _ htl)⟩,zhn (s01 _ _ htl) (hpt.same s01) hlen (fun t=>(t.2:Int)) (fun T t R B ht hT hR=>gY2 hT ⟨_,rfl,hR⟩) fun D2 hD2=>?_⟩
  refine⟨D2,ts.map fun t=>(t.2:Int),rfl,SqL.of zc,by simpa using hne,fun M hM hM'=>?_⟩
  obtain⟨my,rfl,my1,my2⟩:=zhm (ns:=ts.map (·.2)) (by rw [List.map_map]; exact hM) (by rw [List.map_map]; exact hM')
  have my4:my≤400:=by obtain⟨t,ht,rfl⟩:=List.mem_map.mp my1; exact (hts t ht).2
  have s2:=zb (o:=.lst ((ts.map fun t:Tm=>(t.2:Int)).map V.int)) hD2
  generalize upd H1 D2 (.lst ((ts.map fun t:Tm=>(t.2:Int)).map V.int))=H2 at s2 ⊢
  refine⟨_,rfl,p,y,my,wt,rfl,p5,p97,y0,y1,by omega,w1,by omega,fun l2 ls2 H3 hl2 s3 h3 g3=>?_⟩
  have s13:=s2.trans s3
  have sA:=s01.trans s13
  have h1:=s13 _ _ h1
  have g1:=g1.same s13
  refine⟨_,rfl,tl,rfl,⟨_,SqL.of (sA _ _ htl)⟩,zM (n:=ts.length) (fun m ys H'=>zy H3 H'∧∃ us:List Addr,ys=us.map V.ref∧LsA H' us ((ts.take m).map fun t=>(pco (x,y,wt)).map fun c=>cv t c % p)) ⟨fun _ _ e=>e,[],rfl,.nil⟩ ?_ ?_ ?_ ?_⟩
  ·rintro m ys H4 hm ⟨s4,_⟩
   exact⟨_,.ref (bs[m]'(by omega)),SqL.of ((sA.trans s4) _ _ htl),by rw [List.getElem?_map,List.getElem?_eq_getElem (by omega)]; rfl⟩
  ·rintro ys H4 ⟨s4,_⟩
   exact⟨_,SqL.of ((sA.trans s4) _ _ htl),by rw [List.length_map]; omega⟩
  ·rintro m z ys H4 H5 hm ⟨s4,us,rfl,hus⟩ ⟨rfl,hx⟩
   have sA4:=sA.trans s4
   obtain⟨b,rfl,hbm⟩:=z9 (hx _ (SqL.of (sA4 _ _ htl)))
   obtain⟨q',hq',hT⟩:=Paired.get (hpt.same sA4) hbm
   rw [List.getElem?_map] at hq'
   obtain⟨t,ht,rfl⟩:=Option.map_eq_some_iff.mp hq'
   have htm:=List.mem_of_getElem? ht
   have hz:us.length=m:=by rw [Paired.length hus,List.length_map,List.length_take]; omega
   have t1:t.1 < mx+1:=Nat.lt_succ_of_le (mx2 _ (List.mem_map.mpr ⟨t,htm,rfl⟩))
   have t2:t.2 < my+1:=Nat.lt_succ_of_le (my2 _ (List.mem_map.mpr ⟨t,htm,rfl⟩))
   have h4x:=s4 _ _ h1
   have h4y:=s4 _ _ h3
   have g4x:=g1.same s4
   have g4y:=g3.same s4
   refine gY2 (SqT.of hT) ?_
   have ew:((wt:Int)).toNat=wt:=by omega
   refine⟨_,rfl,_,rfl,by omega,by omega,?_⟩
   rw [ew]
   refine zkN (n:=wt) (fun u ys H'=>H'=H5∧ys=(nAt t x y p wt u).map V.int) ⟨rfl,rfl⟩ (fun i ys H' hi _=>hi) (fun ys H' _=>Nat.le_refl _) ?_ ?_
   ·rintro u xx ys H6 H7 hu ⟨rfl,rfl⟩ ⟨rfl,rfl⟩
    rw [show ((0:Int)+(u:Int))=(u:Int) from Int.zero_add _]
    refine gY ?_
    have ewu:((wt:Int) - (u:Int)).toNat=wt - u:=by omega
    refine⟨_,rfl,_,rfl,_,_,rfl,rfl,_,rfl,by omega,by omega,?_⟩
    rw [ewu]
    refine zkN (n:=wt - u) (fun v ys H'=>H'=H7∧ys=(nAt t x y p wt u++(List.range v).map fun v=>cv t ⟨x,y,u,v⟩ % p).map V.int) ⟨rfl,by simp⟩ (fun i ys H' hi _=>hi) (fun ys H' _=>Nat.le_refl _) ?_ ?_
    ·rintro v yy ys H8 H9 hv ⟨rfl,rfl⟩ ⟨rfl,rfl⟩
     rw [show ((0:Int)+(v:Int))=(v:Int) from Int.zero_add _]
     obtain⟨bx,ax1,ax2,ax3⟩:=zjy (l:=l1) g4x t1 hu
     obtain⟨b2,ay1,ay2,ay3⟩:=zjy (l:=l2) g4y t2 (show v < wt by omega)
     have r0:=Int.emod_nonneg (cf x t.1 u) (show p≠0 by omega)
     have r1:=Int.emod_lt_of_pos (cf x t.1 u) (show 0 < p by omega)
     have nl:=zho t x y p wt u
     have nm:wt*u≤9*9:=Nat.mul_le_mul (by omega) (by omega)
     refine gY ?_
     refine⟨_,rfl,_,rfl,l1,_,_,_,rfl,rfl,SqL.of h4x,ax1,_,rfl,bx,_,_,_,rfl,rfl,SqL.of ax2,ax3,_,rfl,_,rfl,l2,_,_,_,rfl,rfl,SqL.of h4y,ay1,_,rfl,b2,_,_,_,rfl,rfl,SqL.of ay2,ay3,_,_,rfl,rfl,.inl ⟨by omega,by omega⟩,_,rfl,_,_,rfl,rfl,by omega,?_⟩
     refine⟨by rw [List.length_map,List.length_append,List.length_map,List.length_range]; omega,rfl,?_⟩
     rw [List.range_succ,List.map_append,List.map_append,List.map_append,List.map_append,List.append_assoc]
     have:cf x t.1 u % p*(cf y t.2 v % p) % p=cv t ⟨x,y,u,v⟩ % p:=by unfold cv; rw [← Int.mul_emod]
     show _++(_++[V.int (cf x t.1 u % p*(cf y t.2 v % p) % p)])=_
     rw [this]
     rfl
    ·rintro ys H8 ⟨rfl,rfl⟩
     refine⟨rfl,?_⟩
     rw [zf0]
   ·rintro ys H6 ⟨rfl,rfl⟩ D3 hD3
    refine⟨by rw [List.length_map]; omega,s4.trans (zb hD3),us++[D3],by simp,?_⟩
    rw [take_snoc ht,List.map_append]
    refine Paired.snoc (hus.same (zb hD3)) ?_
    rw [zc,zku]
  ·rintro ys H4 D3 ⟨s4,us,rfl,hus⟩ hD3
   rw [List.take_of_length_le (Nat.le_refl _)] at hus
   have sf:=sA.trans s4
   exact q D3 us _ (sf.free hD3) (sf.trans (zb hD3)) zc (hus.same (zb hD3))
end
end My
end
section
set_option maxHeartbeats 3999000
namespace My
open PySem L2 PyProof.Rows
section
variable {P:Program} {w:World} {K:PySem.W.Frag} {mg:Str→Option Value} {base:Heap} {t:Adr}
def W3 (H:Hp):List Addr→List (Int×Int×Nat)→Prop:=Paired fun b q=>H b=some (.tup [.int q.1,.int q.2.1,.int (q.2.2:Int)])
theorem W3.same {H H':Hp} (s:zy H H') {bs:List Addr} {pts:List (Int×Int×Nat)} (h:W3 H bs pts):W3 H' bs pts:=Paired.mono (fun _ _ z=>s _ _ z) h
def zf1 (p:Int) (pts:List (Int×Int×Nat)):Prop:=∀ q∈pts,0≤q.1∧q.1 < p∧0≤q.2.1∧q.2.1 < p∧1≤q.2.2∧q.2.2≤9
theorem zjz {p:Int} {pts:List (Int×Int×Nat)} {q:Int×Int×Nat} {t:Tm}:zau p (pts++[q]) t=zau p pts t++(pco q).map fun c=>cv t c % p:=by
 unfold zau cos
 rw [List.flatMap_append,List.map_append]
 simp
theorem zjA {pts:List (Int×Int×Nat)} (i:Nat):(cos (pts.take i)).length≤(cos pts).length:=by
 conv=>rhs; rw [← List.take_append_drop i pts]
 unfold cos
 rw [List.flatMap_append,List.length_append]
 omega
def zee (K:PySem.W.Frag):Sp:=fun vs H Q _=>∃ (p:Int) (tl pl:Addr) (bs cs:List Addr) (ts:List Tm) (pts:List (Int×Int×Nat)),vs = [.int p,.ref tl,.ref pl]∧5≤p∧p≤97∧H tl=some (.lst (bs.map V.ref))∧PtB H bs (ts.map tI)∧ts≠[]∧ts.length≤200∧(∀ t∈ts,t.1≤400∧t.2≤400)∧H pl=some (.lst (cs.map V.ref))∧W3 H cs pts∧zf1 p pts∧(cos pts).length≤800∧pts.length≤1000 ∧
 ∀ (l:Addr) (ls:List Addr) (H':Hp),H l=none→zy H H'→H' l=some (.lst (ls.map V.ref))→LsA H' ls (ts.map (zau p pts))→Q (.ref l) H'
theorem za9:FnScope ["p","terms","points","vectors","point"] ["p","terms","points"] (zh zaD):=⟨rfl,rfl,rfl,by decide +kernel,rfl,by decide +kernel,by decide +kernel⟩
theorem zef {fd:FuncData} (T:Txt K mg t) (F:Fun K "vectors_of" "vectors_of" zaD t.vectors_of fd):FnOk P w K mg base CX0 4 t.vectors_of fd ["p","terms","points"] (zee K):=by
 obtain⟨fd_numbers_at,F_numbers_at,b_numbers_at⟩:=T.f_numbers_at
 have G_numbers_at:=zed (P:=P) (w:=w) (base:=base) T F_numbers_at
 refine F.ok za9 (fun vs H Q E h=>?_) (fun cdv A outer s H vs Q E hr h=>?_)
 ·obtain⟨p,tl,pl,bs,cs,ts,pts,rfl,_⟩:=h
  rfl
 ·obtain⟨p,tl,pl,bs,cs,ts,pts,rfl,p5,p97,htl,hpt,hne,hlen,hts,hpl,hcs,hg,hL,hn,q⟩:=h
  refine⟨_,(@zd _ _ _ _ _ (@zaL _ _ _ _ _ _ _ _ _ _ _ _ _ (3) _ _ _ za9.nd rfl (Or.inl rfl) (CompSc.of (N':=["term"]) (ix:=[none]) (zh zaD) ["p","terms","points","vectors","point"] rfl rfl (by decide +kernel)) rfl (@z0 _ _ rfl) (@z8 _ _ _ _ (@pvx _ 1 _ _ rfl)) (fun _ _ _ _=>(@zi _ _ (0) _ (show (["term"]:List Str).Nodup by decide +kernel) rfl (Or.inl rfl) (by trivial))) (fun _ _ _ _=>(@zw _)) (fun _ _ _ _=>(@zN _ _ _ _ (@ze _))) (by rfl) (by intro _; rfl) (by trivial)) (by exact (@zd _ _ _ _ _ (@zai _ _ _ _ _ _ _ _ PassesOwn.never rfl (@z8 _ _ _ _ (@pvx _ 2 _ _ rfl)) (@zi _ _ (4) _ za9.nd rfl (Or.inl rfl) (by trivial)) (@zj _ _ _ (@zaL _ _ _ _ _ _ _ _ _ _ _ _ _ (3) _ _ _ za9.nd rfl (Or.inl rfl) (CompSc.of (N':=["vector","numbers"]) (ix:=[none,none]) (zh zaD) ["p","terms","points","vectors","point"] rfl rfl (by decide +kernel)) rfl (@zaH _ _ _ _ (@zr _ _ _ rfl (@zr _ _ _ rfl (@zaj _)))) (@zdt _ _ _ _ _ _ _ _ _ rfl T.zip_ (@za _ _ _ _ _ (@pvx _ 3 _ _ rfl) (@za _ _ _ _ _ (@zt _ _ _ _ _ _ _ _ _ _ _ _ _ _ _ _ G_numbers_at (hr.mono (by decide)) rfl T.m_numbers_at F_numbers_at.kp b_numbers_at .nil (@zW _) (@za _ _ _ _ _ (@pvx _ 0 _ _ rfl) (@za _ _ _ _ _ (@pvx _ 1 _ _ rfl) (@za _ _ _ _ _ (@pvx _ 4 _ _ rfl) (@ze _) (by rfl)) (by rfl)) (by rfl)) (by decide) (by rfl) (by rfl)) (@ze _) (by rfl)) (by rfl)) (by rfl) (by rfl)) (fun _ _ _ _=>(@zak _ (K) _ _ _ (2) _ rfl rfl (@zk _ _ _ _ _ (@zi _ _ (0) _ (show (["vector","numbers"]:List Str).Nodup by decide +kernel) rfl (Or.inl rfl) (by trivial)) (@zk _ _ _ _ _ (@zi _ _ (1) _ (show (["vector","numbers"]:List Str).Nodup by decide +kernel) rfl (Or.inl rfl) (by trivial)) (@zK _) (by rfl)) (by rfl)) (by rfl) (by rfl))) (fun _ _ _ _=>(@zw _)) (fun _ _ _ _=>(@zg _ _ _ _ _ _ _ _ (@zct _) (@pvx _ 0 _ _ rfl) (@pvx _ 1 _ _ rfl))) (by rfl) (by intro _; rfl) (by trivial))) (by intro _; rfl)) (by exact (@zj _ _ _ (@zB _ _ _ _ (@pvx _ 3 _ _ rfl))))))),?_⟩
  have hsl:=sizeLine_eq
  have hbl:bs.length=ts.length:=by rw [Paired.length hpt,List.length_map]
  have hcl:=Paired.length hcs
  refine⟨_,rfl,tl,rfl,⟨_,SqL.of htl⟩,zM (n:=ts.length) (fun m ys H'=>zy H H'∧∃ us:List Addr,ys=us.map V.ref∧LsA H' us ((ts.take m).map (zau p []))) ⟨fun _ _ e=>e,[],rfl,.nil⟩ ?_ ?_ ?_ ?_⟩
  ·rintro m ys H4 hm ⟨s4,_⟩
   exact⟨_,.ref (bs[m]'(by omega)),SqL.of (s4 _ _ htl),by rw [List.getElem?_map,List.getElem?_eq_getElem (by omega)]; rfl⟩
  ·rintro ys H4 ⟨s4,_⟩
   exact⟨_,SqL.of (s4 _ _ htl),by rw [List.length_map]; omega⟩
  ·rintro m z ys H4 H5 hm ⟨s4,us,rfl,hus⟩ ⟨rfl,hx⟩
   have hz:us.length=m:=by rw [Paired.length hus,List.length_map,List.length_take]; omega
   refine gY ?_
   refine⟨Nat.zero_le _,fun D hD=>⟨by rw [List.length_map]; omega,s4.trans (zb hD),us++[D],by simp,?_⟩⟩
   have ht:ts[m]? = some (ts[m]'hm):=List.getElem?_eq_getElem hm
   rw [take_snoc ht,List.map_append]
   exact Paired.snoc (hus.same (zb hD)) zc
  ·rintro ys H4 V0 ⟨s4,us,rfl,hus⟩ hV
   rw [List.take_of_length_le (Nat.le_refl _)] at hus
   have sV:=s4.trans (zb (o:=.lst (us.map V.ref)) hV)
   refine⟨_,rfl,pl,rfl,⟨_,SqL.of (sV _ _ hpl)⟩,zba (K:=K) (a:=pl) (xs:=cs.map V.ref) (fun i σ H'=>∃ (vl:Addr) (ls:List Addr) (e4:Option V),σ = [some (.int p),some (.ref tl),some (.ref pl),some (.ref vl),e4]∧zy H H'∧H vl=none∧H' vl=some (.lst (ls.map V.ref))∧LsA H' ls (ts.map (zau p (pts.take i)))) ⟨V0,us,none,rfl,sV,s4.free hV,zc,hus.same (zb hV)⟩ ?_ ?_ ?_⟩
   ·rintro i σ H' _ ⟨vl,ls,e4,rfl,s,_⟩
    exact SqL.of (s _ _ hpl)
   ·rintro i x σ H5 hx ⟨vl,ls,e4,rfl,s5,hvl,h5,hls⟩
    obtain⟨b,rfl,hb⟩:=z9 hx
    obtain⟨⟨px,py,pw⟩,hq,hqb⟩:=Paired.get hcs hb
    obtain⟨g1,g2,g3,g4,g5,g6⟩:=hg _ (List.mem_of_getElem? hq)
    refine⟨_,rfl,_,rfl,_,rfl,_,rfl,p,tl,b,px,py,pw,bs,ts,rfl,p5,p97,g1,g2,g3,g4,g5,g6,s5 _ _ htl,hpt.same s5,hne,hlen,hts,s5 _ _ hqb,fun nl nls H6 hnl s6 h6 g6'=>?_⟩
    have h6v:=s6 _ _ h5
    have hls6:=hls.same s6
    have l1:ls.length=ts.length:=by rw [Paired.length hls,List.length_map]
    have l2:nls.length=ts.length:=by rw [Paired.length g6',List.length_map]
    refine⟨vl,nl,_,_,rfl,SqL.of h6v,SqL.of h6,zM (n:=ts.length) (fun m ys H'=>zy H6 H'∧∃ us:List Addr,ys=us.map V.ref∧LsA H' us ((ts.take m).map (zau p (pts.take (i+1))))) ⟨fun _ _ e=>e,[],rfl,.nil⟩ ?_ ?_ ?_ ?_⟩
    ·rintro m ys H7 hm ⟨s7,_⟩
     exact⟨_,_,.ref (ls[m]'(by omega)),.ref (nls[m]'(by omega)),SqL.of (s7 _ _ h6v),SqL.of (s7 _ _ h6),by rw [List.getElem?_map,List.getElem?_eq_getElem (by omega)]; rfl,by rw [List.getElem?_map,List.getElem?_eq_getElem (by omega)]; rfl⟩
    ·rintro ys H7 ⟨s7,_⟩
     exact⟨_,_,SqL.of (s7 _ _ h6v),SqL.of (s7 _ _ h6),by rw [List.length_map,List.length_map]; omega⟩
    ·rintro m z ys H7 H8 hm ⟨s7,us,rfl,hus⟩ ⟨T,u,v,hT,rfl,rfl,hu,hv⟩
     obtain⟨b1,rfl,hb1⟩:=z9 (hu _ (SqL.of (s7 _ _ h6v)))
     obtain⟨b2,rfl,hb2⟩:=z9 (hv _ (SqL.of (s7 _ _ h6)))
     obtain⟨w1,hw1,hw1b⟩:=Paired.get hls6 hb1
     obtain⟨w2,hw2,hw2b⟩:=Paired.get g6' hb2
     have ht:ts[m]? = some (ts[m]'hm):=List.getElem?_eq_getElem hm
     rw [List.getElem?_map,ht] at hw1 hw2
     cases hw1
     cases hw2
     have hz:us.length=m:=by rw [Paired.length hus,List.length_map,List.length_take]; omega
     refine gY2 (SqT.of zc) ?_
     have sT:=s7.trans (zb (o:=.tup [.ref b1,.ref b2]) hT)
     have husT:=hus.same (zb (o:=.tup [.ref b1,.ref b2]) hT)
     generalize upd H7 T (.tup [.ref b1,.ref b2])=H8 at sT husT ⊢
     have lv:=zjA (pts:=pts) (i+1)
     have ev:zau p (pts.take (i+1)) (ts[m]'hm)=zau p (pts.take i) (ts[m]'hm)++(pco (px,py,pw)).map fun c=>cv (ts[m]'hm) c % p:=by rw [take_snoc hq,zjz]
     have lz:(zau p (pts.take i) (ts[m]'hm)).length+((pco (px,py,pw)).map fun c=>cv (ts[m]'hm) c % p).length=(cos (pts.take (i+1))).length:=by rw [← List.length_append,← ev,zhi]
     refine⟨_,rfl,_,rfl,b1,b2,_,_,rfl,rfl,sT _ _ hw1b,sT _ _ hw2b,(by simp only [List.length_map] at lz ⊢; omega),fun D hD=>⟨by rw [List.length_map]; omega,sT.trans (zb hD),us++[D],by simp,?_⟩⟩
     rw [take_snoc ht,List.map_append]
     refine Paired.snoc (husT.same (zb hD)) ?_
     rw [zc,ev,List.map_append]
    ·rintro ys H7 D ⟨s7,us,rfl,hus⟩ hD
     rw [List.take_of_length_le (Nat.le_refl _)] at hus
     have s57:=s6.trans s7
     exact⟨D,us,_,rfl,(s5.trans s57).trans (zb hD),(s5.trans s57).free hD,zc,hus.same (zb hD)⟩
   ·rintro σ H5 ⟨vl,ls,e4,rfl,s5,hvl,h5,hls⟩
    rw [List.length_map,hcl,List.take_of_length_le (Nat.le_refl _)] at hls
    exact⟨_,rfl,q vl ls _ hvl s5 h5 hls⟩
theorem zgO:FnScope ["p","vector","times","other"] ["p","vector","times","other"] (zh zbK):=⟨rfl,rfl,rfl,by decide +kernel,rfl,by decide +kernel,by decide +kernel⟩
theorem zgP {fd:FuncData} (T:Txt K mg t) (F:Fun K "without" "without" zbK t.without fd):FnOk P w K mg base CX0 1 t.without fd ["p","vector","times","other"] (zgD K):=by
 refine F.ok zgO (fun vs H Q E h=>?_) (fun cdv A outer s H vs Q E hr h=>?_)
 ·obtain⟨p,tm,a,b,as,bs,rfl,_⟩:=h
  rfl
 ·obtain⟨p,tm,a,b,as,bs,rfl,ha,hb,hl,hn,p0,t0,t1,q⟩:=h
  refine⟨_,(@zj _ _ _ (@zB _ _ _ _ (@zG _ _ _ _ _ _ _ _ _ _ _ _ _ (CompSc.of (N':=["number","less","times","p"]) (ix:=[none,none,some 2,some 0]) (zh zbK) ["p","vector","times","other"] rfl rfl (by decide +kernel)) rfl (@zaH _ _ _ _ (@zr _ _ _ rfl (@zr _ _ _ rfl (@zaj _)))) (@zdt _ _ _ _ _ _ _ _ _ rfl T.zip_ (@za _ _ _ _ _ (@pvx _ 1 _ _ rfl) (@za _ _ _ _ _ (@pvx _ 3 _ _ rfl) (@ze _) (by rfl)) (by rfl)) (by rfl) (by rfl)) (fun _ _ _ _=>(@zak _ (K) _ _ _ (2) _ rfl rfl (@zk _ _ _ _ _ (@zi _ _ (0) _ (show (["number","less","times","p"]:List Str).Nodup by decide +kernel) rfl (Or.inl rfl) (by trivial)) (@zk _ _ _ _ _ (@zi _ _ (1) _ (show (["number","less","times","p"]:List Str).Nodup by decide +kernel) rfl (Or.inl rfl) (by trivial)) (@zK _) (by rfl)) (by rfl)) (by rfl) (by rfl))) (fun _ _ _ _=>(@zw _)) (fun _ _ _ _=>(@zg _ _ _ _ _ _ _ _ (@zC _) (@zg _ _ _ _ _ _ _ _ (@zV _) (@pvx _ 0 _ _ rfl) (@zg _ _ _ _ _ _ _ _ (@zD _) (@pvx _ 2 _ _ rfl) (@pvx _ 1 _ _ rfl))) (@pvx _ 3 _ _ rfl))) (by intro _; rfl)))),?_⟩
  have hsl:=sizeLine_eq
  refine⟨_,rfl,_,rfl,a,b,_,_,rfl,SqL.of ha,SqL.of hb,zeA (n:=as.length) (f:=fun x y=>(x - tm*y) % p) ha hb (Nat.le_refl _) (by omega) (.inl (Nat.le_refl _)) (by omega) ?_ ?_⟩
  ·intro j u w H6 T R B hu hv s6 hT hR
   refine gY2 (SqT.of zc) ?_
   exact⟨_,rfl,_,rfl,_,rfl,_,_,rfl,rfl,.inl ⟨by omega,by omega⟩,_,_,rfl,rfl,_,rfl,_,_,rfl,rfl,p0,hR⟩
  ·intro D H6 s6 hD
   exact q D _ (s6.free hD) (s6.trans (zb hD)) zc
def zcA (K:PySem.W.Frag):Sp:=fun vs H Q _=>∃ (p:Int) (a:Addr) (ls:List Addr) (vv:List (List Int)) (L:Nat),vs = [.int p,.ref a]∧H a=some (.lst (ls.map V.ref))∧LsA H ls vv∧vv≠[]∧vv.length≤200∧L≤800∧(∀ v∈vv,v.length=L∧∀ c∈v,0≤c∧c < p)∧p∈zH ∧
 (∀ H',zy H H'→Indep p L vv→Q .non H')∧(∀ (l:Addr) (c:List Int) (m:Nat) (H':Hp),H l=none→zy H H'→H' l=some (.lst (c.map V.int))→IsP p (m+1) c→m < vv.length→gl c m=1→Dep p L vv c→zkl p L m vv→Q (.ref l) H')
theorem zA:FnScope ["p","vectors","length","cleared","count","vector","whole","lead","other","leads","factor"] ["p","vectors"] (zh zae):=⟨rfl,rfl,rfl,by decide +kernel,rfl,by decide +kernel,by decide +kernel⟩
theorem zcR {fd:FuncData} (T:Txt K mg t) (F:Fun K "first_relation" "first_relation" zae t.first_relation fd):FnOk P w K mg base CX0 2 t.first_relation fd ["p","vectors"] (zcA K):=by
 obtain⟨fd_without,F_without,b_without⟩:=T.f_without
 have G_without:=zgP (P:=P) (w:=w) (base:=base) T F_without
 obtain⟨fd_inverse,F_inverse,b_inverse⟩:=T.f_inverse
 have G_inverse:=zgN (P:=P) (w:=w) (base:=base) T F_inverse
 refine F.ok zA (fun vs H Q E h=>?_) (fun cdv A outer s H vs Q E hr h=>?_)
 ·obtain⟨p,a,ls,vv,L,rfl,_⟩:=h
  rfl
 ·obtain⟨p,a,ls,vv,L,rfl,ha,hls,hne,hN,hL,hvv,hp,qn,qs⟩:=h
  refine⟨_,(@zd _ _ _ _ _ (@zm _ _ (2) _ _ _ _ zA.nd rfl (Or.inl rfl) (@zn _ _ _ _ _ _ _ _ _ (@zx _) (by rfl) T.len_ boot_len (@za _ _ _ _ _ (@zu _ _ _ _ _ _ _ (@zq _) (@pvx _ 1 _ _ rfl) (@zf _ _ _ _) (fun _ _=>rfl)) (@ze _) (by rfl)) (by decide) (by decide) (by rfl) (by rfl)) (by rfl) (by trivial)) (by exact (@zd _ _ _ _ _ (@zm _ _ (3) _ _ _ _ zA.nd rfl (Or.inl rfl) (@zN _ _ _ _ (@ze _)) (by rfl) (by trivial)) (by exact (@zd _ _ _ _ _ (@zai _ _ _ _ _ _ _ _ PassesOwn.never rfl (@zfx _ _ _ _ _ _ _ _ rfl T.enumerate_ (@za _ _ _ _ _ (@pvx _ 1 _ _ rfl) (@ze _) (by rfl)) (by rfl)) (@za0 _ _ _ _ _ _ rfl (@zk _ _ _ _ _ (@zi _ _ (4) _ zA.nd rfl (Or.inl rfl) (by trivial)) (@zk _ _ _ _ _ (@zi _ _ (5) _ zA.nd rfl (Or.inl rfl) (by trivial)) (@zK _) (by rfl)) (by rfl)) (by rfl) (by rfl)) (@zd _ _ _ _ _ (@zm _ _ (6) _ _ _ _ zA.nd rfl (Or.inr rfl) (@zg _ _ _ _ _ _ _ _ (@zct _) (@pvx _ 5 _ _ rfl) (@zg _ _ _ _ _ _ _ _ (@zgh _) (@zN _ _ _ _ (@za _ _ _ _ _ (@zf _ _ _ _) (@ze _) (by rfl))) (@zn _ _ _ _ _ _ _ _ _ (@zx _) (by rfl) T.len_ boot_len (@za _ _ _ _ _ (@pvx _ 1 _ _ rfl) (@ze _) (by rfl)) (by decide) (by decide) (by rfl) (by rfl)))) (by rfl) (by trivial)) (by exact (@zd _ _ _ _ _ (@zbo _ _ _ _ _ _ (@zf _ _ _ _) (@zeN _ _ _ _ _ _ _ (@pvx _ 6 _ _ rfl) (@zg _ _ _ _ _ _ _ _ (@zJ _) (@pvx _ 2 _ _ rfl) (@pvx _ 4 _ _ rfl)) set_list (by intro _; rfl)) (by rfl) (by rfl) (by rfl)) (by exact (@zd _ _ _ _ _ (@zai _ _ _ _ _ _ _ _ PassesOwn.never rfl (@z8 _ _ _ _ (@pvx _ 3 _ _ rfl)) (@za0 _ _ _ _ _ _ rfl (@zk _ _ _ _ _ (@zi _ _ (7) _ zA.nd rfl (Or.inl rfl) (by trivial)) (@zk _ _ _ _ _ (@zi _ _ (8) _ zA.nd rfl (Or.inl rfl) (by trivial)) (@zK _) (by rfl)) (by rfl)) (by rfl) (by rfl)) (@zj _ _ _ (@zm _ _ (6) _ _ _ _ zA.nd rfl (Or.inr rfl) (@zt _ _ _ _ _ _ _ _ _ _ _ _ _ _ _ _ G_without (hr.mono (by decide)) rfl T.m_without F_without.kp b_without .nil (@zW _) (@za _ _ _ _ _ (@pvx _ 0 _ _ rfl) (by exact (@za _ _ _ _ _ (@pvx _ 6 _ _ rfl) (@za _ _ _ _ _ (@zu _ _ _ _ _ _ _ (@zq _) (@pvx _ 6 _ _ rfl) (@pvx _ 7 _ _ rfl) (fun _ _=>rfl)) (@za _ _ _ _ _ (@pvx _ 8 _ _ rfl) (@ze _) (by rfl)) (by rfl)) (by rfl))) (by rfl)) (by decide) (by rfl) (by rfl)) (by rfl) (by trivial))) (by intro _; rfl)) (by exact (@zd _ _ _ _ _ (@zaL _ _ _ _ _ _ _ _ _ _ _ _ _ (9) _ _ _ zA.nd rfl (Or.inl rfl) (CompSc.of (N':=["at","whole"]) (ix:=[none,some 6]) (zh zae) ["p","vectors","length","cleared","count","vector","whole","lead","other","leads","factor"] rfl rfl (by decide +kernel)) rfl (@z0 _ _ rfl) (@zI _ _ _ _ _ _ rfl T.range_ (@za _ _ _ _ _ (@pvx _ 2 _ _ rfl) (@ze _) (by rfl)) (by rfl)) (fun _ _ _ _=>(@zi _ _ (0) _ (show (["at","whole"]:List Str).Nodup by decide +kernel) rfl (Or.inl rfl) (by trivial))) (fun _ _ _ _=>(@zbG _ _ _ (@zz _ _ _ _ _ _ _ _ (@zc5 _) (@zu _ _ _ _ _ _ _ (@zaq _ (K) rfl) (@pvx _ 1 _ _ rfl) (@pvx _ 0 _ _ rfl) (fun _ _=>rfl)) (@zf _ _ _ _) (zF _)))) (fun _ _ _ _=>(@pvx _ 0 _ _ rfl)) (by rfl) (by intro _; rfl) (by trivial)) (by exact (@zd _ _ _ _ _ (@zaG _ _ _ _ _ _ _ _ (@zcs _ _ _ _ (@ziu _ _ _ (@pvx _ 9 _ _ rfl) (fun _=>rfl))) (@zj _ _ _ (@zB _ _ _ _ (@zbp _ _ _ _ _ _ _ _ _ _ zbQ (@pvx _ 6 _ _ rfl) (@zbt _ _ _ (@pvx _ 2 _ _ rfl)) (@zbt _ _ _ (@zg _ _ _ _ _ _ _ _ (@zJ _) (@zg _ _ _ _ _ _ _ _ (@zJ _) (@pvx _ 2 _ _ rfl) (@pvx _ 4 _ _ rfl)) (@zf _ _ _ _)))))) (@zY _)) (by exact (@zd _ _ _ _ _ (@zm _ _ (10) _ _ _ _ zA.nd rfl (Or.inr rfl) (@zt _ _ _ _ _ _ _ _ _ _ _ _ _ _ _ _ G_inverse (hr.mono (by decide)) rfl T.m_inverse F_inverse.kp b_inverse .nil (@zW _) (@za _ _ _ _ _ (@pvx _ 0 _ _ rfl) (@za _ _ _ _ _ (@zu _ _ _ _ _ _ _ (@zq _) (@pvx _ 6 _ _ rfl) (@zu _ _ _ _ _ _ _ (@zq _) (@pvx _ 9 _ _ rfl) (@zf _ _ _ _) (fun _ _=>rfl)) (fun _ _=>rfl)) (@ze _) (by rfl)) (by rfl)) (by decide) (by rfl) (by rfl)) (by rfl) (by trivial)) (by exact (@zj _ _ _ (@zaS _ _ _ _ (@zbF _ _ _ _ _ _ _ _ _ _ _ _ PySem.F.plainAttrs_list PySem.F.slot_list_append PySem.F.type_list_append (@za1 _) (@pvx _ 3 _ _ rfl) (@za _ _ _ _ _ (@zbg _ _ _ _ _ (@za _ _ _ _ _ (@zu _ _ _ _ _ _ _ (@zq _) (@pvx _ 9 _ _ rfl) (@zf _ _ _ _) (fun _ _=>rfl)) (@za _ _ _ _ _ (@zG _ _ _ _ _ _ _ _ _ _ _ _ _ (CompSc.of (N':=["number","factor","p"]) (ix:=[none,some 10,some 0]) (zh zae) ["p","vectors","length","cleared","count","vector","whole","lead","other","leads","factor"] rfl rfl (by decide +kernel)) rfl (@z0 _ _ rfl) (@z8 _ _ _ _ (@pvx _ 6 _ _ rfl)) (fun _ _ _ _=>(@zi _ _ (0) _ (show (["number","factor","p"]:List Str).Nodup by decide +kernel) rfl (Or.inl rfl) (by trivial))) (fun _ _ _ _=>(@zw _)) (fun _ _ _ _=>(@zg _ _ _ _ _ _ _ _ (@zC _) (@zg _ _ _ _ _ _ _ _ (@zD _) (@pvx _ 0 _ _ rfl) (@pvx _ 1 _ _ rfl)) (@pvx _ 2 _ _ rfl))) (by intro _; rfl)) (@ze _) (by rfl)) (by rfl))) (@ze _) (by rfl)) (by rfl) (by rfl) (by rfl) (by rfl) (by rfl)) (by rfl))))))))))))))) (by intro _; rfl)) (by exact (@zj _ _ _ (@zB _ _ _ _ (@zcU _ _ _))))))))),?_⟩
  have hsl:=sizeLine_eq
  have rp:=zU hp
  have p0:0 < p:=by omega
  have hll:=hls.length
  have hN0:0 < vv.length:=List.length_pos_iff.mpr hne
  obtain⟨l0,hl0⟩:∃ l0,ls[0]? = some l0:=⟨ls[0]'(by omega),by simp⟩
  obtain⟨v0,hv0,hv0a⟩:=Paired.get hls hl0
  have hv0L:=(hvv v0 (List.mem_of_getElem? hv0)).1
  refine⟨_,rfl,a,_,_,.ref l0,rfl,rfl,SqL.of ha,zL (j:=0) (by rw [List.getElem?_map,hl0]; rfl),l0,_,rfl,.inl (SqL.of hv0a),?_⟩
  rw [List.length_map,hv0L]
  refine⟨by show 0≤sizeLine; omega,fun ca hca=>?_⟩
  have u1:=zb (o:=.lst []) hca
  refine⟨_,rfl,a,_,rfl,SqL.of (u1 _ _ ha),zgj (n:=vv.length) (fun i σ H'=>∃ (cs:List Addr) (cl:List (Nat×List Int)) (e4 e5 e6 e7 e8 e9 e10:Option V),σ = [some (.int p),some (.ref a),some (.int (L:Int)),some (.ref ca),e4,e5,e6,e7,e8,e9,e10]∧zy H H'∧H' ca=some (.lst (cs.map V.ref))∧ClA ca H' cs cl∧Ech p L vv.length i vv cl)
   ⟨[],[],none,none,none,none,none,none,none,rfl,u1,zc,.nil,Ech.start p L vv.length vv⟩ ?_ ?_ ?_ ?_⟩
  ·rintro i σ H1 hi ⟨cs,cl,e4,e5,e6,e7,e8,e9,e10,rfl,s1,_⟩
   exact⟨_,.ref (ls[i]'(by omega)),SqL.of (s1 _ _ ha),by rw [List.getElem?_map,List.getElem?_eq_getElem (by omega)]; rfl⟩
  ·rintro σ H1 ⟨cs,cl,e4,e5,e6,e7,e8,e9,e10,rfl,s1,_⟩
   exact⟨_,SqL.of (s1 _ _ ha),by rw [List.length_map]; omega⟩
  ·rintro i x σ H1 H2 hi ⟨cs,cl,e4,e5,e6,e7,e8,e9,e10,rfl,s1,h1c,hcl,E⟩ ⟨T,v,hT,rfl,rfl,hv⟩
   obtain⟨lv,rfl,hlv⟩:=z9 (hv _ (SqL.of (s1 _ _ ha)))
   obtain⟨vec,hvec,hva⟩:=Paired.get hls hlv
   obtain⟨hvl,hvr⟩:=hvv vec (List.mem_of_getElem? hvec)
   have t2:=zb (o:=.tup [.int (i:Int),.ref lv]) hT
   refine⟨T,_,rfl,SqT.of zc,rfl,_,_,rfl,_,_,rfl,rfl,?_⟩
   have s2:=s1.trans t2
   have h2c:=t2 _ _ h1c
   have hcl2:=hcl.same t2
   generalize upd H1 T (.tup [.int (i:Int),.ref lv])=H2 at t2 s2 h2c hcl2 ⊢
   refine⟨_,rfl,by show 1≤sizeLine; omega,fun z hz=>⟨_,rfl,a,_,rfl,.inl (SqL.of ((s2.trans (zb hz)) _ _ ha)),z,_,[.int 0],rfl,rfl,zc,by rw [List.length_map]; omega,by rw [List.length_map]; omega,by rw [List.length_map]; show 1*_≤sizeLine; omega,fun y hy=>?_⟩⟩
   rw [List.length_map,ziN,hll,Int.toNat_natCast]
   have t3:=(zb (o:=.lst [.int 0]) hz).trans (zb (o:=.lst ((List.replicate vv.length (0:Int)).map V.int)) hy)
   have h3y:upd (upd H2 z (.lst [.int 0])) y (.lst ((List.replicate vv.length (0:Int)).map V.int)) y=some (.lst ((List.replicate vv.length (0:Int)).map V.int)):=zc
   generalize upd (upd H2 z (.lst [.int 0])) y (.lst ((List.replicate vv.length (0:Int)).map V.int))=H3 at t3 h3y ⊢
   refine⟨lv,y,_,_,rfl,rfl,(s2.trans t3) _ _ hva,h3y,by rw [List.length_map,List.length_map,List.length_replicate]; omega,fun wl hwl=>?_⟩
   rw [← List.map_append]
   have t4:=zb (o:=.lst ((vec++List.replicate vv.length (0:Int)).map V.int)) hwl
   refine⟨_,rfl,_,rfl,_,rfl,_,_,rfl,rfl,wl,_,_,L+i,rfl,rfl,zc,?_,?_⟩
   ·rw [← Int.natCast_add]
    exact zdv (by rw [List.length_map,List.length_append,List.length_replicate]; omega)
   have ew:((vec++List.replicate vv.length (0:Int)).map V.int).set (L+i) (.int 1)=((vec++List.replicate vv.length (0:Int)).set (L+i) 1).map V.int:=by rw [List.map_set]
   rw [ew,zgU]
   have t4:=t3.trans (zb (o:=.lst (((vec++List.replicate vv.length (0:Int)).set (L+i) 1).map V.int)) hwl)
   have h4w:upd H3 wl (.lst (((vec++List.replicate vv.length (0:Int)).set (L+i) 1).map V.int)) wl=some (.lst (((vec++List.replicate vv.length (0:Int)).set (L+i) 1).map V.int)):=zc
   have W0:=zfQ hp (N:=vv.length) hi hvec hvl hvr
   have hwc:wl≠ca:=fun e=>by
    have:=t3 _ _ h2c
    rw [← e,hwl] at this
    cases this
   generalize upd H3 wl (.lst (((vec++List.replicate vv.length (0:Int)).set (L+i) 1).map V.int))=H4 at t4 h4w ⊢
   generalize (vec++List.replicate vv.length (0:Int)).set (L+i) 1=w0 at W0 h4w ⊢
   have s4:=s2.trans t4
   have h4c:=t4 _ _ h2c
   have hcl4:=hcl2.same t4
   have hcll:=hcl4.length
   refine⟨_,rfl,ca,rfl,⟨_,SqL.of h4c⟩,zba (K:=K) (a:=ca) (xs:=cs.map V.ref) (fun j σ H'=>∃ (wa:Addr) (w:List Int) (e7 e8:Option V),σ = [some (.int p),some (.ref a),some (.int (L:Int)),some (.ref ca),some (.int (i:Int)),some (.ref lv),some (.ref wa),e7,e8,e9,e10]∧zy H4 H'∧H' wa=some (.lst (w.map V.int))∧wa≠ca∧Wh p L vv.length i vv (cl.take j) w)
    ⟨wl,w0,_,_,rfl,fun _ _ e=>e,h4w,hwc,W0⟩ (fun j σ H' _ ⟨_,_,_,_,_,s5,_⟩=>SqL.of (s5 _ _ h4c)) ?_ ?_⟩
   ·rintro j y σ H5 hy ⟨wa,w,e7,e8,rfl,s5,h5w,hwa,W⟩
    obtain⟨b,rfl,hb⟩:=z9 hy
    obtain⟨aa,haa,oa,hb1,hb2,hb3⟩:=Paired.get hcl4 hb
    obtain⟨o1,o2,o3,_⟩:=E.one j aa haa
    refine⟨b,_,rfl,SqT.of (s5 _ _ hb1),rfl,_,_,rfl,_,_,rfl,rfl,?_⟩
    have hg:=zcx p0 W.rg aa.1
    refine⟨_,rfl,_,rfl,_,rfl,_,rfl,wa,_,_,.int (gl w aa.1),rfl,rfl,SqL.of h5w,zL (by rw [List.getElem?_map,zaM (by rw [W.ln]; omega)]; rfl),_,rfl,p,gl w aa.1,wa,oa,w,aa.2,rfl,h5w,s5 _ _ hb2,by rw [W.ln,o2],by rw [W.ln]; omega,p0,hg.1,by omega,fun l H6 hl s6 h6l=>?_⟩
    refine⟨l,_,_,_,rfl,s5.trans s6,h6l,fun e=>?_,zhe hp E hi haa W⟩
    have:=s5 _ _ h4c
    rw [← e,hl] at this
    cases this
   ·rintro σ H5 ⟨wa,w,e7,e8,rfl,s5,h5w,hwa,W⟩
    rw [List.length_map,hcll,List.take_length] at W
    have h5c:=s5 _ _ h4c
    have hcl5:=hcl4.same s5
    have s15:=s4.trans s5
    refine⟨_,rfl,_,rfl,by omega,by omega,?_⟩
    rw [Int.toNat_natCast]
    refine zM (n:=L) (fun j ys H'=>H'=H5∧ys=(((List.range j).filter fun m=>decide (gl w m≠0)).map fun m:Nat=>(m:Int)).map V.int) ⟨rfl,rfl⟩ (fun j ys H' hj _=>hj) (fun ys H' _=>Nat.le_refl _) ?_ ?_
    ·rintro j xx ys H6 H7 hj ⟨rfl,rfl⟩ ⟨rfl,rfl⟩
     have hgj:(w.map V.int)[j]? = some (.int (gl w j)):=by rw [List.getElem?_map,zaM (by rw [W.ln]; omega)]; rfl
     refine⟨_,rfl,_,rfl,wa,_,_,.int (gl w j),rfl,rfl,SqL.of h5w,by rw [Int.zero_add]; exact zL hgj,rfl,_,rfl,?_⟩
     have hfl:=List.length_filter_le (fun m=>decide (gl w m≠0)) (List.range j)
     rw [List.length_range] at hfl
     rw [List.range_succ,List.filter_append,List.map_append,List.map_append]
     by_cases h0:gl w j=0
     ·refine zap (fun h=>absurd h (by rw [h0]; simp)) (fun _=>⟨rfl,?_⟩)
      rw [List.filter_cons_of_neg (by simpa using h0),List.filter_nil,List.map_nil,List.map_nil,List.append_nil]
     ·refine zap (fun _=>⟨_,rfl,zaa (by rw [List.length_map,List.length_map]; omega),rfl,?_⟩) (fun h=>absurd (by simpa using h0) h)
      rw [List.filter_cons_of_pos (by simpa using h0),List.filter_nil,Int.zero_add]
      rfl
    ·rintro ys H6 D ⟨rfl,rfl⟩ hD
     have t7:=zb (o:=.lst ((((List.range L).filter fun m=>decide (gl w m≠0)).map fun m:Nat=>(m:Int)).map V.int)) hD
     have h7D:upd H6 D (.lst ((((List.range L).filter fun m=>decide (gl w m≠0)).map fun m:Nat=>(m:Int)).map V.int)) D=_:=zc
     generalize upd H6 D (.lst ((((List.range L).filter fun m=>decide (gl w m≠0)).map fun m:Nat=>(m:Int)).map V.int))=H7 at t7 h7D ⊢
     have s7:=s15.trans t7
     have h7w:=t7 _ _ h5w
     have h7c:=t7 _ _ h5c
     have hcl7:=hcl5.same t7
     refine⟨_,rfl,_,.inl ⟨_,SqL.of h7D,rfl⟩,?_⟩
     cases hlds:(List.range L).filter fun m=>decide (gl w m≠0) with
     | nil =>
      refine zap (fun _=>?_) (fun h=>absurd rfl h)
      have hz:∀ x,x < L→gl w x=0:=fun x hx=>by
       have:=List.filter_eq_nil_iff.mp hlds x (List.mem_range.mpr hx)
       simpa using this
      refine⟨_,rfl,_,rfl,_,rfl,_,rfl,_,rfl,_,_,rfl,rfl,_,_,rfl,rfl,_,rfl,wa,_,rfl,SqL.of h7w,fun l hl=>?_⟩
      have ec:zco (w.map V.int) (some (L:Int)) (some ((L:Int)+(i:Int)+1))=((w.drop L).take (i+1)).map V.int:=by
       rw [show (L:Int)+(i:Int)+1=((L+i+1:Nat):Int) by omega,zkb (by rw [List.length_map,W.ln]; omega),← List.map_drop,← List.map_take,show L+i+1 - L=i+1 by omega]
      rw [ec]
      obtain⟨d1,d2,d3⟩:=zi8 W hi hz
      exact qs l _ i _ (s7.free hl) (s7.trans (zb hl)) zc d1 hi d2 d3 (zkm (Nat.le_of_lt hi) E)
     | cons ld lds =>
      refine zap (fun h=>absurd h (by simp)) (fun _=>?_)
      have hm:ld∈(List.range L).filter fun m=>decide (gl w m≠0):=by rw [hlds]; exact List.mem_cons_self
      (obtain⟨hm1,hm2⟩:=List.mem_filter.mp hm)
      have hld:ld < L:=List.mem_range.mp hm1
      have hg0:gl w ld≠0:=by simpa using hm2
      obtain⟨g0,g1⟩:=zcx p0 W.rg ld
      rw [hlds] at h7D
      have hat0:atI ((((ld :: lds).map fun m:Nat=>(m:Int))).map V.int) 0=some (.int (ld:Int)):=zL (j:=0) rfl
      refine⟨_,rfl,_,rfl,_,rfl,D,_,_,.int (ld:Int),rfl,rfl,SqL.of h7D,hat0,wa,_,_,.int (gl w ld),rfl,rfl,SqL.of h7w,zL (by rw [List.getElem?_map,zaM (by rw [W.ln]; omega)]; rfl),p,gl w ld,rfl,hp,g0,g1,?_⟩
      refine⟨_,rfl,.inl ⟨rfl,_,SqL.of h7c⟩,_,rfl,D,_,_,.int (ld:Int),rfl,rfl,SqL.of h7D,hat0,_,rfl,wa,rfl,⟨_,SqL.of h7w⟩,za2 (fs:=(w.map fun x=>x*inv p (gl w ld) % p).map V.int) (SqL.of h7w) (by rw [List.length_map,List.length_map,List.length_map]) (by rw [List.length_map,W.ln]; omega) ?_ ?_⟩
      ·intro j x y R B hx hy hR
       obtain⟨n,rfl,hn⟩:=zal hx
       obtain⟨n',rfl,hn'⟩:=zal hy
       rw [List.getElem?_map,hn] at hn'
       cases hn'
       have hnr:=W.rg n (List.mem_of_getElem? hn)
       exact gY ⟨_,rfl,_,rfl,_,_,rfl,rfl,.inl ⟨by omega,by omega⟩,_,rfl,_,_,rfl,rfl,p0,hR⟩
      ·intro D2 hD2
       have t8:=zb (o:=.lst ((w.map fun x=>x*inv p (gl w ld) % p).map V.int)) hD2
       have h8D:upd H7 D2 (.lst ((w.map fun x=>x*inv p (gl w ld) % p).map V.int)) D2=some (.lst ((w.map fun x=>x*inv p (gl w ld) % p).map V.int)):=zc
       have hDc:D2≠ca:=fun e=>by rw [e,h7c] at hD2; cases hD2
       generalize upd H7 D2 (.lst ((w.map fun x=>x*inv p (gl w ld) % p).map V.int))=H8 at t8 h8D ⊢
       refine⟨by show 2≤sizeLine; omega,fun tb htb=>?_⟩
       have t9:=zb (o:=.tup [.int (ld:Int),.ref D2]) htb
       have h9t:upd H8 tb (.tup [.int (ld:Int),.ref D2]) tb=some (.tup [.int (ld:Int),.ref D2]):=zc
       have h9c:=t9 _ _ (t8 _ _ h7c)
       have s9:=(s7.trans t8).trans t9
       have hcl9:=(hcl7.same t8).same t9
       have h9D:=t9 _ _ h8D
       generalize upd H8 tb (.tup [.int (ld:Int),.ref D2])=H9 at t9 h9t h9c s9 hcl9 h9D ⊢
       have hln:=E.ln
       refine⟨ca,_,_,rfl,rfl,h9c,by rw [List.length_map,hcll,hln]; omega,cs++[tb],_,_,_,_,_,_,_,_,rfl,zS s9 hca,by rw [zc,List.map_append]; rfl,Paired.snoc (hcl9.put h9c) ⟨D2,?_,?_,hDc⟩,zfR hp E hi W hld hg0⟩
       ·rw [zl (fun e=>by rw [e,h9c] at h9t; cases h9t)]
        exact h9t
       ·rw [zl hDc]
        exact h9D
  ·rintro σ H1 ⟨cs,cl,e4,e5,e6,e7,e8,e9,e10,rfl,s1,h1c,hcl,E⟩
   exact qn H1 s1 (zi7 E)
end
end My
end
section
set_option maxHeartbeats 3999000
namespace My
open PySem L2 PyProof.Rows
section
variable {P:Program} {w:World} {K:PySem.W.Frag} {mg:Str→Option Value} {base:Heap} {t:Adr}
def tK (t:Tm):List Key:=[Sum.inl (t.1:Int),Sum.inl (t.2:Int)]
theorem zjB {t u:Tm} (h:tK t=tK u):t=u:=by
 unfold tK at h
 injection h with h1 h2
 injection h2 with h2 _
 have e1:(t.1:Int)=u.1:=Sum.inl.inj h1
 have e2:(t.2:Int)=u.2:=Sum.inl.inj h2
 exact Prod.ext (by omega) (by omega)
theorem zjC {ts:List Tm} (h:ts.Nodup):(ts.map tK).Nodup:=by
 rw [List.nodup_iff_pairwise_ne,List.pairwise_map]
 exact List.Pairwise.imp (fun hne e=>hne (zjB e)) h
theorem zlC {H:Hp} {bs:List Addr} {ts:List Tm} (h:PtB H bs (ts.map tI)):KyA H (bs.map V.ref) (ts.map tK):=by
 induction ts generalizing bs with
 | nil=>cases h; exact .nil
 | cons t ts ih =>
  cases h with
  | cons h1 h2=>exact .cons ⟨_,rfl,h1⟩ (ih h2)
def zfh (K:PySem.W.Frag):Sp:=fun vs H Q _=>∃ (p:Int) (tl pl:Addr) (bs cs:List Addr) (ts:List Tm) (pts:List (Int×Int×Nat)),vs = [.int p,.ref tl,.ref pl]∧p∈zH∧H tl=some (.lst (bs.map V.ref))∧PtB H bs (ts.map tI)∧ts.Nodup∧ts.length=(cos pts).length+1∧ts.length≤200∧(∀ t∈ts,t.1≤400∧t.2≤400)∧H pl=some (.lst (cs.map V.ref))∧W3 H cs pts∧zf1 p pts∧pts.length≤1000 ∧
 ∀ (D:Addr) (c:List Int) (m:Nat) (H':Hp),H D=none→zy H H'→H' D=some (.dT ((ts.map tK).zip (c.map V.int)))→IsP p (m+1) c→m < ts.length→gl c m=1→Dep p (cos pts).length (ts.map (zau p pts)) c→zkl p (cos pts).length m (ts.map (zau p pts))→Q (.ref D) H'
theorem zcS:FnScope ["p","terms","points","relation"] ["p","terms","points"] (zh zbd):=⟨rfl,rfl,rfl,by decide +kernel,rfl,by decide +kernel,by decide +kernel⟩
theorem zfi {fd:FuncData} (T:Txt K mg t) (F:Fun K "first_sum" "first_sum" zbd t.first_sum fd):FnOk P w K mg base CX0 5 t.first_sum fd ["p","terms","points"] (zfh K):=by
 obtain⟨fd_first_relation,F_first_relation,b_first_relation⟩:=T.f_first_relation
 have G_first_relation:=zcR (P:=P) (w:=w) (base:=base) T F_first_relation
 obtain⟨fd_vectors_of,F_vectors_of,b_vectors_of⟩:=T.f_vectors_of
 have G_vectors_of:=zef (P:=P) (w:=w) (base:=base) T F_vectors_of
 refine F.ok zcS (fun vs H Q E h=>?_) (fun cdv A outer s H vs Q E hr h=>?_)
 ·obtain⟨p,tl,pl,bs,cs,ts,pts,rfl,_⟩:=h
  rfl
 ·obtain⟨p,tl,pl,bs,cs,ts,pts,rfl,hp,htl,hpt,hnd,hlen,hl2,hts,hpl,hcs,hg,hn,q⟩:=h
  have hu:(A.deeper (envOfC (Str.ofString "first_sum") (zh zbd) s.heap.objs.size t.first_sum cdv)).units+20 < cLine:=by have:=hr.units; omega
  refine⟨_,(@zd _ _ _ _ _ (@zm _ _ (3) _ _ _ _ zcS.nd rfl (Or.inl rfl) (@zt _ _ _ _ _ _ _ _ _ _ _ _ _ _ _ _ G_first_relation (hr.mono (by decide)) rfl T.m_first_relation F_first_relation.kp b_first_relation .nil (@zW _) (@za _ _ _ _ _ (@pvx _ 0 _ _ rfl) (@za _ _ _ _ _ (@zt _ _ _ _ _ _ _ _ _ _ _ _ _ _ _ _ G_vectors_of (hr.mono (by decide)) rfl T.m_vectors_of F_vectors_of.kp b_vectors_of .nil (@zW _) (@za _ _ _ _ _ (@pvx _ 0 _ _ rfl) (@za _ _ _ _ _ (@pvx _ 1 _ _ rfl) (@za _ _ _ _ _ (@pvx _ 2 _ _ rfl) (@ze _) (by rfl)) (by rfl)) (by rfl)) (by decide) (by rfl) (by rfl)) (@ze _) (by rfl)) (by rfl)) (by decide) (by rfl) (by rfl)) (by rfl) (by trivial)) (by exact (@zj _ _ _ (@zB _ _ _ _ (zgE (Nat.lt_of_le_of_lt (Nat.add_le_add_left (show 2≤20 by decide) _) hu) rfl rfl T.dict_ rfl T.zip_ (@za _ _ _ _ _ (@pvx _ 1 _ _ rfl) (@za _ _ _ _ _ (@pvx _ 3 _ _ rfl) (@ze _) (by rfl)) (by rfl))))))),?_⟩
  have hsl:=sizeLine_eq
  have rp:=zU hp
  have hne:ts≠[]:=fun e=>by rw [e] at hlen; simp at hlen
  have hv:∀ v∈ts.map (zau p pts),v.length=(cos pts).length∧∀ c∈v,0≤c∧c < p:=fun v hv=>by
   obtain⟨t,_,rfl⟩:=List.mem_map.mp hv
   exact⟨zhi p pts t,zkn (by omega)⟩
  refine⟨_,rfl,_,rfl,_,rfl,_,rfl,p,tl,pl,bs,cs,ts,pts,rfl,by omega,by omega,htl,hpt,hne,hl2,hts,hpl,hcs,hg,by omega,hn,fun vl vls H1 hvl s1 h1 g1=>?_⟩
  refine⟨p,vl,vls,ts.map (zau p pts),(cos pts).length,rfl,h1,g1,by simpa using hne,by rw [List.length_map]; exact hl2,by omega,hv,hp,fun H2 s2 hI=>?_,fun l c m H2 hl s2 h2 hc hm h1' hD hI=>?_⟩
  ·have:=zjh hp hv hI
   rw [List.length_map] at this
   omega
  ·rw [List.length_map] at hm
   have s12:=s1.trans s2
   exact⟨_,rfl,_,rfl,tl,l,_,_,_,rfl,SqL.of (s12 _ _ htl),SqL.of h2,zlC (hpt.same s12),zjC hnd,fun D H3 hD3 s3 h3=>q D c m H3 (s12.free hD3) (s12.trans s3) h3 hc hm h1' hD hI⟩
end
end My
end
section
set_option maxHeartbeats 3999000
namespace My
open PySem L2 PyProof.Rows
section
variable {P:Program} {w:World} {K:PySem.W.Frag} {mg:Str→Option Value} {base:Heap} {t:Adr}
def zdY (K:PySem.W.Frag):Sp:=fun vs H Q _=>∃ (k many:Nat),vs = [.int (k:Int),.int (many:Int)]∧2≤k∧k≤100∧many≤300 ∧
 ∀ (l:Addr) (us:List Addr) (S:Nat) (H':Hp),H l=none→zy H H'→H' l=some (.lst (us.map V.ref))→PtB H' us (((zQ k S).take many).map tI)→S≤many→many≤(zQ k S).length→Q (.ref l) H'
theorem zdB (k s:Nat):(tms k s).length=s / (k - 1)+1:=by unfold tms; rw [List.length_map,List.length_range]
theorem zkv {H:Hp} {us:List Addr} {q:List (Int×Int)} (h:PtB H us q) (m:Nat):PtB H (us.take m) (q.take m):=by
 induction h generalizing m with
 | nil=>simp; exact .nil
 | cons h1 _ ih =>
  cases m with
  | zero=>exact .nil
  | succ m=>exact .cons h1 (ih m)
theorem zfj {H:Hp} {F:Addr} {xs:List V} {o:HO} {us:List Addr} {q:List (Int×Int)} (h:PtB H us q) (hF:H F=some (.lst xs)):PtB (upd H F o) us q:=Paired.mono (fun b v z=>by rw [zl (fun e=>by rw [e,hF] at z; cases z)]; exact z) h
theorem zjD {H:Hp} {us vs:List Addr} {q r:List (Int×Int)} (h1:PtB H us q) (h2:PtB H vs r):PtB H (us++vs) (q++r):=by
 induction h1 with
 | nil=>exact h2
 | cons a _ ih=>exact .cons a ih
theorem zay:FnScope ["k","many","terms","size"] ["k","many"] (zh zaJ):=⟨rfl,rfl,rfl,by decide +kernel,rfl,by decide +kernel,by decide +kernel⟩
theorem zdZ {fd:FuncData} (T:Txt K mg t) (F:Fun K "first_terms" "first_terms" zaJ t.first_terms fd):FnOk P w K mg base CX0 1 t.first_terms fd ["k","many"] (zdY K):=by
 refine F.ok zay (fun vs H Q E h=>?_) (fun cdv A outer s H vs Q E hr h=>?_)
 ·obtain⟨k,many,rfl,_⟩:=h
  rfl
 ·obtain⟨k,many,rfl,k2,k100,hm,q⟩:=h
  refine⟨_,(@zd _ _ _ _ _ (@zm _ _ (2) _ _ _ _ zay.nd rfl (Or.inl rfl) (@zN _ _ _ _ (@ze _)) (by rfl) (by trivial)) (by exact (@zd _ _ _ _ _ (@zm _ _ (3) _ _ _ _ zay.nd rfl (Or.inr rfl) (@zf _ _ _ _) (by rfl) (by trivial)) (by exact (@zd _ _ _ _ _ (@zdD _ _ _ _ _ _ PassesOwn.never (@zz _ _ _ _ _ _ _ _ (@zdF _) (@zn _ _ _ _ _ _ _ _ _ (@zx _) (by rfl) T.len_ boot_len (@za _ _ _ _ _ (@pvx _ 2 _ _ rfl) (@ze _) (by rfl)) (by decide) (by decide) (by rfl) (by rfl)) (@pvx _ 1 _ _ rfl) (zF _)) (@zd _ _ _ _ _ (@zgb _ _ (2) _ _ _ _ _ _ zay.nd rfl (Or.inl rfl) (@zG _ _ _ _ _ _ _ _ _ _ _ _ _ (CompSc.of (N':=["j","size","k"]) (ix:=[none,some 3,some 0]) (zh zaJ) ["k","many","terms","size"] rfl rfl (by decide +kernel)) rfl (@z0 _ _ rfl) (@zI _ _ _ _ _ _ rfl T.range_ (@za _ _ _ _ _ (@zg _ _ _ _ _ _ _ _ (@zJ _) (@zg _ _ _ _ _ _ _ _ (@zaA _) (@pvx _ 3 _ _ rfl) (@zg _ _ _ _ _ _ _ _ (@zV _) (@pvx _ 0 _ _ rfl) (@zf _ _ _ _))) (@zf _ _ _ _)) (@ze _) (by rfl)) (by rfl)) (fun _ _ _ _=>(@zi _ _ (0) _ (show (["j","size","k"]:List Str).Nodup by decide +kernel) rfl (Or.inl rfl) (by trivial))) (fun _ _ _ _=>(@zw _)) (fun _ _ _ _=>(@zbg _ _ _ _ _ (@za _ _ _ _ _ (@zg _ _ _ _ _ _ _ _ (@zV _) (@pvx _ 1 _ _ rfl) (@zg _ _ _ _ _ _ _ _ (@zD _) (@zg _ _ _ _ _ _ _ _ (@zV _) (@pvx _ 2 _ _ rfl) (@zf _ _ _ _)) (@pvx _ 0 _ _ rfl))) (@za _ _ _ _ _ (@pvx _ 0 _ _ rfl) (@ze _) (by rfl)) (by rfl)))) (by intro _; rfl)) zje (by trivial)) (by exact (@zj _ _ _ (@zgb _ _ (3) _ _ _ _ _ _ zay.nd rfl (Or.inr rfl) (@zf _ _ _ _) zjN (by trivial)))))) (by exact (@zj _ _ _ (@zB _ _ _ _ (@zbp _ _ _ _ _ _ _ _ _ _ zbQ (@pvx _ 2 _ _ rfl) (@zcb _) (@zbt _ _ _ (@pvx _ 1 _ _ rfl))))))))))),?_⟩
  have hsl:=sizeLine_eq
  refine⟨Nat.zero_le _,fun TL hTL=>?_⟩
  refine⟨fun μ σ H'=>∃ (S:Nat) (us:List Addr),μ=many+1 - S∧S≤many∧σ = [some (.int (k:Int)),some (.int (many:Int)),some (.ref TL),some (.int (S:Int))]∧zy H H'∧H' TL=some (.lst (us.map V.ref))∧PtB H' us ((zQ k S).map tI),⟨many+1,0,[],rfl,Nat.zero_le _,rfl,zb hTL,zc,.nil⟩,?_⟩
  rintro μ σ H1 ⟨S,us,rfl,hS,rfl,s1,h1,hus⟩
  have hul:us.length=(zQ k S).length:=by rw [Paired.length hus,List.length_map]
  have hSl:=zcY k S
  refine⟨_,rfl,TL,_,rfl,.inl (SqL.of h1),_,rfl,_,_,rfl,rfl,_,rfl,?_⟩
  rw [List.length_map,hul]
  refine zap (fun hlt=>?_) (fun hge=>?_)
  ·have hlt:=of_decide_eq_true hlt
   have hlt:(zQ k S).length < many:=by omega
   refine⟨fun σ' H'=>∃ m',m' < many+1 - S∧∃ (S:Nat) (us:List Addr),m'=many+1 - S∧S≤many∧σ' = [some (.int (k:Int)),some (.int (many:Int)),some (.ref TL),some (.int (S:Int))]∧zy H H'∧H' TL=some (.lst (us.map V.ref))∧PtB H' us ((zQ k S).map tI),fun _ _ z=>z,?_⟩
   have k1:0 < k - 1:=by omega
   have ek:((k:Int) - 1)=((k - 1:Nat):Int):=by omega
   have eN:((S:Int) / ((k:Int) - 1)+1)=((S / (k - 1)+1:Nat):Int):=by
    rw [ek]
    exact congrArg (· + 1) (Int.natCast_ediv S (k - 1)).symm
   have hq:S / (k - 1)≤S:=Nat.div_le_self _ _
   refine⟨_,rfl,_,rfl,_,rfl,_,_,rfl,rfl,_,_,rfl,rfl,⟨by omega,by omega⟩,_,_,rfl,rfl,?_⟩
   refine⟨(S:Int) / ((k:Int) - 1)+1,rfl,by rw [eN]; exact Int.le_trans (by decide) (Int.natCast_nonneg _),by rw [eN]; exact Int.lt_of_le_of_lt (Int.ofNat_le.mpr (show S / (k - 1)+1≤301 from Nat.succ_le_succ (Nat.le_trans hq (by omega)))) (by decide),?_⟩
   rw [eN,Int.toNat_natCast]
   refine zM (n:=S / (k - 1)+1) (fun m ys H'=>zy H1 H'∧∃ vs:List Addr,ys=vs.map V.ref∧PtB H' vs (((tms k S).take m).map tI)) ⟨fun _ _ e=>e,[],rfl,.nil⟩ (fun i ys H' hi _=>hi) (fun ys H' _=>Nat.le_refl _) ?_ ?_
   ·rintro j x ys H2 H3 hj ⟨s2,vs,rfl,hvs⟩ ⟨rfl,rfl⟩
    rw [show ((0:Int)+(j:Int))=(j:Int) from Int.zero_add _]
    have hjs:(k - 1)*j≤S:=by
     have:=(Nat.le_div_iff_mul_le k1).mp (show j≤S / (k - 1) by omega)
     rw [Nat.mul_comm]; exact this
    have hvl:vs.length=j:=by rw [Paired.length hvs,List.length_map,List.length_take,zdB]; omega
    have eV:(S:Int) - ((k:Int) - 1)*(j:Int)=((S - (k - 1)*j:Nat):Int):=by
     rw [ek,Int.natCast_sub hjs,Int.natCast_mul]
    refine gY ?_
    refine⟨_,rfl,_,rfl,_,_,rfl,rfl,_,rfl,_,_,rfl,rfl,.inl ⟨by omega,by omega⟩,_,_,rfl,rfl,_,rfl,by show 2≤sizeLine; omega,fun T hT=>?_⟩
    have htm:(tms k S)[j]? = some (S - (k - 1)*j,j):=by unfold tms; rw [List.getElem?_map,List.getElem?_range hj]; rfl
    refine⟨by rw [List.length_map]; omega,s2.trans (zb hT),vs++[T],by simp,?_⟩
    rw [take_snoc htm,List.map_append]
    refine Paired.snoc (hvs.same (zb hT)) ?_
    rw [zc]
    show some (HO.tup [V.int ((S:Int) - ((k:Int) - 1)*(j:Int)),V.int (j:Int)])=_
    rw [eV]
    rfl
   ·rintro ys H2 D ⟨s2,vs,rfl,hvs⟩ hD
    rw [List.take_of_length_le (by rw [zdB]; exact Nat.le_refl _)] at hvs
    have sD:=s2.trans (zb (o:=.lst (vs.map V.ref)) hD)
    have hvl:vs.length=S / (k - 1)+1:=by rw [Paired.length hvs,List.length_map,zdB]
    refine⟨TL,D,_,_,rfl,rfl,sD _ _ h1,zc,by rw [List.length_map,List.length_map]; omega,?_⟩
    refine⟨_,rfl,_,_,rfl,rfl,?_⟩
    refine⟨many+1 - (S+1),by omega,S+1,us++vs,rfl,by omega,rfl,zS (s1.trans sD) hTL,by rw [zc,List.map_append],?_⟩
    rw [za3,List.map_append]
    have a1:=zfj (o:=.lst (us.map V.ref++vs.map V.ref)) (hus.same sD) (sD _ _ h1)
    have a2:=zfj (o:=.lst (us.map V.ref++vs.map V.ref)) (hvs.same (zb (o:=.lst (vs.map V.ref)) hD)) (sD _ _ h1)
    exact zjD a1 a2
  ·have hge:¬ (((zQ k S).length:Int) < (many:Int)):=fun h=>hge (decide_eq_true h)
   refine⟨_,rfl,_,rfl,_,rfl,TL,_,rfl,SqL.of h1,fun z hz=>?_⟩
   have ec:zco (us.map V.ref) none (some (many:Int))=(us.take many).map V.ref:=by
    unfold zco
    rw [HT.sIx_nat,HT.sIx_none,List.drop_zero,Nat.sub_zero,List.length_map,Nat.min_eq_left (by omega),List.map_take]
   rw [ec]
   refine q z (us.take many) S _ (s1.free hz) (s1.trans (zb hz)) zc ?_ hS (by omega)
   have:=(zkv hus many).same (zb (o:=.lst ((us.take many).map V.ref)) hz)
   rw [← List.map_take] at this
   exact this
end
end My
end
section
set_option maxHeartbeats 3999000
namespace My
open PySem L2 PyProof.Rows
section
variable {P:Program} {w:World} {K:PySem.W.Frag} {mg:Str→Option Value} {base:Heap} {t:Adr}
theorem gY3 {K:PySem.W.Frag} {i j l:Nat} {T:Addr} {x y z:V} {σ:L2.St} {H:Hp} {A B:L2.St→Hp→Prop} (hT:SqT K H T [x,y,z]) (h:A (((σ.set i (some x)).set j (some y)).set l (some z)) H) :
  zhv K 3 (zc3 (zaO i) (zc3 (zaO j) (zc3 (zaO l) zim))) (.ref T) σ H (fun σ2 H2=>zjU σ2 H2 fun b H3=>if b=true then A σ2 H3 else B σ2 H3):=by
 refine⟨T,_,rfl,hT,rfl,x,_,rfl,y,_,rfl,z,_,rfl,rfl,?_⟩
 show (if true=true then A (((σ.set i (some x)).set j (some y)).set l (some z)) H else B (((σ.set i (some x)).set j (some y)).set l (some z)) H)
 rw [if_pos rfl]
 exact h
theorem zf2 (w:Nat):(w:Int)*((w:Int)+1) / 2=(tri w:Int):=by
 unfold tri
 rw [show ((w:Int)*((w:Int)+1))=((w*(w+1):Nat):Int) by rw [Int.natCast_mul]; rfl]
 exact (Int.natCast_ediv _ 2).symm
theorem zcT {α:Type} (f:α→Nat):∀ l:List α,(l.map fun q=>(f q:Int)).sum=((l.map f).sum:Int)
 | []=>rfl
 | a :: l=>by
  rw [List.map_cons,List.sum_cons,List.map_cons,List.sum_cons,zcT f l]
  omega
theorem zhp:∀ {ts:List Tm} {c:List Int} {t:Tm},(zcw ((ts.map tK).zip (c.map V.int)) (tK t)).getD (.int 0) = .int (gof ts c t)
 | [],_,_=>rfl
 | _ :: _,[],_=>rfl
 | a :: ts,b :: c,t=>by
  have ih:=zhp (ts:=ts) (c:=c) (t:=t)
  unfold zcw gof at ih ⊢
  rw [List.map_cons,List.map_cons,List.zip_cons_cons,List.zip_cons_cons,List.lookup_cons]
  by_cases e:t=a
  ·subst e
   rw [List.find?_cons_of_pos (by simp),beq_self_eq_true]
   rfl
  ·rw [List.find?_cons_of_neg (by simp; exact fun h=>e (zjB h).symm),show (t == a)=false by simpa using e]
   exact ih
theorem zfk {k:Nat} (hk:2≤k) (t:Tm):(t.1:Int)+((k:Int) - 1)*(t.2:Int)=(tz k t:Int):=by
 unfold tz
 rw [show ((k:Int) - 1)=((k - 1:Nat):Int) by omega,Int.natCast_add,Int.natCast_mul]
theorem zh6 {k s j:Nat} {g:Tm→Int} (h:j < s / (k - 1)+1):(zaC k s g).take (j+1)=(zaC k s g).take j++[(List.range (s - (k - 1)*j+1)).map fun i=>g (i,j)]:=take_snoc (zdT h)
def zd0 (K:PySem.W.Frag):Sp:=fun vs H Q _=>∃ (p:Int) (k:Nat) (pl:Addr) (cs:List Addr) (pts:List (Int×Int×Nat)),vs = [.int p,.int (k:Int),.ref pl]∧p∈zH∧2≤k∧k≤100∧H pl=some (.lst (cs.map V.ref))∧W3 H cs pts∧zf1 p pts∧(cos pts).length≤199∧pts.length≤1000 ∧
 ∀ (z r:Addr) (ls:List Addr) (size:Nat) (g:Tm→Int) (H':Hp),H z=none→zy H H'→H' z=some (.tup [.int (size:Int),.ref r])→H' r=some (.tup (ls.map V.ref))→zd9 H' ls (zaC k size g)→Lst p k pts size g→size≤200→Q (.ref z) H'
theorem zaz:FnScope ["p","k","points","asked","found","size","lines"] ["p","k","points"] (zh zac):=⟨rfl,rfl,rfl,by decide +kernel,rfl,by decide +kernel,by decide +kernel⟩
theorem zd1 {fd:FuncData} (T:Txt K mg t) (F:Fun K "least_curve" "least_curve" zac t.least_curve fd):FnOk P w K mg base CX0 6 t.least_curve fd ["p","k","points"] (zd0 K):=by
 obtain⟨fd_first_sum,F_first_sum,b_first_sum⟩:=T.f_first_sum
 have G_first_sum:=zfi (P:=P) (w:=w) (base:=base) T F_first_sum
 obtain⟨fd_first_terms,F_first_terms,b_first_terms⟩:=T.f_first_terms
 have G_first_terms:=zdZ (P:=P) (w:=w) (base:=base) T F_first_terms
 refine F.ok zaz (fun vs H Q E h=>?_) (fun cdv A outer s H vs Q E hr h=>?_)
 ·obtain⟨p,k,pl,cs,pts,rfl,_⟩:=h
  rfl
 ·obtain⟨p,k,pl,cs,pts,rfl,hp,k2,k100,hpl,hcs,hg,hL,hn,q⟩:=h
  have hu:(A.deeper (envOfC (Str.ofString "least_curve") (zh zac) s.heap.objs.size t.least_curve cdv)).units+20 < cLine:=by have:=hr.units; omega
  refine⟨_,(@zd _ _ _ _ _ (@zm _ _ (3) _ _ _ _ zaz.nd rfl (Or.inl rfl) (@zn _ _ _ _ _ _ _ _ _ (@zbH _ rfl) (by rfl) T.sum_ boot_sum (@za _ _ _ _ _ (@zG _ _ _ _ _ _ _ _ _ _ _ _ _ (CompSc.of (N':=["x","y","weight"]) (ix:=[none,none,none]) (zh zac) ["p","k","points","asked","found","size","lines"] rfl rfl (by decide +kernel)) rfl (@zaH _ _ _ _ (@zr _ _ _ rfl (@zr _ _ _ rfl (@zr _ _ _ rfl (@zaj _))))) (@z8 _ _ _ _ (@pvx _ 2 _ _ rfl)) (fun _ _ _ _=>(@zak _ (K) _ _ _ (3) _ rfl rfl (@zk _ _ _ _ _ (@zi _ _ (0) _ (show (["x","y","weight"]:List Str).Nodup by decide +kernel) rfl (Or.inl rfl) (by trivial)) (@zk _ _ _ _ _ (@zi _ _ (1) _ (show (["x","y","weight"]:List Str).Nodup by decide +kernel) rfl (Or.inl rfl) (by trivial)) (@zk _ _ _ _ _ (@zi _ _ (2) _ (show (["x","y","weight"]:List Str).Nodup by decide +kernel) rfl (Or.inl rfl) (by trivial)) (@zK _) (by rfl)) (by rfl)) (by rfl)) (by rfl) (by rfl))) (fun _ _ _ _=>(@zw _)) (fun _ _ _ _=>(@zg _ _ _ _ _ _ _ _ (@zaA _) (@zg _ _ _ _ _ _ _ _ (@zD _) (@pvx _ 2 _ _ rfl) (@zg _ _ _ _ _ _ _ _ (@zJ _) (@pvx _ 2 _ _ rfl) (@zf _ _ _ _))) (@zf _ _ _ _))) (by intro _; rfl)) (@ze _) (by rfl)) (by decide) (by decide) (by rfl) (by rfl)) (by rfl) (by trivial)) (by exact (@zd _ _ _ _ _ (@zm _ _ (4) _ _ _ _ zaz.nd rfl (Or.inr rfl) (@zt _ _ _ _ _ _ _ _ _ _ _ _ _ _ _ _ G_first_sum (hr.mono (by decide)) rfl T.m_first_sum F_first_sum.kp b_first_sum .nil (@zW _) (@za _ _ _ _ _ (@pvx _ 0 _ _ rfl) (@za _ _ _ _ _ (@zt _ _ _ _ _ _ _ _ _ _ _ _ _ _ _ _ G_first_terms (hr.mono (by decide)) rfl T.m_first_terms F_first_terms.kp b_first_terms .nil (@zW _) (@za _ _ _ _ _ (@pvx _ 1 _ _ rfl) (@za _ _ _ _ _ (@zg _ _ _ _ _ _ _ _ (@zJ _) (@pvx _ 3 _ _ rfl) (@zf _ _ _ _)) (@ze _) (by rfl)) (by rfl)) (by decide) (by rfl) (by rfl)) (@za _ _ _ _ _ (@pvx _ 2 _ _ rfl) (@ze _) (by rfl)) (by rfl)) (by rfl)) (by decide) (by rfl) (by rfl)) (by rfl) (by trivial)) (by exact (@zd _ _ _ _ _ (@zm _ _ (5) _ _ _ _ zaz.nd rfl (Or.inr rfl) (@zn _ _ _ _ _ _ _ _ _ (@zbm _ rfl) (by rfl) T.max_ boot_max (@za _ _ _ _ _ (@zG _ _ _ _ _ _ _ _ _ _ _ _ _ (CompSc.of (N':=["i","j","k"]) (ix:=[none,none,some 1]) (zh zac) ["p","k","points","asked","found","size","lines"] rfl rfl (by decide +kernel)) rfl (@zaH _ _ _ _ (@zr _ _ _ rfl (@zr _ _ _ rfl (@zaj _)))) (@zl8 _ _ _ _ (@pvx _ 4 _ _ rfl)) (fun _ _ _ _=>(@zak _ (K) _ _ _ (2) _ rfl rfl (@zk _ _ _ _ _ (@zi _ _ (0) _ (show (["i","j","k"]:List Str).Nodup by decide +kernel) rfl (Or.inl rfl) (by trivial)) (@zk _ _ _ _ _ (@zi _ _ (1) _ (show (["i","j","k"]:List Str).Nodup by decide +kernel) rfl (Or.inl rfl) (by trivial)) (@zK _) (by rfl)) (by rfl)) (by rfl) (by rfl))) (fun _ _ _ _=>(@zw _)) (fun _ _ _ _=>(@zg _ _ _ _ _ _ _ _ (@zJ _) (@pvx _ 0 _ _ rfl) (@zg _ _ _ _ _ _ _ _ (@zD _) (@zg _ _ _ _ _ _ _ _ (@zV _) (@pvx _ 2 _ _ rfl) (@zf _ _ _ _)) (@pvx _ 1 _ _ rfl)))) (by intro _; rfl)) (@ze _) (by rfl)) (by decide) (by decide) (by rfl) (by rfl)) (by rfl) (by trivial)) (by exact (@zd _ _ _ _ _ (@zaL _ _ _ _ _ _ _ _ _ _ _ _ _ (6) _ _ _ zaz.nd rfl (Or.inl rfl) (CompSc.of (N':=["j","size","k","found"]) (ix:=[none,some 5,some 1,some 4]) (zh zac) ["p","k","points","asked","found","size","lines"] rfl rfl (by decide +kernel)) rfl (@z0 _ _ rfl) (@zI _ _ _ _ _ _ rfl T.range_ (@za _ _ _ _ _ (@zg _ _ _ _ _ _ _ _ (@zJ _) (@zg _ _ _ _ _ _ _ _ (@zaA _) (@pvx _ 5 _ _ rfl) (@zg _ _ _ _ _ _ _ _ (@zV _) (@pvx _ 1 _ _ rfl) (@zf _ _ _ _))) (@zf _ _ _ _)) (@ze _) (by rfl)) (by rfl)) (fun _ _ _ _=>(@zi _ _ (0) _ (show (["j","size","k","found"]:List Str).Nodup by decide +kernel) rfl (Or.inr rfl) (by trivial))) (fun _ _ _ _=>(@zw _)) (fun _ _ _ _=>(@zaP _ _ _ _ _ _ _ _ _ (zdS (K:=K) rfl) (by rfl) T.tuple_ boot_tuple (@za _ _ _ _ _ (@zG _ _ _ _ _ _ _ _ _ _ _ _ _ (CompSc.of (N':=["i","found","j"]) (ix:=[none,some 3,some 0]) ({ kind:=.function,names:=[(".0",.local),("j",.cell),("tuple",.globalImplicit),("range",.globalImplicit),("found",.cell),("k",.cell),("size",.cell)],isGenerator:=false,isCoroutine:=false }) ["j","size","k","found"] (by with_unfolding_all rfl) rfl (by decide +kernel)) rfl (@z0 _ _ rfl) (@zI _ _ _ _ _ _ rfl T.range_ (@za _ _ _ _ _ (@zg _ _ _ _ _ _ _ _ (@zJ _) (@zg _ _ _ _ _ _ _ _ (@zV _) (@pvx _ 1 _ _ rfl) (@zg _ _ _ _ _ _ _ _ (@zD _) (@zg _ _ _ _ _ _ _ _ (@zV _) (@pvx _ 2 _ _ rfl) (@zf _ _ _ _)) (@pvx _ 0 _ _ rfl))) (@zf _ _ _ _)) (@ze _) (by rfl)) (by rfl)) (fun _ _ _ _=>(@zi _ _ (0) _ (show (["i","found","j"]:List Str).Nodup by decide +kernel) rfl (Or.inl rfl) (by trivial))) (fun _ _ _ _=>(@zw _)) (fun _ _ _ _=>(@zi1 _ _ _ _ _ _ _ _ _ (Nat.lt_of_le_of_lt (Nat.add_le_add_left (show 1≤20 by decide) _) hu) (@pvx _ 1 _ _ rfl) (@zbg _ _ _ _ _ (@za _ _ _ _ _ (@pvx _ 0 _ _ rfl) (@za _ _ _ _ _ (@pvx _ 2 _ _ rfl) (@ze _) (by rfl)) (by rfl))) (@zf _ _ _ _) ⟨rfl,rfl,rfl,rfl⟩)) (by intro _; rfl)) (@ze _) (by rfl)) (by decide) (by decide) (by rfl) (by rfl))) (by rfl) (by intro _; rfl) (by trivial)) (by exact (@zj _ _ _ (@zB _ _ _ _ (@zbg _ _ _ _ _ (@za _ _ _ _ _ (@pvx _ 5 _ _ rfl) (@za _ _ _ _ _ (@zaP _ _ _ _ _ _ _ _ _ (@za8 _) (by rfl) T.tuple_ boot_tuple (@za _ _ _ _ _ (@pvx _ 6 _ _ rfl) (@ze _) (by rfl)) (by decide) (by decide) (by rfl) (by rfl)) (@ze _) (by rfl)) (by rfl))))))))))))),?_⟩
  have hsl:=sizeLine_eq
  have rp:=zU hp
  have hcl:=Paired.length hcs
  refine⟨_,rfl,pl,rfl,⟨_,SqL.of hpl⟩,za2 (fs:=(pts.map fun q=>(tri q.2.2:Int)).map V.int) (SqL.of hpl) (by rw [List.length_map,List.length_map,List.length_map,hcl]) (by rw [List.length_map]; omega) (fun i x y R B hx hy hR=>?_) (fun D0 hD0=>?_)⟩
  ·obtain⟨b,rfl,hb⟩:=z9 hx
   obtain⟨⟨px,py,pw⟩,hq,hqb⟩:=Paired.get hcs hb
   have hw9:=(hg _ (List.mem_of_getElem? hq)).2.2.2.2.2
   rw [List.getElem?_map,List.getElem?_map,hq] at hy
   have hy:V.int (tri pw:Int)=y:=by simpa using hy
   subst hy
   refine gY3 (SqT.of hqb) ?_
   have hw9:pw≤9:=hw9
   refine⟨_,rfl,_,rfl,_,_,rfl,rfl,_,_,rfl,rfl,.inl ⟨by omega,by omega⟩,_,_,rfl,rfl,⟨by decide,by decide⟩,?_⟩
   show R (.int ((pw:Int)*((pw:Int)+1) / 2)) _
   rw [zf2]
   exact hR
  refine⟨D0,pts.map fun q=>(tri q.2.2:Int),rfl,SqL.of zc,?_⟩
  rw [zcT,show (pts.map fun q=>tri q.2.2).sum=zbJ pts from rfl]
  have s0:=zb (o:=.lst ((pts.map fun q=>(tri q.2.2:Int)).map V.int)) hD0
  generalize upd H D0 (.lst ((pts.map fun q=>(tri q.2.2:Int)).map V.int))=H0 at s0 ⊢
  have hcn:=zci pts
  refine⟨_,rfl,_,rfl,_,rfl,_,_,rfl,rfl,k,zbJ pts+1,rfl,k2,k100,by omega,fun tl us S H1 htl s1 h1 hpt hS1 hS2=>?_⟩
  have s01:=s0.trans s1
  have tin:∀ t∈(zQ k S).take (zbJ pts+1),tz k t < S:=fun t ht=>(zaB k2).mp (List.mem_of_mem_take ht)
  have tle:∀ t:Tm,t.1≤tz k t∧t.2≤tz k t:=fun t=>⟨by unfold tz; omega,by
   unfold tz
   have:1*t.2≤(k - 1)*t.2:=Nat.mul_le_mul_right _ (by omega)
   omega⟩
  have hnd:((zQ k S).take (zbJ pts+1)).Nodup:=List.Sublist.nodup (List.take_sublist _ _) (zaR k2 S)
  have hlen:((zQ k S).take (zbJ pts+1)).length=zbJ pts+1:=by rw [List.length_take]; omega
  refine⟨_,rfl,p,tl,pl,us,cs,(zQ k S).take (zbJ pts+1),pts,rfl,hp,h1,hpt,hnd,by rw [hlen,hcn],by omega,fun t ht=>?_,s01 _ _ hpl,hcs.same s01,hg,hn,fun D c m H2 hD s2 h2 hc hm h1' hDp hI=>?_⟩
  ·have:=tin t ht
   have:=tle t
   omega
  rw [hlen] at hm
  have s02:=s01.trans s2
  have hDn:H D=none:=s01.free hD
  obtain⟨top,htop⟩:∃ top,((zQ k S).take (zbJ pts+1))[m]? = some top:=⟨((zQ k S).take (zbJ pts+1))[m]'(by omega),List.getElem?_eq_getElem _⟩
  have LS:=zlz (p:=p) (by omega) k2 (pts:=pts) (S:=S) (ts:=(zQ k S).take (zbJ pts+1)) (by rw [hcn]) hc htop h1' hDp hI
  have hso:((zQ k S).take (zbJ pts+1)).Pairwise fun a b=>tz k a≤tz k b:=List.Pairwise.sublist (List.take_sublist _ _) (zbV k2 S)
  have htopS:=tin top (List.mem_of_getElem? htop)
  generalize (zQ k S).take (zbJ pts+1)=ts at *
  have hcl2:c.length=m+1:=hc.1
  have hzl:((ts.map tK).zip (c.map V.int)).length=m+1:=by rw [List.length_zip,List.length_map,List.length_map]; omega
  refine⟨_,rfl,D,_,rfl,h2,fun o=>?_⟩
  have s3:zy H (upd H2 D (.frz o (.dT ((ts.map tK).zip (c.map V.int))))):=zS s02 hDn
  have h3:upd H2 D (.frz o (.dT ((ts.map tK).zip (c.map V.int)))) D=some (.frz o (.dT ((ts.map tK).zip (c.map V.int)))):=zc
  generalize upd H2 D (.frz o (.dT ((ts.map tK).zip (c.map V.int))))=H3 at s3 h3 ⊢
  refine zM (n:=m+1) (fun i ys H'=>H'=H3∧ys=((ts.take i).map fun t=>(tz k t:Int)).map V.int) ⟨rfl,rfl⟩ ?_ ?_ ?_ ?_
  ·rintro i ys H' hi ⟨rfl,_⟩
   exact⟨h3,by omega⟩
  ·rintro ys H' ⟨rfl,_⟩
   exact⟨h3,by omega⟩
  ·rintro i x ys H' H4 hi ⟨rfl,rfl⟩ ⟨rfl,a,ky,rfl,hky,ha⟩
   have hti:ts[i]? = some (ts[i]'(by omega)):=List.getElem?_eq_getElem (by omega)
   have ek:ky=tK (ts[i]'(by omega)):=by
    rw [List.getElem?_map] at hky
    obtain⟨q',hq',rfl⟩:=Option.map_eq_some_iff.mp hky
    have hq2:((ts.map tK).zip (c.map V.int))[i]? = some (q'.1,q'.2):=hq'
    rw [List.getElem?_zip_eq_some,List.getElem?_map,hti] at hq2
    exact (Option.some.inj hq2.1).symm
   subst ek
   generalize ts[i]'(by omega)=tt at hti ha
   have htt:tz k tt < S:=tin tt (List.mem_of_getElem? hti)
   have:=tle tt
   refine gY2 (SqT.of (xs:=[.int (tt.1:Int),.int (tt.2:Int)]) ha) ?_
   refine⟨_,rfl,_,rfl,_,_,rfl,rfl,_,rfl,_,_,rfl,rfl,.inl ⟨by omega,by omega⟩,_,_,rfl,rfl,?_⟩
   refine⟨by rw [List.length_map,List.length_map,List.length_take]; omega,rfl,?_⟩
   show _++[V.int ((tt.1:Int)+((k:Int) - 1)*(tt.2:Int))]=_
   rw [zfk k2,take_snoc hti,List.map_append,List.map_append]
   rfl
  rintro ys H' D2 ⟨rfl,rfl⟩ hD2
  refine⟨D2,(ts.take (m+1)).map fun t=>(tz k t:Int),rfl,SqL.of zc,fun e=>?_,fun M hM hM'=>?_⟩
  ·have:(ts.take (m+1)).length=0:=by rw [← List.length_map (f:=fun t=>(tz k t:Int)),e]; rfl
   rw [List.length_take] at this
   omega
  have eM:M=(tz k top:Int):=by
   obtain⟨t',ht',rfl⟩:=List.mem_map.mp hM
   obtain⟨i',hi'⟩:=List.mem_iff_getElem?.mp ht'
   have hlt':i' < m+1:=by have:=(List.getElem?_eq_some_iff.mp hi').1; rw [List.length_take] at this; omega
   rw [List.getElem?_take_of_lt hlt'] at hi'
   have b1:=zc0 hso hi' htop (by omega)
   have b2:=hM' (tz k top:Int) (List.mem_map.mpr ⟨top,List.mem_iff_getElem?.mpr ⟨m,by rw [List.getElem?_take_of_lt (by omega)]; exact htop⟩,rfl⟩)
   omega
  subst eM
  have w4:=zb (o:=.lst (((ts.take (m+1)).map fun t=>(tz k t:Int)).map V.int)) hD2
  have s4:=s3.trans w4
  have h4:=w4 _ _ h3
  generalize upd H' D2 (.lst (((ts.take (m+1)).map fun t=>(tz k t:Int)).map V.int))=H4 at s4 h4 ⊢
  have k1:0 < k - 1:=by omega
  have ek1:((k:Int) - 1)=((k - 1:Nat):Int):=by omega
  obtain⟨sz,esz⟩:∃ sz,tz k top=sz:=⟨_,rfl⟩
  rw [esz] at LS htopS ⊢
  have eN:((sz:Int) / ((k:Int) - 1)+1)=((sz / (k - 1)+1:Nat):Int):=by
   rw [ek1]
   exact congrArg (· + 1) (Int.natCast_ediv sz (k - 1)).symm
  have hqs:sz / (k - 1)≤sz:=Nat.div_le_self _ _
  have hget:=fun t=>zhp (ts:=ts) (c:=c) (t:=t)
  generalize (ts.map tK).zip (c.map V.int)=kvs at *
  generalize gof ts c=g at *
  refine⟨_,rfl,_,rfl,_,_,rfl,rfl,_,_,rfl,rfl,⟨by omega,by omega⟩,_,_,rfl,rfl,?_⟩
  refine⟨(sz:Int) / ((k:Int) - 1)+1,rfl,by rw [eN]; exact Int.le_trans (by decide) (Int.natCast_nonneg _),by rw [eN]; exact Int.lt_of_le_of_lt (Int.ofNat_le.mpr (show sz / (k - 1)+1≤301 from Nat.succ_le_succ (Nat.le_trans hqs (by omega)))) (by decide),?_⟩
  rw [eN,Int.toNat_natCast]
  refine zM (n:=sz / (k - 1)+1) (fun j ys H'=>zy H4 H'∧∃ us:List Addr,ys=us.map V.ref∧zd9 H' us ((zaC k sz g).take j)) ⟨fun _ _ e=>e,[],rfl,.nil⟩ (fun i ys H' hi _=>hi) (fun ys H' _=>Nat.le_refl _) ?_ ?_
  ·rintro j x ys H5 H6 hj ⟨s5,us,rfl,hus⟩ ⟨rfl,rfl⟩
   rw [show ((0:Int)+(j:Int))=(j:Int) from Int.zero_add _]
   have hjs:(k - 1)*j≤sz:=by
    have:=(Nat.le_div_iff_mul_le k1).mp (show j≤sz / (k - 1) by omega)
    rw [Nat.mul_comm]; exact this
   have hul:us.length=j:=by rw [Paired.length hus,List.length_take,zbq]; omega
   have eV:(sz:Int) - ((k:Int) - 1)*(j:Int)+1=((sz - (k - 1)*j+1:Nat):Int):=by
    rw [ek1,Int.natCast_add,Int.natCast_sub hjs,Int.natCast_mul]
    rfl
   refine gY ?_
   refine⟨_,rfl,_,rfl,_,_,rfl,rfl,_,rfl,_,_,rfl,rfl,.inl ⟨by omega,by omega⟩,_,_,rfl,rfl,_,_,rfl,rfl,?_⟩
   refine⟨(sz:Int) - ((k:Int) - 1)*(j:Int)+1,rfl,by rw [eV]; omega,by rw [eV]; omega,?_⟩
   rw [eV,Int.toNat_natCast]
   refine zM (n:=sz - (k - 1)*j+1) (fun i ys H'=>zy H6 H'∧ys=((List.range i).map fun i=>g (i,j)).map V.int) ⟨fun _ _ e=>e,rfl⟩ (fun i ys H' hi _=>hi) (fun ys H' _=>Nat.le_refl _) ?_ ?_
   ·rintro i x ys H7 H8 hi ⟨s7,rfl⟩ ⟨rfl,rfl⟩
    rw [show ((0:Int)+(i:Int))=(i:Int) from Int.zero_add _]
    have h7:=(s5.trans s7) _ _ h4
    refine gY ?_
    refine⟨_,rfl,D,rfl,.inr ⟨kvs,.inr ⟨o,h7⟩⟩,_,rfl,_,rfl,by show 2≤sizeLine; omega,fun T hT=>?_⟩
    have wT:=zb (o:=.tup [.int (i:Int),.int (j:Int)]) hT
    refine⟨_,.inr ⟨kvs,tK (i,j),T,.inr ⟨o,wT _ _ h7⟩,rfl,zc,rfl⟩,?_⟩
    rw [hget]
    refine⟨by rw [List.length_map,List.length_map,List.length_range]; omega,s7.trans wT,?_⟩
    rw [List.range_succ,List.map_append,List.map_append]
    rfl
   ·rintro ys H7 D5 ⟨s7,rfl⟩ hD5
    refine⟨D5,_,rfl,.inl ⟨SqL.of zc,fun l hl=>?_⟩⟩
    have w7:=(s7.trans (zb (o:=.lst (((List.range (sz - (k - 1)*j+1)).map fun i=>g (i,j)).map V.int)) hD5)).trans (zb (o:=.tup (((List.range (sz - (k - 1)*j+1)).map fun i=>g (i,j)).map V.int)) hl)
    refine⟨by rw [List.length_map]; omega,s5.trans w7,us++[l],by simp,?_⟩
    rw [zh6 hj]
    exact Paired.snoc (hus.same w7) zc
  ·rintro ys H5 L1 ⟨s5,us,rfl,hus⟩ hL1
   rw [List.take_of_length_le (by rw [zbq]; exact Nat.le_refl _)] at hus
   have w5:=s5.trans (zb (o:=.lst (us.map V.ref)) hL1)
   have hus5:=hus.same (zb (o:=.lst (us.map V.ref)) hL1)
   refine⟨_,rfl,_,rfl,L1,_,rfl,.inl ⟨SqL.of zc,fun r hr=>?_⟩⟩
   have w6:=w5.trans (zb (o:=.tup (us.map V.ref)) hr)
   have hus6:=hus5.same (zb (o:=.tup (us.map V.ref)) hr)
   refine⟨by show 2≤sizeLine; omega,fun z hz=>?_⟩
   have sf:=s4.trans w6
   have wz:=zb (o:=.tup [.int (sz:Int),.ref r]) hz
   exact q z r us sz g _ (sf.free hz) (sf.trans wz) zc (wz _ _ zc) (hus6.same wz) LS (by omega)
end
end My
end
section
set_option maxHeartbeats 3999000
namespace My
open PySem L2 PyProof.Rows
section
variable {P:Program} {w:World} {K:PySem.W.Frag} {mg:Str→Option Value} {base:Heap} {t:Adr}
def zdq (t:Adr) (K:PySem.W.Frag):Sp:=fun vs H Q E=>∃ (k:Nat),vs = [.int (k:Int)]∧((k < 2∧E (.ref t.NoCurve) none H)∨(2≤k∧Q .non H))
theorem zdr:FnScope ["k"] ["k"] (zh zaY):=⟨rfl,rfl,rfl,by decide +kernel,rfl,by decide +kernel,by decide +kernel⟩
theorem zds {fd:FuncData} (T:Txt K mg t) (F:Fun K "check_curves" "check_curves" zaY t.check_curves fd):FnOk P w K mg base (CX1 P w) 1 t.check_curves fd ["k"] (zdq t K):=by
 refine F.okX zdr (fun vs H Q E h=>?_) (fun cdv A outer s H vs Q E hr h=>?_)
 ·obtain⟨k,rfl,_⟩:=h
  rfl
 ·obtain⟨k,rfl,q⟩:=h
  refine⟨_,(@zj _ _ _ (@zaG _ _ _ _ _ _ _ _ (@zz _ _ _ _ _ _ _ _ (@zdF _) (@pvx _ 0 _ _ rfl) (@zf _ _ _ _) (zF _)) (@zj _ _ _ (@ziV _ _ _ _ _ _ _ _ _ (fun _ _ _ _ _ _ _ _ I m q=>zgv I m q) rfl rfl T.x_NoCurve T.xi_NoCurve (@zeL _ _ _ _) (by decide) (by rfl) (by rfl))) (@zY _))),?_⟩
  refine⟨_,rfl,_,_,rfl,rfl,_,rfl,?_⟩
  rcases q with ⟨h1,q⟩ | ⟨h1,q⟩
  ·refine zap (fun _=>?_) (fun h=>absurd (decide_eq_true (by omega)) h)
   exact⟨rfl,q⟩
  ·exact zap (fun h=>absurd (of_decide_eq_true h) (by omega)) (fun _=>q)
def wpt (m:Nat) (l:List (Int×Int)):List (Int×Int×Nat):=l.map fun q=>(q.1,q.2,m)
theorem zd2 (m:Nat):∀ l,zbJ (wpt m l)=l.length*tri m
 | []=>by simp [zbJ,wpt]
 | a :: l=>by
  have ih:=zd2 m l
  unfold zbJ wpt at ih ⊢
  (simp only [List.map_cons,List.sum_cons,List.length_cons])
  rw [ih,Nat.add_mul]
  omega
def zfl (t:Adr) (K:PySem.W.Frag):Sp:=fun vs H Q E=>∃ (c tt r:Addr) (p:Int) (k m:Nat) (pl:List Int) (rw:List (Option Int)),vs = [.ref c,.ref r,.int (m:Int)]∧zb4 H c tt p k pl∧H r=some (.lst (rw.map enc))∧rw.length=pl.length∧pl.length≤16∧p∈zH∧pl.Nodup∧(∀ x∈pl,0≤x∧x < p)∧(∀ z,some z∈rw→0≤z∧z < p)∧1≤k∧k≤100∧1≤m∧m≤9 ∧
 ((k < 2∧∀ H',zy H H'→E (.ref t.NoCurve) none H')∨(2≤k∧(hps pl rw).length*tri m≤199∧∀ (z r:Addr) (ls:List Addr) (size:Nat) (g:Tm→Int) (H':Hp),H z=none→zy H H'→H' z=some (.tup [.int (size:Int),.ref r])→H' r=some (.tup (ls.map V.ref))→zd9 H' ls (zaC k size g)→Lst p k (wpt m (hps pl rw)) size g→size≤200→Q (.ref z) H'))
theorem zbl:FnScope ["code","row","m","p","k","places"] ["code","row","m"] (zh zbe):=⟨rfl,rfl,rfl,by decide +kernel,rfl,by decide +kernel,by decide +kernel⟩
theorem zfm {fd:FuncData} (T:Txt K mg t) (F:Fun K "curve_for" "curve_for" zbe t.curve_for fd):FnOk P w K mg base (CX1 P w) 7 t.curve_for fd ["code","row","m"] (zfl t K):=by
 obtain⟨fd_check_curves,F_check_curves,b_check_curves⟩:=T.f_check_curves
 have G_check_curves:=zds (P:=P) (w:=w) (base:=base) T F_check_curves
 obtain⟨fd_least_curve,F_least_curve,b_least_curve⟩:=T.f_least_curve
 have G_least_curve:=zd1 (P:=P) (w:=w) (base:=base) T F_least_curve
 obtain⟨fd_heard_points,F_heard_points,b_heard_points⟩:=T.f_heard_points
 have G_heard_points:=zdn (P:=P) (w:=w) (base:=base) T F_heard_points
 refine F.okX zbl (fun vs H Q E h=>?_) (fun cdv A outer s H vs Q E hr h=>?_)
 ·obtain⟨c,tt,r,p,k,m,pl,rw,rfl,_⟩:=h
  rfl
 ·obtain⟨c,tt,r,p,k,m,pl,rw,rfl,hc,hra,hrl,hn,hp,hnd,hpl,hrw,k0,k1,m1,m9,q⟩:=h
  refine⟨_,(@zd _ _ _ _ _ (@zbo _ _ _ _ _ _ (@pvx _ 0 _ _ rfl) (@za0 _ _ _ _ _ _ rfl (@zk _ _ _ _ _ (@zi _ _ (3) _ zbl.nd rfl (Or.inl rfl) (by trivial)) (@zk _ _ _ _ _ (@zi _ _ (4) _ zbl.nd rfl (Or.inl rfl) (by trivial)) (@zk _ _ _ _ _ (@zi _ _ (5) _ zbl.nd rfl (Or.inl rfl) (by trivial)) (@zK _) (by rfl)) (by rfl)) (by rfl)) (by rfl) (by rfl)) (by rfl) (by rfl) (by rfl)) (by exact (@zd _ _ _ _ _ (@zaS _ _ _ _ (@zt _ _ _ _ _ _ _ _ _ _ _ _ _ _ _ _ G_check_curves (hr.mono (by decide)) rfl T.m_check_curves F_check_curves.kp b_check_curves .nil (@zgw _ _ _ _ _ _ _ _ _ _ _ _ _ _ _) (@za _ _ _ _ _ (@pvx _ 4 _ _ rfl) (@ze _) (by rfl)) (by decide) (by rfl) (by rfl)) (by rfl)) (by exact (@zj _ _ _ (@zB _ _ _ _ (@zt _ _ _ _ _ _ _ _ _ _ _ _ _ _ _ _ G_least_curve (hr.mono (by decide)) rfl T.m_least_curve F_least_curve.kp b_least_curve .nil (@zW _) (@za _ _ _ _ _ (@pvx _ 3 _ _ rfl) (@za _ _ _ _ _ (@pvx _ 4 _ _ rfl) (@za _ _ _ _ _ (@zG _ _ _ _ _ _ _ _ _ _ _ _ _ (CompSc.of (N':=["place","entry","m"]) (ix:=[none,none,some 2]) (zh zbe) ["code","row","m","p","k","places"] rfl rfl (by decide +kernel)) rfl (@zaH _ _ _ _ (@zr _ _ _ rfl (@zr _ _ _ rfl (@zaj _)))) (@z8 _ _ _ _ (@zt _ _ _ _ _ _ _ _ _ _ _ _ _ _ _ _ G_heard_points (hr.mono (by decide)) rfl T.m_heard_points F_heard_points.kp b_heard_points .nil (@zW _) (@za _ _ _ _ _ (@pvx _ 0 _ _ rfl) (@za _ _ _ _ _ (@pvx _ 1 _ _ rfl) (@ze _) (by rfl)) (by rfl)) (by decide) (by rfl) (by rfl))) (fun _ _ _ _=>(@zak _ (K) _ _ _ (2) _ rfl rfl (@zk _ _ _ _ _ (@zi _ _ (0) _ (show (["place","entry","m"]:List Str).Nodup by decide +kernel) rfl (Or.inl rfl) (by trivial)) (@zk _ _ _ _ _ (@zi _ _ (1) _ (show (["place","entry","m"]:List Str).Nodup by decide +kernel) rfl (Or.inl rfl) (by trivial)) (@zK _) (by rfl)) (by rfl)) (by rfl) (by rfl))) (fun _ _ _ _=>(@zw _)) (fun _ _ _ _=>(@zbg _ _ _ _ _ (@za _ _ _ _ _ (@pvx _ 0 _ _ rfl) (@za _ _ _ _ _ (@pvx _ 1 _ _ rfl) (@za _ _ _ _ _ (@pvx _ 2 _ _ rfl) (@ze _) (by rfl)) (by rfl)) (by rfl)))) (by intro _; rfl)) (@ze _) (by rfl)) (by rfl)) (by rfl)) (by decide) (by rfl) (by rfl)))))))),?_⟩
  have hsl:=sizeLine_eq
  have rp:=zU hp
  have hR:RowAt K H r pl.length rw:=⟨SqL.of hra,hrl⟩
  have hP:=zhd hnd hpl hrw
  have hhl:=zce pl rw
  refine⟨_,rfl,c,_,rfl,SqT.of hc.1,rfl,_,_,rfl,_,_,rfl,_,_,rfl,rfl,?_⟩
  rcases q with ⟨h1,q⟩ | ⟨h1,hA,q⟩
  ·exact⟨_,rfl,k,rfl,.inl ⟨h1,q H fun _ _ e=>e⟩⟩
  refine⟨_,rfl,k,rfl,.inr ⟨h1,?_⟩⟩
  refine⟨_,rfl,_,rfl,_,rfl,_,rfl,c,tt,r,p,k,pl,rw,rfl,hc,hR,by omega,fun l bs H1 hl1 s1 h1l hB=>?_⟩
  have hbl:bs.length=(hps pl rw).length:=hB.length
  refine⟨l,rfl,⟨_,SqL.of h1l⟩,zM (n:=bs.length) (fun i ys H'=>zy H1 H'∧∃ us:List Addr,ys=us.map V.ref∧W3 H' us (wpt m ((hps pl rw).take i))) ⟨fun _ _ e=>e,[],rfl,.nil⟩ ?_ ?_ ?_ ?_⟩
  ·rintro i ys H4 hi ⟨s4,_⟩
   exact⟨_,.ref (bs[i]'(by omega)),SqL.of (s4 _ _ h1l),by rw [List.getElem?_map,List.getElem?_eq_getElem (by omega)]; rfl⟩
  ·rintro ys H4 ⟨s4,_⟩
   exact⟨_,SqL.of (s4 _ _ h1l),by rw [List.length_map]; exact Nat.le_refl _⟩
  ·rintro i z ys H4 H5 hi ⟨s4,us,rfl,hus⟩ ⟨rfl,hx⟩
   obtain⟨b,rfl,hbm⟩:=z9 (hx _ (SqL.of (s4 _ _ h1l)))
   obtain⟨q',hq',hT⟩:=Paired.get (hB.same s4) hbm
   have hz:us.length=i:=by rw [Paired.length hus]; unfold wpt; rw [List.length_map,List.length_take]; omega
   refine gY2 (SqT.of hT) ?_
   refine⟨_,rfl,_,rfl,_,rfl,by show 3≤sizeLine; omega,fun T hT'=>⟨by rw [List.length_map]; omega,s4.trans (zb hT'),us++[T],by simp,?_⟩⟩
   rw [take_snoc hq']
   unfold wpt
   rw [List.map_append]
   exact Paired.snoc (hus.same (zb hT')) zc
  ·rintro ys H4 D ⟨s4,us,rfl,hus⟩ hD
   rw [List.take_of_length_le (by omega)] at hus
   have w4:=s4.trans (zb (o:=.lst (us.map V.ref)) hD)
   refine⟨p,k,D,us,wpt m (hps pl rw),rfl,hp,h1,k1,zc,hus.same (zb hD),fun q' hq'=>?_,by rw [zci,zd2]; exact hA,by unfold wpt; rw [List.length_map]; omega,fun z r' ls size g H5 hz s5 h5 h6 h7 hL hs=>?_⟩
   ·obtain⟨a,ha,rfl⟩:=List.mem_map.mp hq'
    obtain⟨g1,g2,g3,g4⟩:=hP.rg a ha
    exact⟨g1,g2,g3,g4,m1,m9⟩
   ·have s14:=s1.trans w4
    exact q z r' ls size g H5 (s14.free hz) (s14.trans s5) h5 h6 h7 hL hs
end
end My
end
section
set_option maxHeartbeats 3999000
namespace My
open PySem L2 PyProof.Rows
section
variable {P:Program} {w:World} {K:PySem.W.Frag} {mg:Str→Option Value} {base:Heap} {t:Adr}
def zf3 (K:PySem.W.Frag):Sp:=fun vs H Q _=>∃ (p x:Int) (m:Nat),vs = [.int p,.int x,.int (m:Int)]∧5≤p∧p≤97∧0≤x∧x < p∧1≤m∧m≤1000 ∧
 ∀ (l:Addr) (H':Hp),H l=none→zy H H'→H' l=some (.lst ((zbk p x m).map V.int))→Q (.ref l) H'
theorem zde:FnScope ["p","x","many","found"] ["p","x","many"] (zh zbW):=⟨rfl,rfl,rfl,by decide +kernel,rfl,by decide +kernel,by decide +kernel⟩
theorem zdf {fd:FuncData} (T:Txt K mg t) (F:Fun K "_law_powers" "_law_powers" zbW t.l_powers fd):FnOk P w K mg base CX0 1 t.l_powers fd ["p","x","many"] (zf3 K):=by
 refine F.ok zde (fun vs H Q E h=>?_) (fun cdv A outer s H vs Q E hr h=>?_)
 ·obtain⟨p,x,m,rfl,_⟩:=h
  rfl
 ·obtain⟨p,x,m,rfl,p5,p97,x0,x1,m1,m2,q⟩:=h
  refine⟨_,(@zd _ _ _ _ _ (@zm _ _ (3) _ _ _ _ zde.nd rfl (Or.inl rfl) (@zN _ _ _ _ (@za _ _ _ _ _ (@zf _ _ _ _) (@ze _) (by rfl))) (by rfl) (by trivial)) (by exact (@zd _ _ _ _ _ (@zdD _ _ _ _ _ _ PassesOwn.never (@zz _ _ _ _ _ _ _ _ (@zdF _) (@zn _ _ _ _ _ _ _ _ _ (@zx _) (by rfl) T.len_ boot_len (@za _ _ _ _ _ (@pvx _ 3 _ _ rfl) (@ze _) (by rfl)) (by decide) (by decide) (by rfl) (by rfl)) (@pvx _ 2 _ _ rfl) (zF _)) (@zj _ _ _ (@zaS _ _ _ _ (@zbF _ _ _ _ _ _ _ _ _ _ _ _ PySem.F.plainAttrs_list PySem.F.slot_list_append PySem.F.type_list_append (@za1 _) (@pvx _ 3 _ _ rfl) (@za _ _ _ _ _ (@zg _ _ _ _ _ _ _ _ (@zC _) (@zg _ _ _ _ _ _ _ _ (@zD _) (@zu _ _ _ _ _ _ _ (@zq _) (@pvx _ 3 _ _ rfl) (@ziq _ _ _ _ _ _ zgd (@zf _ _ _ _)) (fun _ _=>rfl)) (@pvx _ 1 _ _ rfl)) (@pvx _ 0 _ _ rfl)) (@ze _) (by rfl)) (by rfl) (by rfl) (by rfl) (by rfl) (by rfl)) (by rfl)))) (by exact (@zj _ _ _ (@zB _ _ _ _ (@zbp _ _ _ _ _ _ _ _ _ _ zbQ (@pvx _ 3 _ _ rfl) (@zcb _) (@zbt _ _ _ (@pvx _ 2 _ _ rfl))))))))),?_⟩
  have hsl:=sizeLine_eq
  refine⟨by show 1≤sizeLine; omega,fun l hl=>?_⟩
  have e1:(zbk p x 1).map V.int = [V.int 1]:=by
   show [V.int (x ^ 0 % p)] = [V.int 1]
   rw [Int.pow_zero,Int.emod_eq_of_lt (by omega) (by omega)]
  refine⟨fun μ σ H'=>∃ n:Nat,μ=m - n∧1≤n∧n≤m∧σ = [some (.int p),some (.int x),some (.int (m:Int)),some (.ref l)]∧zy H H'∧H' l=some (.lst ((zbk p x n).map V.int)),⟨m - 1,1,rfl,Nat.le_refl _,m1,rfl,zb hl,by rw [e1]; exact zc⟩,?_⟩
  rintro μ σ H1 ⟨n,rfl,n1,nm,rfl,s1,h1⟩
  refine⟨_,rfl,l,_,rfl,.inl (SqL.of h1),_,rfl,_,_,rfl,rfl,_,rfl,?_⟩
  rw [List.length_map,zcM]
  refine zap (fun hlt=>?_) (fun hge=>?_)
  ·have hlt:=of_decide_eq_true hlt
   have hlt:n < m:=by omega
   obtain⟨n',rfl⟩:∃ n',n=n'+1:=⟨n - 1,by omega⟩
   have g0:=Int.emod_nonneg (x ^ n') (show p≠0 by omega)
   have g1:=Int.emod_lt_of_pos (x ^ n') (show 0 < p by omega)
   refine⟨fun σ' H'=>∃ m',m' < m - (n'+1)∧∃ n:Nat,m'=m - n∧1≤n∧n≤m∧σ' = [some (.int p),some (.int x),some (.int (m:Int)),some (.ref l)]∧zy H H'∧H' l=some (.lst ((zbk p x n).map V.int)),fun _ _ z=>z,?_⟩
   have hat:atI ((zbk p x (n'+1)).map V.int) (-1)=some (.int (x ^ n' % p)):=by
    rw [zeG,List.map_append]
    exact zhl
   refine⟨_,rfl,.inl ⟨rfl,_,SqL.of h1⟩,_,rfl,_,rfl,l,_,_,.int (x ^ n' % p),rfl,rfl,SqL.of h1,hat,_,rfl,_,_,rfl,rfl,.inl ⟨by omega,by omega⟩,_,rfl,_,_,rfl,rfl,by omega,l,_,_,rfl,rfl,h1,by rw [List.length_map,zcM]; omega,?_⟩
   refine⟨m - (n'+2),by omega,n'+2,rfl,by omega,by omega,rfl,zS s1 hl,?_⟩
   rw [zc,zeG p x (n'+1),List.map_append]
   have:x ^ n' % p*x % p=x ^ (n'+1) % p:=by
    rw [Int.pow_succ]
    exact ((Cg.emod p _).mul (Cg.refl p x)).mod_eq
   show some (HO.lst (_++[V.int (x ^ n' % p*x % p)]))=_
   rw [this]
   rfl
  ·have hge:¬ ((n:Int) < (m:Int)):=fun h=>hge (decide_eq_true h)
   have hnm:n=m:=by omega
   subst hnm
   refine⟨_,rfl,_,rfl,_,rfl,l,_,rfl,SqL.of h1,fun z hz=>?_⟩
   have ec:zco ((zbk p x n).map V.int) none (some (n:Int))=(zbk p x n).map V.int:=by
    unfold zco
    rw [HT.sIx_nat,HT.sIx_none,List.drop_zero,Nat.sub_zero,List.length_map,zcM,Nat.min_self,List.take_of_length_le (by rw [List.length_map,zcM]; exact Nat.le_refl _)]
   rw [ec]
   exact q z _ (s1.free hz) (s1.trans (zb hz)) zc
theorem ch0 (t:Nat):ch t 0=1:=by cases t <;> rfl
def zf4 (K:PySem.W.Frag):Sp:=fun vs H Q _=>∃ (m f:Nat),vs = [.int (m:Int),.int (f:Int)]∧m≤1000∧f≤1000∧Q (.int (ch m f)) H
theorem zbw:FnScope ["many","few","found","k"] ["many","few"] (zh zbX):=⟨rfl,rfl,rfl,by decide +kernel,rfl,by decide +kernel,by decide +kernel⟩
theorem zdg {fd:FuncData} (T:Txt K mg t) (F:Fun K "_law_choose" "_law_choose" zbX t.l_choose fd):FnOk P w K mg base CX0 1 t.l_choose fd ["many","few"] (zf4 K):=by
 refine F.ok zbw (fun vs H Q E h=>?_) (fun cdv A outer s H vs Q E hr h=>?_)
 ·obtain⟨m,f,rfl,_⟩:=h
  rfl
 ·obtain⟨m,f,rfl,hm,hf,q⟩:=h
  refine⟨_,(@zd _ _ _ _ _ (@zm _ _ (2) _ _ _ _ zbw.nd rfl (Or.inl rfl) (@zf _ _ _ _) (by rfl) (by trivial)) (by exact (@zd _ _ _ _ _ (@zai _ _ _ _ _ _ _ _ PassesOwn.never rfl (@zI _ _ _ _ _ _ rfl T.range_ (@za _ _ _ _ _ (@pvx _ 1 _ _ rfl) (@ze _) (by rfl)) (by rfl)) (@zi _ _ (3) _ zbw.nd rfl (Or.inl rfl) (by trivial)) (@zj _ _ _ (@zm _ _ (2) _ _ _ _ zbw.nd rfl (Or.inl rfl) (@zg _ _ _ _ _ _ _ _ (@zaA _) (@zg _ _ _ _ _ _ _ _ (@zD _) (@pvx _ 2 _ _ rfl) (@zg _ _ _ _ _ _ _ _ (@zV _) (@pvx _ 0 _ _ rfl) (@pvx _ 3 _ _ rfl))) (@zg _ _ _ _ _ _ _ _ (@zJ _) (@pvx _ 3 _ _ rfl) (@zf _ _ _ _))) (by rfl) (by trivial))) (by intro _; rfl)) (by exact (@zj _ _ _ (@zB _ _ _ _ (@pvx _ 2 _ _ rfl))))))),?_⟩
  refine⟨_,rfl,(f:Int),rfl,by omega,by omega,zam (lo:=0) (n:=(f:Int).toNat) (fun i σ H'=>H'=H∧∃ e:Option V,σ = [some (.int (m:Int)),some (.int (f:Int)),some (.int (ch m i)),e]) ⟨rfl,none,by rw [ch0]; rfl⟩ ?_ ?_⟩
  ·rintro i σ H1 hi ⟨rfl,e,rfl⟩
   refine⟨_,rfl,_,rfl,_,rfl,_,_,rfl,rfl,_,_,rfl,rfl,.inr ⟨by omega,by omega⟩,_,rfl,_,_,rfl,rfl,_,_,rfl,rfl,⟨by omega,by omega⟩,?_⟩
   have e1:ch m i*((m:Int) - (0+(i:Int))) / ((0+(i:Int))+1)=ch m (i+1):=by rw [Int.zero_add]; exact zlw
   refine⟨rfl,some (.int (0+(i:Int))),?_⟩
   rw [← e1]
   rfl
  ·rintro σ H1 ⟨rfl,e,rfl⟩
   have e1:(f:Int).toNat=f:=by omega
   rw [e1]
   exact⟨_,rfl,q⟩
def zh7 (K:PySem.W.Frag):Sp:=fun vs H Q _=>∃ (k:Int) (a:Addr) (bs:List Addr) (rows:List (List Int)),vs = [.int k,.ref a]∧0≤k∧k≤1000∧H a=some (.tup (bs.map V.ref))∧zd9 H bs rows∧rows.length≤250∧(∀ r∈rows,r.length≤250)∧zcy rows rows.length≠[] ∧
 ∀ (M:Int) (H':Hp),zy H H'→M∈szs k (zcy rows rows.length)→(∀ x∈szs k (zcy rows rows.length),x≤M)→Q (.int M) H'
theorem zcn:FnScope ["k","curve","sizes","j","line"] ["k","curve"] (zh zb7):=⟨rfl,rfl,rfl,by decide +kernel,rfl,by decide +kernel,by decide +kernel⟩
theorem zh8 {fd:FuncData} (T:Txt K mg t) (F:Fun K "_law_size" "_law_size" zb7 t.l_size fd):FnOk P w K mg base CX0 1 t.l_size fd ["k","curve"] (zh7 K):=by
 refine F.ok zcn (fun vs H Q E h=>?_) (fun cdv A outer s H vs Q E hr h=>?_)
 ·obtain⟨k,a,bs,rows,rfl,_⟩:=h
  rfl
 ·obtain⟨k,a,bs,rows,rfl,k0,k1,ha,hb,hn,hw,hne,q⟩:=h
  refine⟨_,(@zd _ _ _ _ _ (@zm _ _ (2) _ _ _ _ zcn.nd rfl (Or.inl rfl) (@zN _ _ _ _ (@ze _)) (by rfl) (by trivial)) (by exact (@zd _ _ _ _ _ (@zai _ _ _ _ _ _ _ _ PassesOwn.never rfl (@zfA _ _ _ _ _ _ _ _ rfl T.enumerate_ (@za _ _ _ _ _ (@pvx _ 1 _ _ rfl) (@ze _) (by rfl)) (by rfl)) (@za0 _ _ _ _ _ _ rfl (@zk _ _ _ _ _ (@zi _ _ (3) _ zcn.nd rfl (Or.inr rfl) (by trivial)) (@zk _ _ _ _ _ (@zi _ _ (4) _ zcn.nd rfl (Or.inl rfl) (by trivial)) (@zK _) (by rfl)) (by rfl)) (by rfl) (by rfl)) (@zj _ _ _ (@zaS _ _ _ _ (@zbF _ _ _ _ _ _ _ _ _ _ _ _ PySem.F.plainAttrs_list PySem.F.slot_list_extend PySem.F.type_list_extend (@zeu _) (@pvx _ 2 _ _ rfl) (@za _ _ _ _ _ (@zG _ _ _ _ _ _ _ _ _ _ _ _ _ (CompSc.of (N':=["i","number","k","j"]) (ix:=[none,none,some 0,some 3]) (zh zb7) ["k","curve","sizes","j","line"] rfl rfl (by decide +kernel)) rfl (@zaH _ _ _ _ (@zr _ _ _ rfl (@zr _ _ _ rfl (@zaj _)))) (@zfA _ _ _ _ _ _ _ _ rfl T.enumerate_ (@za _ _ _ _ _ (@pvx _ 4 _ _ rfl) (@ze _) (by rfl)) (by rfl)) (fun _ _ _ _=>(@zak _ (K) _ _ _ (2) _ rfl rfl (@zk _ _ _ _ _ (@zi _ _ (0) _ (show (["i","number","k","j"]:List Str).Nodup by decide +kernel) rfl (Or.inl rfl) (by trivial)) (@zk _ _ _ _ _ (@zi _ _ (1) _ (show (["i","number","k","j"]:List Str).Nodup by decide +kernel) rfl (Or.inl rfl) (by trivial)) (@zK _) (by rfl)) (by rfl)) (by rfl) (by rfl))) (fun _ _ _ _=>(@zbG _ _ _ (@zz _ _ _ _ _ _ _ _ (@zc5 _) (@pvx _ 1 _ _ rfl) (@zf _ _ _ _) (zF _)))) (fun _ _ _ _=>(@zg _ _ _ _ _ _ _ _ (@zJ _) (@pvx _ 0 _ _ rfl) (@zg _ _ _ _ _ _ _ _ (@zD _) (@zg _ _ _ _ _ _ _ _ (@zV _) (@pvx _ 2 _ _ rfl) (@zf _ _ _ _)) (@pvx _ 3 _ _ rfl)))) (by intro _; rfl)) (@ze _) (by rfl)) (by rfl) (by rfl) (by rfl) (by rfl) (by rfl)) (by rfl))) (by intro _; rfl)) (by exact (@zj _ _ _ (@zB _ _ _ _ (@zn _ _ _ _ _ _ _ _ _ (@zbm _ rfl) (by rfl) T.max_ boot_max (@za _ _ _ _ _ (@pvx _ 2 _ _ rfl) (@ze _) (by rfl)) (by decide) (by decide) (by rfl) (by rfl)))))))),?_⟩
  have hsl:=sizeLine_eq
  have hlen:=Paired.length hb
  refine⟨Nat.zero_le _,fun S hS=>?_⟩
  refine⟨_,rfl,a,_,rfl,SqT.of ((zb hS) _ _ ha),zgj (n:=rows.length) (fun m σ H'=>∃ e3 e4:Option V,σ = [some (.int k),some (.ref a),some (.ref S),e3,e4]∧zy H H'∧H' S=some (.lst ((szs k (zcy rows m)).map V.int))) ⟨none,none,rfl,zb hS,zc⟩ ?_ ?_ ?_ ?_⟩
  ·rintro m σ H1 hm ⟨e3,e4,rfl,s1,h1⟩
   exact⟨_,.ref (bs[m]'(by omega)),SqT.of (s1 _ _ ha),by rw [List.getElem?_map,List.getElem?_eq_getElem (by omega)]; rfl⟩
  ·rintro σ H1 ⟨e3,e4,rfl,s1,h1⟩
   exact⟨_,SqT.of (s1 _ _ ha),by rw [List.length_map]; omega⟩
  ·rintro m y σ H1 H2 hm ⟨e3,e4,rfl,s1,h1⟩ ⟨T,v,hT,rfl,rfl,hv⟩
   obtain⟨b,rfl,hbm⟩:=z9 (hv _ (SqT.of (s1 _ _ ha)))
   obtain⟨r,hr,hrb⟩:=Paired.get hb hbm
   have hrl:=hw r (List.mem_of_getElem? hr)
   have er:rows.getD m []=r:=by simp [List.getD,hr]
   refine⟨T,_,rfl,SqT.of zc,rfl,_,_,rfl,_,_,rfl,rfl,?_⟩
   have sT:=s1.trans (zb (o:=.tup [.int m,.ref b]) hT)
   have h2:=(zb (o:=.tup [.int m,.ref b]) hT) _ _ h1
   generalize upd H1 T (.tup [.int m,.ref b])=H2 at sT h2 ⊢
   have h2b:=sT _ _ hrb
   refine⟨_,rfl,.inl ⟨rfl,_,SqL.of h2⟩,_,rfl,b,_,rfl,SqT.of h2b,zM (n:=r.length) (fun j ys H'=>ys=(szs k (trm m r j)).map V.int∧zy H2 H') ⟨rfl,fun _ _ e=>e⟩ ?_ ?_ ?_ ?_⟩
   ·rintro j ys H3 hj ⟨rfl,s3⟩
    exact⟨_,.int (r[j]'hj),SqT.of (s3 _ _ h2b),by rw [List.getElem?_map,List.getElem?_eq_getElem hj]; rfl⟩
   ·rintro ys H3 ⟨rfl,s3⟩
    exact⟨_,SqT.of (s3 _ _ h2b),by rw [List.length_map]; omega⟩
   ·rintro j z ys H3 H4 hj ⟨rfl,s3⟩ ⟨T',v',hT',rfl,rfl,hv'⟩
    obtain⟨x,rfl,hx⟩:=zal (hv' _ (SqT.of (s3 _ _ h2b)))
    have hgx:gl r j=x:=zbI hx
    have sT':=s3.trans (zb (o:=.tup [.int j,.int x]) hT')
    have l2:=zfd m r j
    refine⟨T',_,rfl,SqT.of zc,rfl,_,_,rfl,_,_,rfl,rfl,?_⟩
    generalize upd H3 T' (.tup [.int j,.int x])=H4 at sT' ⊢
    refine⟨_,rfl,rfl,_,rfl,?_⟩
    refine zap (fun hx0=>?_) (fun hx0=>?_)
    ·have hx0:x≠0:=by simpa using hx0
     refine⟨_,rfl,_,rfl,_,_,rfl,rfl,_,rfl,_,_,rfl,rfl,.inl ⟨by omega,by omega⟩,_,_,rfl,rfl,by rw [List.length_map,zfe]; omega,?_,sT'⟩
     rw [zfX,if_pos (by rw [hgx]; exact hx0),zhk,List.map_append]
     rfl
    ·have hx0:x=0:=by simpa using hx0
     refine⟨?_,sT'⟩
     rw [zfX,if_neg (by rw [hgx,hx0]; simp)]
   ·rintro ys H3 D ⟨rfl,s3⟩ hD
    have h3S:=s3 _ _ h2
    have dS:D≠S:=(zp h3S hD).symm
    have l1:=zeH hw m
    have l2:=zfd m r r.length
    refine⟨S,D,_,_,rfl,rfl,by rw [zl dS.symm]; exact h3S,zc,by rw [List.length_map,List.length_map,zfe,zfe]; omega,?_⟩
    refine⟨_,_,rfl,zS ((sT.trans s3).trans (zb hD)) hS,?_⟩
    rw [zc,zeF,er,zhk,List.map_append]
  ·rintro σ H1 ⟨e3,e4,rfl,s1,h1⟩
   exact⟨_,rfl,S,_,rfl,SqL.of h1,by unfold szs; simpa using hne,fun M hM hM'=>q M _ s1 hM hM'⟩
theorem zjE {p:Int} (p0:0 < p) {n:Nat} {M:List (List Int)} (hM:∀ row∈M,row.length=n):Gs p n M 0 [] (M.map fun row=>row.map fun c=>c % p):=by
 refine⟨by rw [List.length_map],fun row hr=>?_,fun v=>?_,Nat.zero_le _,fun i c row h=>by simp at h,fun i row _ _ j hj=>by omega,List.nodup_nil,fun c hc=>by cases hc⟩
 ·obtain⟨r,hr',rfl⟩:=List.mem_map.mp hr
  refine⟨by rw [List.length_map]; exact hM r hr',fun c hc=>?_⟩
  obtain⟨d,_,rfl⟩:=List.mem_map.mp hc
  exact⟨Int.emod_nonneg _ (by omega),Int.emod_lt_of_pos _ p0⟩
 ·have hd:∀ row∈M,Cg p (dot n (row.map fun c=>c % p) v) (dot n row v):=fun row hr=>by
   unfold dot
   exact zdb fun j hj=>by
    rw [zi5 (f:=fun c=>c % p) (by rw [hM row hr]; exact hj)]
    exact (Cg.emod _ _).mul (Cg.refl p _)
  constructor
  ·intro h i row hi
   exact (hd row (List.mem_of_getElem? hi)).symm.trans (h i _ (by rw [List.getElem?_map,hi]; rfl))
  ·intro h i row hi
   rw [List.getElem?_map] at hi
   cases hA:M[i]? with
   | none=>rw [hA] at hi; cases hi
   | some r =>
    rw [hA] at hi
    cases hi
    exact (hd r (List.mem_of_getElem? hA)).trans (h i r hA)
def LsN (ra:Addr) (H:Hp):List Addr→List (List Int)→Prop:=Paired fun b v=>H b=some (.lst (v.map V.int))∧b≠ra
theorem LsN.same {ra:Addr} {H H':Hp} (s:zy H H') {bs:List Addr} {vv:List (List Int)} (h:LsN ra H bs vv):LsN ra H' bs vv:=Paired.mono (fun _ _ ⟨z,z'⟩=>⟨s _ _ z,z'⟩) h
theorem LsN.put {ra:Addr} {H:Hp} {bs:List Addr} {vv:List (List Int)} {o:HO} (h:LsN ra H bs vv):LsN ra (upd H ra o) bs vv:=Paired.mono (fun _ _ ⟨z,z'⟩=>⟨by rw [zl z']; exact z,z'⟩) h
theorem LsN.set {ra:Addr} {H:Hp} {bs:List Addr} {vv:List (List Int)} (h:LsN ra H bs vv):∀ (i:Nat) {b:Addr} {v:List Int},H b=some (.lst (v.map V.int))→b≠ra→LsN ra H (bs.set i b) (vv.set i v):=by
 induction h with
 | nil=>intro i b v _ _; exact .nil
 | cons r t ih =>
  intro i b v h1 h2
  cases i with
  | zero=>exact .cons ⟨h1,h2⟩ t
  | succ i=>exact .cons r (ih i h1 h2)
def zh9 (K:PySem.W.Frag):Sp:=fun vs H Q _=>∃ (p:Int) (a:Addr) (bs:List Addr) (M:List (List Int)) (n:Nat),vs = [.int p,.ref a]∧H a=some (.lst (bs.map V.ref))∧LsA H bs M∧M≠[]∧M.length≤1000∧n≤1000∧(∀ row∈M,row.length=n)∧p∈zH ∧
 ∀ (pv:List Nat) (H':Hp),zy H H'→RK p n M pv→Q (.int (pv.length:Int)) H'
theorem zaF:FnScope ["p","rows","rank","at","some","first","k","by"] ["p","rows"] (zh zbf):=⟨rfl,rfl,rfl,by decide +kernel,rfl,by decide +kernel,by decide +kernel⟩
theorem zia {fd:FuncData} (T:Txt K mg t) (F:Fun K "_law_rank" "_law_rank" zbf t.l_rank fd):FnOk P w K mg base CX0 1 t.l_rank fd ["p","rows"] (zh9 K):=by
 refine F.ok zaF (fun vs H Q E h=>?_) (fun cdv A outer s H vs Q E hr h=>?_)
 ·obtain⟨p,a,bs,M,n,rfl,_⟩:=h
  rfl
 ·obtain⟨p,a,bs,M,n,rfl,ha,hB,hne,hM,hn,hrow,hp,q⟩:=h
  have hu:(A.deeper (envOfC (Str.ofString "_law_rank") (zh zbf) s.heap.objs.size t.l_rank cdv)).units+20 < cLine:=by have:=hr.units; omega
  refine⟨_,(@zd _ _ _ _ _ (@zm _ _ (1) _ _ _ _ zaF.nd rfl (Or.inr rfl) (@zG _ _ _ _ _ _ _ _ _ _ _ _ _ (CompSc.of (N':=["row","p"]) (ix:=[none,some 0]) (zh zbf) ["p","rows","rank","at","some","first","k","by"] rfl rfl (by decide +kernel)) rfl (@z0 _ _ rfl) (@z8 _ _ _ _ (@pvx _ 1 _ _ rfl)) (fun _ _ _ _=>(@zi _ _ (0) _ (show (["row","p"]:List Str).Nodup by decide +kernel) rfl (Or.inl rfl) (by trivial))) (fun _ _ _ _=>(@zw _)) (fun _ _ _ _=>(@zG _ _ _ _ _ _ _ _ _ _ _ _ _ (CompSc.of (N':=["number","p"]) (ix:=[none,some 1]) ({ kind:=.function,names:=[(".0",.local),("row",.local),("p",.cell)],isGenerator:=false,isCoroutine:=false }) ["row","p"] (by with_unfolding_all rfl) rfl (by decide +kernel)) rfl (@z0 _ _ rfl) (@zja _ (K) _ _ _ rfl (@pvx _ 0 _ _ rfl)) (fun _ _ _ _=>(@zi _ _ (0) _ (show (["number","p"]:List Str).Nodup by decide +kernel) rfl (Or.inl rfl) (by trivial))) (fun _ _ _ _=>(@zw _)) (fun _ _ _ _=>(@zg _ _ _ _ _ _ _ _ (@zC _) (@pvx _ 0 _ _ rfl) (@pvx _ 1 _ _ rfl))) (by intro _; rfl))) (by intro _; rfl)) (by rfl) (by trivial)) (by exact (@zd _ _ _ _ _ (@zm _ _ (2) _ _ _ _ zaF.nd rfl (Or.inl rfl) (@zf _ _ _ _) (by rfl) (by trivial)) (by exact (@zd _ _ _ _ _ (@zai _ _ _ _ _ _ _ _ PassesOwn.never rfl (@zI _ _ _ _ _ _ rfl T.range_ (@za _ _ _ _ _ (@zcB _ _ _ _ _ _ _ _ (@zz _ _ _ _ _ _ _ _ (@zeY _ hu) (@pvx _ 1 _ _ rfl) (@zN _ _ _ _ (@ze _)) (zF _)) (@zn _ _ _ _ _ _ _ _ _ (@zx _) (by rfl) T.len_ boot_len (@za _ _ _ _ _ (@zu _ _ _ _ _ _ _ (@zq _) (@pvx _ 1 _ _ rfl) (@zf _ _ _ _) (fun _ _=>rfl)) (@ze _) (by rfl)) (by decide) (by decide) (by rfl) (by rfl)) (@zf _ _ _ _)) (@ze _) (by rfl)) (by rfl)) (@zi _ _ (3) _ zaF.nd rfl (Or.inr rfl) (by trivial)) (@zd _ _ _ _ _ (@zaL _ _ _ _ _ _ _ _ _ _ _ _ _ (4) _ _ _ zaF.nd rfl (Or.inl rfl) (CompSc.of (N':=["k","rows","at"]) (ix:=[none,some 1,some 3]) (zh zbf) ["p","rows","rank","at","some","first","k","by"] rfl rfl (by decide +kernel)) rfl (@z0 _ _ rfl) (@zcV _ _ _ _ _ _ _ rfl T.range_ (@za _ _ _ _ _ (@pvx _ 2 _ _ rfl) (@za _ _ _ _ _ (@zn _ _ _ _ _ _ _ _ _ (@zx _) (by rfl) T.len_ boot_len (@za _ _ _ _ _ (@pvx _ 1 _ _ rfl) (@ze _) (by rfl)) (by decide) (by decide) (by rfl) (by rfl)) (@ze _) (by rfl)) (by rfl)) (by rfl) (by rfl)) (fun _ _ _ _=>(@zi _ _ (0) _ (show (["k","rows","at"]:List Str).Nodup by decide +kernel) rfl (Or.inl rfl) (by trivial))) (fun _ _ _ _=>(@zbG _ _ _ (@zz _ _ _ _ _ _ _ _ (@zc5 _) (@zu _ _ _ _ _ _ _ (@zaq _ (K) rfl) (@zu _ _ _ _ _ _ _ (@zaq _ (K) rfl) (@pvx _ 1 _ _ rfl) (@pvx _ 0 _ _ rfl) (fun _ _=>rfl)) (@pvx _ 2 _ _ rfl) (fun _ _=>rfl)) (@zf _ _ _ _) (zF _)))) (fun _ _ _ _=>(@pvx _ 0 _ _ rfl)) (by rfl) (by intro _; rfl) (by trivial)) (by exact (@zj _ _ _ (@zaG _ _ _ _ _ _ _ _ (@zz _ _ _ _ _ _ _ _ (@zeY _ hu) (@pvx _ 4 _ _ rfl) (@zN _ _ _ _ (@ze _)) (zF _)) (@zd _ _ _ _ _ (@zm _ _ (5) _ _ _ _ zaF.nd rfl (Or.inr rfl) (@zu _ _ _ _ _ _ _ (@zq _) (@pvx _ 1 _ _ rfl) (@zu _ _ _ _ _ _ _ (@zq _) (@pvx _ 4 _ _ rfl) (@zf _ _ _ _) (fun _ _=>rfl)) (fun _ _=>rfl)) (by rfl) (by trivial)) (by exact (@zd _ _ _ _ _ (@zbo _ _ _ _ _ _ (@zu _ _ _ _ _ _ _ (@zq _) (@pvx _ 1 _ _ rfl) (@pvx _ 2 _ _ rfl) (fun _ _=>rfl)) (@zeN _ _ _ _ _ _ _ (@pvx _ 1 _ _ rfl) (@zu _ _ _ _ _ _ _ (@zq _) (@pvx _ 4 _ _ rfl) (@zf _ _ _ _) (fun _ _=>rfl)) set_list (by intro _; rfl)) (by rfl) (by rfl) (by rfl)) (by exact (@zd _ _ _ _ _ (@zbo _ _ _ _ _ _ (@pvx _ 5 _ _ rfl) (@zeN _ _ _ _ _ _ _ (@pvx _ 1 _ _ rfl) (@pvx _ 2 _ _ rfl) set_list (by intro _; rfl)) (by rfl) (by rfl) (by rfl)) (by exact (@zd _ _ _ _ _ (@zai _ _ _ _ _ _ _ _ PassesOwn.never rfl (@zcV _ _ _ _ _ _ _ rfl T.range_ (@za _ _ _ _ _ (@zg _ _ _ _ _ _ _ _ (@zJ _) (@pvx _ 2 _ _ rfl) (@zf _ _ _ _)) (@za _ _ _ _ _ (@zn _ _ _ _ _ _ _ _ _ (@zx _) (by rfl) T.len_ boot_len (@za _ _ _ _ _ (@pvx _ 1 _ _ rfl) (@ze _) (by rfl)) (by decide) (by decide) (by rfl) (by rfl)) (@ze _) (by rfl)) (by rfl)) (by rfl) (by rfl)) (@zi _ _ (6) _ zaF.nd rfl (Or.inl rfl) (by trivial)) (@zd _ _ _ _ _ (@zm _ _ (7) _ _ _ _ zaF.nd rfl (Or.inr rfl) (@zu _ _ _ _ _ _ _ (@zq _) (@zu _ _ _ _ _ _ _ (@zq _) (@pvx _ 1 _ _ rfl) (@pvx _ 6 _ _ rfl) (fun _ _=>rfl)) (@pvx _ 3 _ _ rfl) (fun _ _=>rfl)) (by rfl) (by trivial)) (by exact (@zj _ _ _ (@zaG _ _ _ _ _ _ _ _ (@zz _ _ _ _ _ _ _ _ (@zc5 _) (@pvx _ 7 _ _ rfl) (@zf _ _ _ _) (zF _)) (@zj _ _ _ (@zbo _ _ _ _ _ _ (@zG _ _ _ _ _ _ _ _ _ _ _ _ _ (CompSc.of (N':=["one","other","first","at","by","p"]) (ix:=[none,none,some 5,some 3,some 7,some 0]) (zh zbf) ["p","rows","rank","at","some","first","k","by"] rfl rfl (by decide +kernel)) rfl (@zaH _ _ _ _ (@zr _ _ _ rfl (@zr _ _ _ rfl (@zaj _)))) (@zdt _ _ _ _ _ _ _ _ _ rfl T.zip_ (@za _ _ _ _ _ (@zu _ _ _ _ _ _ _ (@zq _) (@pvx _ 1 _ _ rfl) (@pvx _ 6 _ _ rfl) (fun _ _=>rfl)) (@za _ _ _ _ _ (@pvx _ 5 _ _ rfl) (@ze _) (by rfl)) (by rfl)) (by rfl) (by rfl)) (fun _ _ _ _=>(@zak _ (K) _ _ _ (2) _ rfl rfl (@zk _ _ _ _ _ (@zi _ _ (0) _ (show (["one","other","first","at","by","p"]:List Str).Nodup by decide +kernel) rfl (Or.inl rfl) (by trivial)) (@zk _ _ _ _ _ (@zi _ _ (1) _ (show (["one","other","first","at","by","p"]:List Str).Nodup by decide +kernel) rfl (Or.inl rfl) (by trivial)) (@zK _) (by rfl)) (by rfl)) (by rfl) (by rfl))) (fun _ _ _ _=>(@zw _)) (fun _ _ _ _=>(@zg _ _ _ _ _ _ _ _ (@zC _) (@zg _ _ _ _ _ _ _ _ (@zV _) (@zg _ _ _ _ _ _ _ _ (@zD _) (@pvx _ 0 _ _ rfl) (@zu _ _ _ _ _ _ _ (@zaq _ (K) rfl) (@pvx _ 2 _ _ rfl) (@pvx _ 3 _ _ rfl) (fun _ _=>rfl))) (@zg _ _ _ _ _ _ _ _ (@zD _) (@pvx _ 4 _ _ rfl) (@pvx _ 1 _ _ rfl))) (@pvx _ 5 _ _ rfl))) (by intro _; rfl)) (@zeN _ _ _ _ _ _ _ (@pvx _ 1 _ _ rfl) (@pvx _ 6 _ _ rfl) set_list (by intro _; rfl)) (by rfl) (by rfl) (by rfl))) (@zY _))))) (by intro _; rfl)) (by exact (@zj _ _ _ (@zm _ _ (2) _ _ _ _ zaF.nd rfl (Or.inl rfl) (@zg _ _ _ _ _ _ _ _ (@zJ _) (@pvx _ 2 _ _ rfl) (@zf _ _ _ _)) (by rfl) (by trivial))))))))))) (@zY _))))) (by intro _; rfl)) (by exact (@zj _ _ _ (@zB _ _ _ _ (@pvx _ 2 _ _ rfl))))))))),?_⟩
  have hsl:=sizeLine_eq
  have rp:=zU hp
  have p0:0 < p:=by omega
  have hbl:=hB.length
  have hM0:=List.length_pos_iff.mpr hne
  obtain⟨R0,hR0⟩:∃ R0,R0=M.map fun row=>row.map fun c=>c % p:=⟨_,rfl⟩
  refine⟨_,rfl,a,rfl,⟨_,SqL.of ha⟩,zM (n:=bs.length) (fun i ys H'=>zy H H'∧∃ us:List Addr,ys=us.map V.ref∧LsA H' us (R0.take i)) ⟨fun _ _ e=>e,[],rfl,.nil⟩ ?_ ?_ ?_ ?_⟩
  ·rintro i ys H1 hi ⟨s1,_⟩
   exact⟨_,.ref bs[i],SqL.of (s1 _ _ ha),by rw [List.getElem?_map,List.getElem?_eq_getElem hi]; rfl⟩
  ·rintro ys H1 ⟨s1,_⟩
   exact⟨_,SqL.of (s1 _ _ ha),by rw [List.length_map]; exact Nat.le_refl _⟩
  ·rintro i y ys H1 H2 hi ⟨s1,us,rfl,hus⟩ ⟨rfl,hy⟩
   obtain⟨b,rfl,hb⟩:=z9 (hy _ (SqL.of (s1 _ _ ha)))
   obtain⟨row,hri,hat⟩:=Paired.get hB hb
   have hrn:=hrow row (List.mem_of_getElem? hri)
   have hul:=hus.length
   rw [List.length_take] at hul
   have h1b:=s1 _ _ hat
   refine gY ⟨_,rfl,b,rfl,⟨_,SqL.of h1b⟩,za2 (fs:=(row.map fun c=>c % p).map V.int) (SqL.of h1b) (by rw [List.length_map,List.length_map,List.length_map]) (by rw [List.length_map]; omega) ?_ ?_⟩
   ·intro j x y R B hx hy hR
    obtain⟨m,rfl,hm⟩:=zal hx
    obtain⟨m',rfl,hm'⟩:=zal hy
    rw [List.getElem?_map,hm] at hm'
    cases hm'
    exact gY ⟨_,rfl,_,rfl,_,_,rfl,rfl,p0,hR⟩
   ·intro D hD
    have hri':R0[i]? = some (row.map fun c=>c % p):=by rw [hR0,List.getElem?_map,hri]; rfl
    refine⟨by rw [List.length_map]; omega,s1.trans (zb hD),us++[D],by rw [List.map_append]; rfl,?_⟩
    rw [take_snoc hri']
    exact Paired.snoc (hus.same (zb hD)) zc
  rintro ys H1 ra ⟨s1,us,rfl,hus⟩ hra
  have hR0l:R0.length=M.length:=by rw [hR0,List.length_map]
  rw [hbl,← hR0l,List.take_length] at hus
  have G0:=zjE p0 hrow
  rw [← hR0] at G0
  have husN:LsN ra H1 us R0:=Paired.mono (fun b v z=>⟨z,fun e=>by rw [e,hra] at z; cases z⟩) hus
  have h2r:upd H1 ra (.lst (us.map V.ref)) ra=some (.lst (us.map V.ref)):=zc
  have t2:=zb (o:=.lst (us.map V.ref)) hra
  have hus2:LsN ra (upd H1 ra (.lst (us.map V.ref))) us R0:=husN.put
  have hraH:H ra=none:=s1.free hra
  have s2:=s1.trans t2
  generalize upd H1 ra (.lst (us.map V.ref))=H2 at h2r t2 hus2 s2 ⊢
  have hul:=hus2.length
  refine⟨_,rfl,Nat.zero_le _,fun z hz=>?_⟩
  have t3:=zb (o:=.lst []) hz
  have h3r:=t3 _ _ h2r
  have hus3:=hus2.same t3
  have s3:=s2.trans t3
  refine⟨ra,z,_,_,rfl,rfl,.inl ⟨SqL.of h3r,SqL.of zc⟩,.inl ⟨by rw [List.length_map]; show us.length≠0; omega,fun j x y _ hy=>by simp at hy,?_⟩⟩
  generalize upd H2 z (.lst [])=H3 at t3 h3r hus3 s3 ⊢
  obtain⟨u0,hu0⟩:∃ u0,us[0]? = some u0:=⟨us[0]'(by omega),by simp⟩
  obtain⟨v0,hv0,hv0a,_⟩:=Paired.get hus3 hu0
  have hv0n:v0.length=n:=(G0.rw v0 (List.mem_of_getElem? hv0)).1
  refine⟨_,rfl,?_⟩
  refine zap (fun _=>?_) (fun h=>absurd rfl h)
  refine⟨_,rfl,ra,_,_,.ref u0,rfl,rfl,SqL.of h3r,zL (j:=0) (by rw [List.getElem?_map,hu0]; rfl),u0,_,rfl,.inl (SqL.of hv0a),_,rfl,by rw [List.length_map]; omega,by rw [List.length_map]; omega,?_⟩
  rw [List.length_map,hv0n,Int.toNat_natCast]
  refine zam (lo:=0) (n:=n) (fun at' σ H'=>∃ (us:List Addr) (R:List (List Int)) (pv:List Nat) (e3 e4 e5 e6 e7:Option V),σ = [some (.int p),some (.ref ra),some (.int (pv.length:Int)),e3,e4,e5,e6,e7]∧zy H H'∧H' ra=some (.lst (us.map V.ref))∧LsN ra H' us R∧Gs p n M at' pv R) ⟨us,R0,[],none,none,none,none,none,rfl,s3,h3r,hus3,G0⟩ ?_ ?_
  ·rintro at' σ H4 hat ⟨us,R,pv,e3,e4,e5,e6,e7,rfl,s4,h4r,hus4,G⟩
   have hul:=hus4.length
   have hRl:=G.ln
   have hpvl:=G.pvl
   refine⟨_,rfl,_,rfl,ra,_,rfl,.inl (SqL.of h4r),_,_,rfl,⟨by omega,by omega,by rw [List.length_map]; omega,by rw [List.length_map]; omega⟩,?_⟩
   have en:(((us.map V.ref).length:Int) - (pv.length:Int)).toNat=R.length - pv.length:=by rw [List.length_map]; omega
   rw [en]
   have hRat:∀ i,i < R.length→∃ b row,us[i]? = some b∧R[i]? = some row∧H4 b=some (.lst (row.map V.int))∧b≠ra∧row.length=n∧∀ c∈row,0≤c∧c < p:=fun i hi=>by
    obtain⟨b,hb⟩:∃ b,us[i]? = some b:=⟨us[i]'(by omega),by simp⟩
    obtain⟨row,h1,h2,h3⟩:=Paired.get hus4 hb
    exact⟨b,row,hb,h1,h2,h3,G.rw row (List.mem_of_getElem? h1)⟩
   have hvl:∀ i row,R[i]? = some row→gl (R.getD i []) at'=gl row at':=fun i row h=>by rw [List.getD_eq_getElem?_getD,h]; rfl
   refine zM (n:=R.length - pv.length) (fun j ys H'=>H'=H4∧ys=(((List.range j).filter fun m=>decide (gl (R.getD (pv.length+m) []) at'≠0)).map fun m:Nat=>((pv.length+m:Nat):Int)).map V.int) ⟨rfl,rfl⟩ (fun j ys H' hj _=>hj) (fun ys H' _=>Nat.le_refl _) ?_ ?_
   ·rintro j xx ys H5 H6 hj ⟨rfl,rfl⟩ ⟨rfl,rfl⟩
    obtain⟨b,row,hb,hrow',hba,_,hrl,hrr⟩:=hRat (pv.length+j) (by omega)
    have hix:atI (us.map V.ref) ((pv.length:Int)+(j:Int))=some (.ref b):=by
     rw [← Int.natCast_add]
     exact zL (by rw [List.getElem?_map,hb]; rfl)
    refine⟨_,rfl,_,rfl,ra,_,_,.ref b,rfl,rfl,SqL.of h4r,hix,_,rfl,b,_,_,.int (gl row at'),rfl,rfl,SqL.of hba,by rw [Int.zero_add]; exact zL (by rw [List.getElem?_map,zaM (by omega)]; rfl),rfl,_,rfl,?_⟩
    have hfl:=List.length_filter_le (fun m=>decide (gl (R.getD (pv.length+m) []) at'≠0)) (List.range j)
    rw [List.length_range] at hfl
    rw [List.range_succ,List.filter_append,List.map_append,List.map_append]
    have hv:=hvl _ _ hrow'
    by_cases h0:gl row at'=0
    ·refine zap (fun h=>absurd h (by rw [h0]; simp)) (fun _=>⟨rfl,?_⟩)
     rw [List.filter_cons_of_neg (by rw [hv]; simpa using h0),List.filter_nil,List.map_nil,List.map_nil,List.append_nil]
    ·refine zap (fun _=>⟨_,rfl,zaa (by rw [List.length_map,List.length_map]; omega),rfl,?_⟩) (fun h=>absurd (by simpa using h0) h)
     rw [List.filter_cons_of_pos (by rw [hv]; simpa using h0),List.filter_nil,← Int.natCast_add]
     rfl
   ·rintro ys H5 sm' ⟨rfl,rfl⟩ hsm
    have t6:=zb (o:=.lst ((((List.range (R.length - pv.length)).filter fun m=>decide (gl (R.getD (pv.length+m) []) at'≠0)).map fun m:Nat=>((pv.length+m:Nat):Int)).map V.int)) hsm
    have h6s:upd H5 sm' (.lst ((((List.range (R.length - pv.length)).filter fun m=>decide (gl (R.getD (pv.length+m) []) at'≠0)).map fun m:Nat=>((pv.length+m:Nat):Int)).map V.int)) sm'=_:=zc
    generalize upd H5 sm' (.lst ((((List.range (R.length - pv.length)).filter fun m=>decide (gl (R.getD (pv.length+m) []) at'≠0)).map fun m:Nat=>((pv.length+m:Nat):Int)).map V.int))=H6 at t6 h6s ⊢
    have h6r:=t6 _ _ h4r
    have hus6:=hus4.same t6
    have s6:=s4.trans t6
    refine⟨_,rfl,Nat.zero_le _,fun z2 hz2=>?_⟩
    have t7:=zb (o:=.lst []) hz2
    cases hfs:(List.range (R.length - pv.length)).filter fun m=>decide (gl (R.getD (pv.length+m) []) at'≠0) with
    | nil =>
     rw [hfs] at h6s
     refine⟨sm',z2,_,_,rfl,rfl,.inl ⟨SqL.of (t7 _ _ h6s),SqL.of zc⟩,.inr ⟨rfl,fun _=>true,fun j x y hx _=>by simp at hx,?_⟩⟩
     refine⟨_,rfl,?_⟩
     refine zap (fun h=>absurd h (by simp)) (fun _=>?_)
     refine⟨us,R,pv,_,_,_,_,_,rfl,s6.trans t7,t7 _ _ h6r,hus6.same t7,zkh G fun i row h1 h2=>?_⟩
     have hi:=(List.getElem?_eq_some_iff.mp h2).1
     have:=List.filter_eq_nil_iff.mp hfs (i - pv.length) (List.mem_range.mpr (by omega))
     rw [show pv.length+(i - pv.length)=i by omega,hvl i row h2] at this
     simpa using this
    | cons m0 ms =>
     rw [hfs] at h6s
     have hm0:m0∈(List.range (R.length - pv.length)).filter fun m=>decide (gl (R.getD (pv.length+m) []) at'≠0):=by rw [hfs]; exact List.mem_cons_self
     obtain⟨hm1,hm2⟩:=List.mem_filter.mp hm0
     have hm1:=List.mem_range.mp hm1
     refine⟨sm',z2,_,_,rfl,rfl,.inl ⟨SqL.of (t7 _ _ h6s),SqL.of zc⟩,.inl ⟨by simp,fun j x y _ hy=>by simp at hy,?_⟩⟩
     refine⟨_,rfl,?_⟩
     refine zap (fun _=>?_) (fun h=>absurd rfl h)
     generalize upd H6 z2 (.lst [])=H7 at t7 ⊢
     have h7s:=t7 _ _ h6s
     have h7r:=t7 _ _ h6r
     have hus7:=hus6.same t7
     have s7:=s6.trans t7
     obtain⟨k0,hk0⟩:∃ k0,k0=pv.length+m0:=⟨_,rfl⟩
     have hat0:atI ((((m0 :: ms).map fun m:Nat=>((pv.length+m:Nat):Int))).map V.int) 0=some (.int (k0:Int)):=by rw [hk0]; exact zL (j:=0) rfl
     obtain⟨bf,first,hbf,hRf,hbfa,hbfn,hfl,hfr⟩:=hRat k0 (by omega)
     obtain⟨bo,other,hbo,hRo,hboa,hbon,hol,hor⟩:=hRat pv.length (by omega)
     have hf0:gl first at'≠0:=by
      rw [← hk0,hvl k0 first hRf] at hm2
      simpa using hm2
     refine⟨_,rfl,_,rfl,sm',_,_,.int (k0:Int),rfl,rfl,SqL.of h7s,hat0,ra,_,_,.ref bf,rfl,rfl,SqL.of h7r,zL (by rw [List.getElem?_map,hbf]; rfl),?_⟩
     refine⟨_,rfl,_,rfl,ra,_,_,.ref bo,rfl,rfl,SqL.of h7r,zL (by rw [List.getElem?_map,hbo]; rfl),_,rfl,_,rfl,sm',_,_,.int (k0:Int),rfl,rfl,SqL.of h7s,hat0,ra,_,_,k0,rfl,rfl,h7r,zdv (by rw [List.length_map]; omega),?_⟩
     refine⟨_,rfl,_,rfl,_,rfl,ra,_,_,pv.length,rfl,rfl,zc,zdv (by rw [List.length_set,List.length_map]; omega),?_⟩
     rw [zgU]
     have esw:((us.map V.ref).set k0 (.ref bo)).set pv.length (.ref bf)=((us.set k0 bo).set pv.length bf).map V.ref:=by rw [List.map_set,List.map_set]
     rw [esw]
     have L0:=zji G (k0:=k0) (by omega) hRf hRo hf0
     have h8r:upd H7 ra (.lst (((us.set k0 bo).set pv.length bf).map V.ref)) ra=some (.lst (((us.set k0 bo).set pv.length bf).map V.ref)):=zc
     have hus8:LsN ra (upd H7 ra (.lst (((us.set k0 bo).set pv.length bf).map V.ref))) ((us.set k0 bo).set pv.length bf) ((R.set k0 other).set pv.length first):=LsN.set (LsN.set hus7.put k0 (by rw [zl hbon]; exact (t6.trans t7) _ _ hboa) hbon) pv.length (by rw [zl hbfn]; exact (t6.trans t7) _ _ hbfa) hbfn
     have h8f:upd H7 ra (.lst (((us.set k0 bo).set pv.length bf).map V.ref)) bf=some (.lst (first.map V.int)):=by rw [zl hbfn]; exact (t6.trans t7) _ _ hbfa
     have s8:zy H (upd H7 ra (.lst (((us.set k0 bo).set pv.length bf).map V.ref))):=zS s7 hraH
     generalize upd H7 ra (.lst (((us.set k0 bo).set pv.length bf).map V.ref))=H8 at h8r hus8 h8f s8 ⊢
     generalize (us.set k0 bo).set pv.length bf=us8 at h8r hus8 ⊢
     generalize (R.set k0 other).set pv.length first=R8 at L0 hus8
     have hR8:=L0.ln
     have hu8:=hus8.length
     refine⟨_,rfl,_,_,rfl,rfl,_,rfl,ra,_,rfl,.inl (SqL.of h8r),_,_,rfl,⟨by omega,by omega,by rw [List.length_map]; omega,by rw [List.length_map]; omega⟩,?_⟩
     have en2:(((us8.map V.ref).length:Int) - ((pv.length:Int)+1)).toNat=R8.length - (pv.length+1):=by rw [List.length_map]; omega
     rw [en2]
     have hlo:(pv.length:Int)+1=((pv.length+1:Nat):Int):=by omega
     refine zam (lo:=(pv.length:Int)+1) (n:=R8.length - (pv.length+1)) (fun m σ H'=>∃ (us:List Addr) (R:List (List Int)) (e6 e7:Option V),σ = [some (.int p),some (.ref ra),some (.int (pv.length:Int)),some (.int (0+(at':Int))),some (.ref sm'),some (.ref bf),e6,e7]∧zy H H'∧H' ra=some (.lst (us.map V.ref))∧LsN ra H' us R∧H' bf=some (.lst (first.map V.int))∧El p n M at' pv first (pv.length+1+m) R) ⟨us8,R8,_,_,rfl,s8,h8r,hus8,h8f,L0⟩ ?_ ?_
     ·rintro m σ H9 hm ⟨us9,R9,f6,f7,rfl,s9,h9r,hus9,h9f,L⟩
      have hR9:=L.ln
      have hu9:=hus9.length
      have hkl:pv.length+1+m < R9.length:=by omega
      obtain⟨b,hb⟩:∃ b,us9[pv.length+1+m]? = some b:=⟨us9[pv.length+1+m]'(by omega),by simp⟩
      obtain⟨row,hrw9,hba,hbn⟩:=Paired.get hus9 hb
      obtain⟨hrl,hrr⟩:=L.rw row (List.mem_of_getElem? hrw9)
      have hkx:(pv.length:Int)+1+(m:Int)=((pv.length+1+m:Nat):Int):=by omega
      have hix:atI (us9.map V.ref) ((pv.length:Int)+1+(m:Int))=some (.ref b):=by
       rw [hkx]
       exact zL (by rw [List.getElem?_map,hb]; rfl)
      have hax:atI (row.map V.int) (0+(at':Int))=some (.int (gl row at')):=by
       rw [Int.zero_add]
       exact zL (by rw [List.getElem?_map,zaM (by omega)]; rfl)
      have hfx:atI (first.map V.int) (0+(at':Int))=some (.int (gl first at')):=by
       rw [Int.zero_add]
       exact zL (by rw [List.getElem?_map,zaM (by omega)]; rfl)
      refine⟨_,rfl,_,rfl,ra,_,_,.ref b,rfl,rfl,SqL.of h9r,hix,_,rfl,b,_,_,.int (gl row at'),rfl,rfl,SqL.of hba,hax,?_⟩
      refine⟨_,rfl,rfl,_,rfl,?_⟩
      obtain⟨q0,q1⟩:=zcx p0 hrr at'
      obtain⟨w0,w1⟩:=zcx p0 hfr at'
      by_cases h0:gl row at'=0
      ·refine zap (fun h=>absurd h (by rw [h0]; simp)) (fun _=>?_)
       exact⟨us9,R9,_,_,rfl,s9,h9r,hus9,h9f,by rw [← Nat.add_assoc]; exact zki L hrw9 h0⟩
      ·refine zap (fun _=>?_) (fun h=>absurd (by simpa using h0) h)
       refine⟨_,rfl,_,rfl,ra,_,_,.ref b,rfl,rfl,SqL.of h9r,hix,_,rfl,b,bf,_,_,rfl,SqL.of hba,SqL.of h9f,zeA (n:=n) (f:=fun one other=>(one*gl first at' - gl row at'*other) % p) hba h9f (by omega) (by omega) (.inl (by omega)) (by omega) ?_ ?_⟩
       ·intro j u w Hx T R' B hu hv sx hT hR
        have hu2:=hrr u (List.mem_of_getElem? hu)
        have hfT:=sx.trans (zb (o:=.tup [.int u,.int w]) hT)
        refine gY2 (SqT.of zc) ?_
        exact⟨_,rfl,_,rfl,_,rfl,bf,_,_,.int (gl first at'),rfl,rfl,SqL.of (hfT _ _ h9f),hfx,_,_,rfl,rfl,.inl ⟨by omega,by omega⟩,_,rfl,_,rfl,_,_,rfl,rfl,.inl ⟨by omega,by omega⟩,_,_,rfl,rfl,_,rfl,_,_,rfl,rfl,p0,hR⟩
       ·intro D Hx sx hD
        have tx:=sx.trans (zb (o:=.lst ((List.zipWith (fun one other=>(one*gl first at' - gl row at'*other) % p) row first).map V.int)) hD)
        have hxD:upd Hx D (.lst ((List.zipWith (fun one other=>(one*gl first at' - gl row at'*other) % p) row first).map V.int)) D=some (.lst ((List.zipWith (fun one other=>(one*gl first at' - gl row at'*other) % p) row first).map V.int)):=zc
        have hDr:D≠ra:=fun e=>by
         have:=sx _ _ h9r
         rw [← e,hD] at this
         cases this
        have L2:=zkj hp L hat (by omega) hrw9
        generalize upd Hx D (.lst ((List.zipWith (fun one other=>(one*gl first at' - gl row at'*other) % p) row first).map V.int))=Hy at tx hxD ⊢
        generalize List.zipWith (fun one other=>(one*gl first at' - gl row at'*other) % p) row first=nw at L2 hxD
        have hyr:=tx _ _ h9r
        refine⟨_,rfl,_,rfl,ra,_,_,pv.length+1+m,rfl,rfl,hyr,by rw [hkx]; exact zdv (by rw [List.length_map]; omega),?_⟩
        refine⟨us9.set (pv.length+1+m) D,R9.set (pv.length+1+m) nw,_,_,rfl,zS (s9.trans tx) hraH,by rw [zc,List.map_set],LsN.set (hus9.same tx).put _ (by rw [zl hDr]; exact hxD) hDr,by rw [zl hbfn]; exact tx _ _ h9f,by rw [← Nat.add_assoc]; exact L2⟩
     ·rintro σ H9 ⟨us9,R9,f6,f7,rfl,s9,h9r,hus9,h9f,L⟩
      have hR9:=L.ln
      have hfl':=(List.getElem?_eq_some_iff.mp L.fs).1
      refine⟨_,rfl,_,_,rfl,rfl,?_⟩
      have epv:(pv.length:Int)+1=((pv++[at']).length:Int):=by
       rw [List.length_append]
       show _=((pv.length+1:Nat):Int)
       omega
      exact⟨us9,R9,pv++[at'],some (.int (0+(at':Int))),some (.ref sm'),some (.ref bf),f6,f7,congrArg (fun v:Int=>[some (V.int p),some (.ref ra),some (.int v),some (.int (0+(at':Int))),some (.ref sm'),some (.ref bf),f6,f7]) epv,s9,h9r,hus9,zlx L (by omega)⟩
  ·rintro σ H4 ⟨us,R,pv,e3,e4,e5,e6,e7,rfl,s4,h4r,hus4,G⟩
   exact⟨_,rfl,q pv H4 s4 (zmb hp G)⟩
end
end My
end
section
set_option maxHeartbeats 3999000
namespace My
open PySem L2 PyProof.Rows
section
variable {P:Program} {w:World} {K:PySem.W.Frag} {mg:Str→Option Value} {base:Heap} {t:Adr}
def zib (rows:List (List Int)) (x y:Int) (u v:Nat):Int:=sm rows.length fun t=>sm (rows.getD t []).length fun s=>gl (rows.getD t []) s*cv (s,t) ⟨x,y,u,v⟩
def byv (p x:Int) (u s:Nat):Int:=if u≤s then ch s u*(x ^ (s - u) % p) else 0
def byL (p x:Int) (u n:Nat):List Int:=(List.range n).map (byv p x u)
theorem zlD (p x:Int) (u s:Nat):Cg p (byv p x u s) (cf x s u):=by
 unfold byv cf
 by_cases h:u≤s
 ·rw [if_pos h]
  exact (Cg.refl p _).mul (Cg.emod p _)
 ·rw [if_neg h,zbv (by omega),Int.zero_mul]
  exact Cg.refl p 0
def sms (p x:Int) (u:Nat) (r:List Int):Int:=sm r.length fun s=>gl r s*byv p x u s
theorem zc1 {f:Nat→Int}:∀ n,((List.range n).map f).sum=sm n f
 | 0=>rfl
 | n+1=>by
  rw [List.range_succ,List.map_append,List.sum_append,zc1 n]
  show _+(f n+0)=_+f n
  omega
def tot (p x y:Int) (rows:List (List Int)) (u v m:Nat):Int:=sm m fun k=>sms p x u (rows.getD (v+k) [])*ch (v+k) v*(y ^ (v+k - v) % p)
theorem zlE {p x y:Int} {rows:List (List Int)} {u v:Nat}:Cg p (tot p x y rows u v (rows.length - v)) (zib rows x y u v):=by
 unfold tot zib
 by_cases h:v≤rows.length
 ·have e1:rows.length=v+(rows.length - v):=by omega
  have:sm rows.length (fun t=>sm (rows.getD t []).length fun s=>gl (rows.getD t []) s*cv (s,t) ⟨x,y,u,v⟩)=sm (rows.length - v) fun k=>sm (rows.getD (v+k) []).length fun s=>gl (rows.getD (v+k) []) s*cv (s,v+k) ⟨x,y,u,v⟩:=by
   conv=>lhs; rw [e1]
   rw [zfT,zaU (n:=v),Int.zero_add]
   intro t ht
   refine zaU fun s _=>?_
   unfold cv cf
   rw [zbv ht]
   simp
  rw [this]
  refine zdb fun k _=>?_
  unfold sms
  have e2:sm (rows.getD (v+k) []).length (fun s=>gl (rows.getD (v+k) []) s*cv (s,v+k) ⟨x,y,u,v⟩)=sm (rows.getD (v+k) []).length (fun s=>gl (rows.getD (v+k) []) s*cf x s u)*ch (v+k) v*y ^ (v+k - v):=by
   rw [show sm (rows.getD (v+k) []).length (fun s=>gl (rows.getD (v+k) []) s*cv (s,v+k) ⟨x,y,u,v⟩)=sm (rows.getD (v+k) []).length (fun s=>(ch (v+k) v*y ^ (v+k - v))*(gl (rows.getD (v+k) []) s*cf x s u)) from zar fun s _=>by unfold cv cf; grind,zdR]
   grind
  rw [e2]
  exact ((zdb fun s _=>(Cg.refl p _).mul (zlD p x u s)).mul (Cg.refl p _)).mul (Cg.emod p _)
 ·rw [show rows.length - v=0 by omega]
  refine Cg.of_eq (Eq.symm (zaU fun t ht=>zaU fun s _=>?_))
  unfold cv cf
  have ht':t < v:=by omega
  rw [zbv ht']
  simp
def zf5 (K:PySem.W.Frag):Sp:=fun vs H Q _=>∃ (p:Int) (a pt:Addr) (x y:Int) (m:Nat) (bs:List Addr) (rows:List (List Int)),vs = [.int p,.ref a,.ref pt,.int (m:Int)]∧5≤p∧p≤97∧0≤x∧x < p∧0≤y∧y < p∧m≤4∧H a=some (.tup (bs.map V.ref))∧zd9 H bs rows∧H pt=some (.tup [.int x,.int y])∧1≤rows.length∧rows.length≤201∧(∀ r∈rows,1≤r.length∧r.length≤201∧∀ v∈r,0≤v∧v < p) ∧
 (∀ u v,u+v < m→Cg p (zib rows x y u v) 0)∧∀ H',zy H H'→Q (.bl true) H'
theorem zad:FnScope ["p","curve","point","m","a","b","wide","right","up","i","by","sums","j"] ["p","curve","point","m"] (zh zax):=⟨rfl,rfl,rfl,by decide +kernel,rfl,by decide +kernel,by decide +kernel⟩
theorem zf6 {fd:FuncData} (T:Txt K mg t) (F:Fun K "_law_passes" "_law_passes" zax t.l_passes fd):FnOk P w K mg base CX0 2 t.l_passes fd ["p","curve","point","m"] (zf5 K):=by
 obtain⟨fd_l_powers,F_l_powers,b_l_powers⟩:=T.f_l_powers
 have G_l_powers:=zdf (P:=P) (w:=w) (base:=base) T F_l_powers
 obtain⟨fd_l_choose,F_l_choose,b_l_choose⟩:=T.f_l_choose
 have G_l_choose:=zdg (P:=P) (w:=w) (base:=base) T F_l_choose
 refine F.ok zad (fun vs H Q E h=>?_) (fun cdv A outer s H vs Q E hr h=>?_)
 ·obtain⟨p,a,pt,x,y,m,bs,rows,rfl,_⟩:=h
  rfl
 ·obtain⟨p,a,pt,x,y,m,bs,rows,rfl,p5,p97,x0,x1,y0,y1,m4,ha,hb,hpt,hn1,hn,hw,hz,q⟩:=h
  refine⟨_,(@zd _ _ _ _ _ (@zbo _ _ _ _ _ _ (@pvx _ 2 _ _ rfl) (@za0 _ _ _ _ _ _ rfl (@zk _ _ _ _ _ (@zi _ _ (4) _ zad.nd rfl (Or.inl rfl) (by trivial)) (@zk _ _ _ _ _ (@zi _ _ (5) _ zad.nd rfl (Or.inl rfl) (by trivial)) (@zK _) (by rfl)) (by rfl)) (by rfl) (by rfl)) (by rfl) (by rfl) (by rfl)) (by exact (@zd _ _ _ _ _ (@zm _ _ (6) _ _ _ _ zad.nd rfl (Or.inl rfl) (@zn _ _ _ _ _ _ _ _ _ (@zbm _ rfl) (by rfl) T.max_ boot_max (@za _ _ _ _ _ (@zG _ _ _ _ _ _ _ _ _ _ _ _ _ (CompSc.of (N':=["line"]) (ix:=[none]) (zh zax) ["p","curve","point","m","a","b","wide","right","up","i","by","sums","j"] rfl rfl (by decide +kernel)) rfl (@z0 _ _ rfl) (@zeP _ _ _ _ (@pvx _ 1 _ _ rfl)) (fun _ _ _ _=>(@zi _ _ (0) _ (show (["line"]:List Str).Nodup by decide +kernel) rfl (Or.inl rfl) (by trivial))) (fun _ _ _ _=>(@zw _)) (fun _ _ _ _=>(@zn _ _ _ _ _ _ _ _ _ (@zbA _ (K) rfl) (by rfl) T.len_ boot_len (@za _ _ _ _ _ (@pvx _ 0 _ _ rfl) (@ze _) (by rfl)) (by decide) (by decide) (by rfl) (by rfl))) (by intro _; rfl)) (@ze _) (by rfl)) (by decide) (by decide) (by rfl) (by rfl)) (by rfl) (by trivial)) (by exact (@zd _ _ _ _ _ (@zm _ _ (7) _ _ _ _ zad.nd rfl (Or.inr rfl) (@zt _ _ _ _ _ _ _ _ _ _ _ _ _ _ _ _ G_l_powers (hr.mono (by decide)) rfl T.m_l_powers F_l_powers.kp b_l_powers .nil (@zW _) (@za _ _ _ _ _ (@pvx _ 0 _ _ rfl) (@za _ _ _ _ _ (@pvx _ 4 _ _ rfl) (@za _ _ _ _ _ (@pvx _ 6 _ _ rfl) (@ze _) (by rfl)) (by rfl)) (by rfl)) (by decide) (by rfl) (by rfl)) (by rfl) (by trivial)) (by exact (@zd _ _ _ _ _ (@zm _ _ (8) _ _ _ _ zad.nd rfl (Or.inr rfl) (@zt _ _ _ _ _ _ _ _ _ _ _ _ _ _ _ _ G_l_powers (hr.mono (by decide)) rfl T.m_l_powers F_l_powers.kp b_l_powers .nil (@zW _) (@za _ _ _ _ _ (@pvx _ 0 _ _ rfl) (@za _ _ _ _ _ (@pvx _ 5 _ _ rfl) (@za _ _ _ _ _ (@zn _ _ _ _ _ _ _ _ _ (@zx _) (by rfl) T.len_ boot_len (@za _ _ _ _ _ (@pvx _ 1 _ _ rfl) (@ze _) (by rfl)) (by decide) (by decide) (by rfl) (by rfl)) (@ze _) (by rfl)) (by rfl)) (by rfl)) (by decide) (by rfl) (by rfl)) (by rfl) (by trivial)) (by exact (@zd _ _ _ _ _ (@zai _ _ _ _ _ _ _ _ PassesOwn.never rfl (@zI _ _ _ _ _ _ rfl T.range_ (@za _ _ _ _ _ (@pvx _ 3 _ _ rfl) (@ze _) (by rfl)) (by rfl)) (@zi _ _ (9) _ zad.nd rfl (Or.inr rfl) (by trivial)) (@zd _ _ _ _ _ (@zm _ _ (10) _ _ _ _ zad.nd rfl (Or.inr rfl) (@zG _ _ _ _ _ _ _ _ _ _ _ _ _ (CompSc.of (N':=["s","i","right"]) (ix:=[none,some 9,some 7]) (zh zax) ["p","curve","point","m","a","b","wide","right","up","i","by","sums","j"] rfl rfl (by decide +kernel)) rfl (@z0 _ _ rfl) (@zI _ _ _ _ _ _ rfl T.range_ (@za _ _ _ _ _ (@pvx _ 6 _ _ rfl) (@ze _) (by rfl)) (by rfl)) (fun _ _ _ _=>(@zi _ _ (0) _ (show (["s","i","right"]:List Str).Nodup by decide +kernel) rfl (Or.inl rfl) (by trivial))) (fun _ _ _ _=>(@zw _)) (fun _ _ _ _=>(@zcB _ _ _ _ _ _ _ _ (@zz _ _ _ _ _ _ _ _ (@zg0 _) (@pvx _ 0 _ _ rfl) (@pvx _ 1 _ _ rfl) (zF _)) (@zg _ _ _ _ _ _ _ _ (@zD _) (@zt _ _ _ _ _ _ _ _ _ _ _ _ _ _ _ _ G_l_choose (hr.mono (by decide)) rfl T.m_l_choose F_l_choose.kp b_l_choose .nil (@zW _) (@za _ _ _ _ _ (@pvx _ 0 _ _ rfl) (@za _ _ _ _ _ (@pvx _ 1 _ _ rfl) (@ze _) (by rfl)) (by rfl)) (by decide) (by rfl) (by rfl)) (@zu _ _ _ _ _ _ _ (@zaq _ (K) rfl) (@pvx _ 2 _ _ rfl) (@zg _ _ _ _ _ _ _ _ (@zV _) (@pvx _ 0 _ _ rfl) (@pvx _ 1 _ _ rfl)) (fun _ _=>rfl))) (@zf _ _ _ _))) (by intro _; rfl)) (by rfl) (by trivial)) (by exact (@zd _ _ _ _ _ (@zm _ _ (11) _ _ _ _ zad.nd rfl (Or.inr rfl) (@zG _ _ _ _ _ _ _ _ _ _ _ _ _ (CompSc.of (N':=["line","by"]) (ix:=[none,some 10]) (zh zax) ["p","curve","point","m","a","b","wide","right","up","i","by","sums","j"] rfl rfl (by decide +kernel)) rfl (@z0 _ _ rfl) (@zeP _ _ _ _ (@pvx _ 1 _ _ rfl)) (fun _ _ _ _=>(@zi _ _ (0) _ (show (["line","by"]:List Str).Nodup by decide +kernel) rfl (Or.inl rfl) (by trivial))) (fun _ _ _ _=>(@zw _)) (fun _ _ _ _=>(@zn _ _ _ _ _ _ _ _ _ (zgG (K:=K) rfl rfl) (by rfl) T.sum_ boot_sum (@za _ _ _ _ _ (@zG _ _ _ _ _ _ _ _ _ _ _ _ _ (CompSc.of (N':=["number","one"]) (ix:=[none,none]) ({ kind:=.function,names:=[(".0",.local),("line",.local),("sum",.globalImplicit),("zip",.globalImplicit),("by",.cell)],isGenerator:=false,isCoroutine:=false }) ["line","by"] (by with_unfolding_all rfl) rfl (by decide +kernel)) rfl (@zaH _ _ _ _ (@zr _ _ _ rfl (@zr _ _ _ rfl (@zaj _)))) (zhY (K:=K) rfl rfl T.zip_ (@za _ _ _ _ _ (@pvx _ 0 _ _ rfl) (@za _ _ _ _ _ (@pvx _ 1 _ _ rfl) (@ze _) (by rfl)) (by rfl))) (fun _ _ _ _=>(@zak _ (K) _ _ _ (2) _ rfl rfl (@zk _ _ _ _ _ (@zi _ _ (0) _ (show (["number","one"]:List Str).Nodup by decide +kernel) rfl (Or.inl rfl) (by trivial)) (@zk _ _ _ _ _ (@zi _ _ (1) _ (show (["number","one"]:List Str).Nodup by decide +kernel) rfl (Or.inl rfl) (by trivial)) (@zK _) (by rfl)) (by rfl)) (by rfl) (by rfl))) (fun _ _ _ _=>(@zw _)) (fun _ _ _ _=>(@zg _ _ _ _ _ _ _ _ (@zD _) (@pvx _ 0 _ _ rfl) (@pvx _ 1 _ _ rfl))) (by intro _; rfl)) (@ze _) (by rfl)) (by decide) (by decide) (by rfl) (by rfl))) (by intro _; rfl)) (by rfl) (by trivial)) (by exact (@zj _ _ _ (@zai _ _ _ _ _ _ _ _ PassesOwn.never rfl (@zI _ _ _ _ _ _ rfl T.range_ (@za _ _ _ _ _ (@zg _ _ _ _ _ _ _ _ (@zV _) (@pvx _ 3 _ _ rfl) (@pvx _ 9 _ _ rfl)) (@ze _) (by rfl)) (by rfl)) (@zi _ _ (12) _ zad.nd rfl (Or.inr rfl) (by trivial)) (@zj _ _ _ (@zaG _ _ _ _ _ _ _ _ (@zz _ _ _ _ _ _ _ _ (@zc5 _) (@zg _ _ _ _ _ _ _ _ (@zC _) (@zn _ _ _ _ _ _ _ _ _ (@zbH _ rfl) (by rfl) T.sum_ boot_sum (@za _ _ _ _ _ (@zG _ _ _ _ _ _ _ _ _ _ _ _ _ (CompSc.of (N':=["t","sums","j","up"]) (ix:=[none,some 11,some 12,some 8]) (zh zax) ["p","curve","point","m","a","b","wide","right","up","i","by","sums","j"] rfl rfl (by decide +kernel)) rfl (@z0 _ _ rfl) (@zcV _ _ _ _ _ _ _ rfl T.range_ (@za _ _ _ _ _ (@pvx _ 12 _ _ rfl) (@za _ _ _ _ _ (@zn _ _ _ _ _ _ _ _ _ (@zx _) (by rfl) T.len_ boot_len (@za _ _ _ _ _ (@pvx _ 1 _ _ rfl) (@ze _) (by rfl)) (by decide) (by decide) (by rfl) (by rfl)) (@ze _) (by rfl)) (by rfl)) (by rfl) (by rfl)) (fun _ _ _ _=>(@zi _ _ (0) _ (show (["t","sums","j","up"]:List Str).Nodup by decide +kernel) rfl (Or.inl rfl) (by trivial))) (fun _ _ _ _=>(@zw _)) (fun _ _ _ _=>(@zg _ _ _ _ _ _ _ _ (@zD _) (@zg _ _ _ _ _ _ _ _ (@zD _) (@zu _ _ _ _ _ _ _ (@zaq _ (K) rfl) (@pvx _ 1 _ _ rfl) (@pvx _ 0 _ _ rfl) (fun _ _=>rfl)) (@zt _ _ _ _ _ _ _ _ _ _ _ _ _ _ _ _ G_l_choose (hr.mono (by decide)) rfl T.m_l_choose F_l_choose.kp b_l_choose .nil (@zW _) (@za _ _ _ _ _ (@pvx _ 0 _ _ rfl) (@za _ _ _ _ _ (@pvx _ 2 _ _ rfl) (@ze _) (by rfl)) (by rfl)) (by decide) (by rfl) (by rfl))) (@zu _ _ _ _ _ _ _ (@zaq _ (K) rfl) (@pvx _ 3 _ _ rfl) (@zg _ _ _ _ _ _ _ _ (@zV _) (@pvx _ 0 _ _ rfl) (@pvx _ 2 _ _ rfl)) (fun _ _=>rfl)))) (by intro _; rfl)) (@ze _) (by rfl)) (by decide) (by decide) (by rfl) (by rfl)) (@pvx _ 0 _ _ rfl)) (@zf _ _ _ _) (zF _)) (@zj _ _ _ (@zB _ _ _ _ (@zbs _ _ _ _))) (@zY _))) (by intro _; rfl))))))) (by intro _; rfl)) (by exact (@zj _ _ _ (@zB _ _ _ _ (@zbs _ _ _ _))))))))))))),?_⟩
  have hsl:=sizeLine_eq
  have hlen:=Paired.length hb
  have ne:rows≠[]:=fun e=>by rw [e] at hn1; simp at hn1
  have wdl:wd rows≤201:=by
   obtain⟨r,hr,er⟩:=zff ne
   rw [← er]; exact (hw r hr).2.1
  have wd1:1≤wd rows:=by
   obtain⟨r,hr,er⟩:=zff ne
   rw [← er]; exact (hw r hr).1
  have elen:((bs.map V.ref).length:Int)=(rows.length:Int):=by rw [List.length_map,hlen]
  refine⟨_,rfl,pt,_,rfl,SqT.of hpt,rfl,_,_,rfl,_,_,rfl,rfl,?_⟩
  refine⟨_,rfl,a,rfl,⟨_,SqT.of ha⟩,zeB (fs:=(zaV rows).map V.int) (SqT.of ha) (by simp [hlen,zgK]) (by rw [List.length_map]; omega) (fun i u v R B hu hv hR=>?_) (fun D hD=>?_)⟩
  ·obtain⟨b,rfl,hbi⟩:=z9 hu
   obtain⟨r,hr,hrb⟩:=Paired.get hb hbi
   unfold zaV at hv
   rw [List.getElem?_map,List.getElem?_map,hr] at hv
   have hv:V.int (r.length:Int)=v:=by simpa using hv
   subst hv
   refine gY ?_
   refine⟨_,rfl,b,_,rfl,.inr (SqT.of hrb),?_⟩
   rw [List.length_map]
   exact hR
  refine⟨D,zaV rows,rfl,SqL.of zc,by unfold zaV; simpa using ne,fun M hM hM'=>?_⟩
  have eM:M=(wd rows:Int):=zmd (fun e=>absurd e (by unfold zaV; simpa using ne)) fun _=>⟨hM,fun a ha=>by rw [if_pos rfl]; exact hM' a ha⟩
  subst eM
  have s0:=zb (o:=.lst ((zaV rows).map V.int)) hD
  generalize upd H D (.lst ((zaV rows).map V.int))=H0 at s0 ⊢
  refine⟨_,rfl,_,rfl,_,rfl,p,x,wd rows,rfl,p5,p97,x0,x1,wd1,by omega,fun l1 H1 hl1 s1 h1=>?_⟩
  refine⟨_,rfl,_,rfl,_,rfl,a,_,rfl,.inr (SqT.of ((s0.trans s1) _ _ ha)),?_⟩
  rw [elen]
  refine⟨p,y,rows.length,rfl,p5,p97,y0,y1,hn1,by omega,fun l2 H2 hl2 s2 h2=>?_⟩
  have h1:=s2 _ _ h1
  have s02:=(s0.trans s1).trans s2
  have emt:((m:Int)).toNat=m:=by omega
  refine⟨_,rfl,_,rfl,by omega,by omega,zam (lo:=0) (n:=((m:Int)).toNat) (fun i σ H'=>∃ (e9 e10 e11 e12:Option V),σ = [some (.int p),some (.ref a),some (.ref pt),some (.int (m:Int)),some (.int x),some (.int y),some (.int (wd rows:Int)),some (.ref l1),some (.ref l2),e9,e10,e11,e12]∧zy H2 H') ⟨none,none,none,none,rfl,fun _ _ e=>e⟩ ?_ ?_⟩
  ·rintro i σ H3 hi ⟨e9,e10,e11,e12,rfl,s3⟩
   have hi:i < m:=by omega
   rw [show ((0:Int)+(i:Int))=(i:Int) from Int.zero_add _]
   have s03:=s02.trans s3
   have h3l1:=s3 _ _ h1
   have h3l2:=s3 _ _ h2
   have ewd:((wd rows:Int)).toNat=wd rows:=by omega
   refine⟨_,rfl,_,rfl,by omega,by omega,?_⟩
   rw [ewd]
   refine zM (n:=wd rows) (fun n ys H'=>H'=H3∧ys=(byL p x i n).map V.int) ⟨rfl,rfl⟩ (fun n ys H' hn _=>hn) (fun ys H' _=>Nat.le_refl _) ?_ ?_
   ·rintro s' xx ys H4 H5 hs ⟨rfl,rfl⟩ ⟨rfl,rfl⟩
    rw [show ((0:Int)+(s':Int))=(s':Int) from Int.zero_add _]
    have fin:∀ v:Int,v=byv p x i s'→((byL p x i s').map V.int).length < sizeLine∧H5=H5∧(byL p x i s').map V.int++[V.int v]=(byL p x i (s'+1)).map V.int:=fun v e=>by
     refine⟨by unfold byL; rw [List.length_map,List.length_map,List.length_range]; omega,rfl,?_⟩
     unfold byL
     rw [List.range_succ,List.map_append,List.map_append,e]
     rfl
    refine gY ?_
    refine⟨_,rfl,_,rfl,_,_,rfl,rfl,_,rfl,?_⟩
    refine zap (fun hge=>?_) (fun hlt=>?_)
    ·have hge:=of_decide_eq_true hge
     have hge:i≤s':=by omega
     have hat:atI ((zbk p x (wd rows)).map V.int) ((s':Int) - (i:Int))=some (.int (x ^ (s' - i) % p)):=by
      rw [show ((s':Int) - (i:Int))=((s' - i:Nat):Int) by omega]
      refine zL ?_
      unfold zbk
      rw [List.getElem?_map,List.getElem?_map,List.getElem?_range (by omega)]
      rfl
     have g0:=Int.emod_nonneg (x ^ (s' - i)) (show p≠0 by omega)
     have g1:=Int.emod_lt_of_pos (x ^ (s' - i)) (show 0 < p by omega)
     refine⟨_,rfl,_,rfl,s',i,rfl,by omega,by omega,_,rfl,_,rfl,_,rfl,_,_,rfl,rfl,l1,_,_,_,rfl,rfl,SqL.of h3l1,hat,_,_,rfl,rfl,.inr ⟨by omega,by omega⟩,?_⟩
     exact fin _ (by unfold byv; rw [if_pos hge])
    ·have hlt:¬ ((i:Int)≤(s':Int)):=fun h=>hlt (decide_eq_true h)
     exact fin _ (by unfold byv; rw [if_neg (by omega)])
   rintro ys H4 BL ⟨rfl,rfl⟩ hBL
   have wB:=zb (o:=.lst ((byL p x i (wd rows)).map V.int)) hBL
   have hB:upd H4 BL (.lst ((byL p x i (wd rows)).map V.int)) BL=some (.lst ((byL p x i (wd rows)).map V.int)):=zc
   have s4:=s3.trans wB
   generalize upd H4 BL (.lst ((byL p x i (wd rows)).map V.int))=H5 at wB hB s4 ⊢
   have s05:=s02.trans s4
   have h5a:=s05 _ _ ha
   refine⟨_,rfl,a,rfl,⟨_,SqT.of h5a⟩,zM (n:=rows.length) (fun t' ys H'=>zy H5 H'∧ys=((rows.take t').map (sms p x i)).map V.int) ⟨fun _ _ e=>e,rfl⟩ ?_ ?_ ?_ ?_⟩
   ·rintro t' ys H6 ht ⟨s6,_⟩
    exact⟨_,.ref (bs[t']'(by omega)),SqT.of (s6 _ _ h5a),by rw [List.getElem?_map,List.getElem?_eq_getElem (by omega)]; rfl⟩
   ·rintro ys H6 ⟨s6,_⟩
    exact⟨_,SqT.of (s6 _ _ h5a),by rw [List.length_map]; omega⟩
   ·rintro t' xx ys H6 H7 ht ⟨s6,rfl⟩ ⟨rfl,hx⟩
    obtain⟨b,rfl,hbm⟩:=z9 (hx _ (SqT.of (s6 _ _ h5a)))
    obtain⟨r,hr,hrb⟩:=Paired.get hb hbm
    have hrw:=zkO (List.mem_of_getElem? hr)
    have hrg:=hw r (List.mem_of_getElem? hr)
    have h7r:=(s05.trans s6) _ _ hrb
    have h7B:=s6 _ _ hB
    refine gY ?_
    refine⟨_,rfl,_,rfl,b,BL,_,_,rfl,SqT.of h7r,SqL.of h7B,zM (n:=r.length) (fun s' ys H'=>zy H7 H'∧ys=((List.range s').map fun s'=>gl r s'*byv p x i s').map V.int) ⟨fun _ _ e=>e,rfl⟩ ?_ ?_ ?_ ?_⟩
    ·rintro s' ys H8 hs ⟨s8,_⟩
     refine⟨_,_,.int (r[s']'hs),.int (byv p x i s'),SqT.of (s8 _ _ h7r),SqL.of (s8 _ _ h7B),by rw [List.getElem?_map,List.getElem?_eq_getElem hs]; rfl,?_⟩
     unfold byL
     rw [List.getElem?_map,List.getElem?_map,List.getElem?_range (by omega)]
     rfl
    ·rintro ys H8 ⟨s8,_⟩
     exact⟨_,_,SqT.of (s8 _ _ h7r),SqL.of (s8 _ _ h7B),by unfold byL; rw [List.length_map,List.length_map,List.length_map,List.length_range]; omega⟩
    ·rintro s' xx ys H8 H9 hs ⟨s8,rfl⟩ ⟨T,u,v,hT,rfl,rfl,hu,hv⟩
     obtain⟨c,rfl,hc⟩:=zal (hu _ (SqT.of (s8 _ _ h7r)))
     obtain⟨d,rfl,hd⟩:=zal (hv _ (SqL.of (s8 _ _ h7B)))
     have ed:d=byv p x i s':=by
      unfold byL at hd
      rw [List.getElem?_map,List.getElem?_range (by omega)] at hd
      exact (Option.some.inj hd).symm
     subst ed
     have ec:gl r s'=c:=zbI hc
     have cr:=hrg.2.2 c (List.mem_of_getElem? hc)
     refine gY2 (SqT.of zc) ?_
     refine⟨_,rfl,_,rfl,_,_,rfl,rfl,.inl ⟨by omega,by omega⟩,by rw [List.length_map,List.length_map,List.length_range]; omega,s8.trans (zb hT),?_⟩
     rw [List.range_succ,List.map_append,List.map_append]
     show _++[V.int (c*byv p x i s')]=_++[V.int (gl r s'*byv p x i s')]
     rw [ec]
    ·rintro ys H8 D8 ⟨s8,rfl⟩ hD8
     refine⟨D8,_,rfl,SqL.of zc,?_⟩
     rw [zc1]
     refine⟨by rw [List.length_map,List.length_map,List.length_take]; omega,s6.trans (s8.trans (zb hD8)),?_⟩
     rw [take_snoc hr,List.map_append,List.map_append]
     rfl
   rintro ys H6 SL ⟨s6,rfl⟩ hSL
   rw [List.take_of_length_le (Nat.le_refl _)]
   have wS:=s6.trans (zb (o:=.lst ((rows.map (sms p x i)).map V.int)) hSL)
   have hSs:upd H6 SL (.lst ((rows.map (sms p x i)).map V.int)) SL=some (.lst ((rows.map (sms p x i)).map V.int)):=zc
   have s7:=s4.trans wS
   generalize upd H6 SL (.lst ((rows.map (sms p x i)).map V.int))=H7 at wS hSs s7 ⊢
   have s07:=s02.trans s7
   have h7l2:=s7 _ _ h2
   have emi:((m:Int) - (i:Int)).toNat=m - i:=by omega
   refine⟨_,rfl,_,rfl,_,_,rfl,rfl,_,rfl,by omega,by omega,zam (lo:=0) (n:=((m:Int) - (i:Int)).toNat) (fun j σ H'=>∃ (e12:Option V),σ = [some (.int p),some (.ref a),some (.ref pt),some (.int (m:Int)),some (.int x),some (.int y),some (.int (wd rows:Int)),some (.ref l1),some (.ref l2),some (.int (i:Int)),some (.ref BL),some (.ref SL),e12]∧zy H7 H') ⟨e12,rfl,fun _ _ e=>e⟩ ?_ ?_⟩
   ·rintro j σ H8 hj ⟨e12,rfl,s8⟩
    have hj:j < m - i:=by omega
    rw [show ((0:Int)+(j:Int))=(j:Int) from Int.zero_add _]
    have s08:=s07.trans s8
    have h8S:=s8 _ _ hSs
    have h8l2:=s8 _ _ h7l2
    refine⟨_,rfl,_,rfl,a,_,rfl,.inr (SqT.of (s08 _ _ ha)),?_⟩
    rw [elen]
    have enj:((rows.length:Int) - (j:Int)).toNat=rows.length - j:=by omega
    refine⟨(j:Int),(rows.length:Int),rfl,⟨by omega,by omega,by omega,by omega⟩,?_⟩
    rw [enj]
    refine zM (n:=rows.length - j) (fun k ys H'=>H'=H8∧ys=((List.range k).map fun k=>sms p x i (rows.getD (j+k) [])*ch (j+k) j*(y ^ (j+k - j) % p)).map V.int) ⟨rfl,rfl⟩ (fun n ys H' hn _=>hn) (fun ys H' _=>Nat.le_refl _) ?_ ?_
    ·rintro k xx ys H9 H10 hk ⟨rfl,rfl⟩ ⟨rfl,rfl⟩
     rw [show ((j:Int)+(k:Int))=((j+k:Nat):Int) by omega]
     have hjk:j+k < rows.length:=by omega
     have hat:atI ((rows.map (sms p x i)).map V.int) ((j+k:Nat):Int)=some (.int (sms p x i (rows.getD (j+k) []))):=by
      refine zL ?_
      rw [List.getElem?_map,List.getElem?_map,List.getD_eq_getElem?_getD,List.getElem?_eq_getElem hjk]
      rfl
     have hat2:atI ((zbk p y rows.length).map V.int) (((j+k:Nat):Int) - (j:Int))=some (.int (y ^ (j+k - j) % p)):=by
      rw [show (((j+k:Nat):Int) - (j:Int))=((j+k - j:Nat):Int) by omega]
      refine zL ?_
      unfold zbk
      rw [List.getElem?_map,List.getElem?_map,List.getElem?_range (by omega)]
      rfl
     have g0:=Int.emod_nonneg (y ^ (j+k - j)) (show p≠0 by omega)
     have g1:=Int.emod_lt_of_pos (y ^ (j+k - j)) (show 0 < p by omega)
     have cs:=zjr (t:=j+k) (j:=j) (by omega) (by omega)
     refine gY ?_
     refine⟨_,rfl,_,rfl,SL,_,_,_,rfl,rfl,SqL.of h8S,hat,_,rfl,_,rfl,j+k,j,rfl,by omega,by omega,_,_,rfl,rfl,.inr ⟨by omega,by omega⟩,_,rfl,_,rfl,_,rfl,_,_,rfl,rfl,l2,_,_,_,rfl,rfl,SqL.of h8l2,hat2,_,_,rfl,rfl,.inr ⟨by omega,by omega⟩,?_⟩
     refine⟨by rw [List.length_map,List.length_map,List.length_range]; omega,rfl,?_⟩
     rw [List.range_succ,List.map_append,List.map_append]
     rfl
    ·rintro ys H9 D9 ⟨rfl,rfl⟩ hD9
     refine⟨D9,_,rfl,SqL.of zc,?_⟩
     rw [zc1]
     have hz1:tot p x y rows i j (rows.length - j) % p=0:=by
      rw [(zlE.trans (hz i j (by omega))).mod_eq,Int.zero_emod]
     unfold tot at hz1
     generalize (sm (rows.length - j) fun k=>sms p x i (rows.getD (j+k) [])*ch (j+k) j*(y ^ (j+k - j) % p))=T0 at hz1 ⊢
     refine⟨_,rfl,_,_,rfl,rfl,by omega,?_⟩
     refine⟨rfl,_,rfl,?_⟩
     refine zap (fun hc=>absurd hc (by simp [hz1])) (fun _=>?_)
     exact⟨_,rfl,s8.trans (zb hD9)⟩
   ·rintro σ H8 ⟨e12,rfl,s8⟩
    exact⟨_,_,_,_,rfl,s7.trans s8⟩
  ·rintro σ H3 ⟨e9,e10,e11,e12,rfl,s3⟩
   exact q _ (s02.trans s3)
end
end My
end
section
set_option maxHeartbeats 3999000
namespace My
open PySem L2 PyProof.Rows
section
variable {P:Program} {w:World} {K:PySem.W.Frag} {mg:Str→Option Value} {base:Heap} {t:Adr}
def gpT (k s m:Nat):List Tm:=(List.range m).flatMap fun j=>(List.range (s - (k - 1)*j+1)).map fun i=>(i,j)
theorem zf7 (k s m:Nat):gpT k s (m+1)=gpT k s m++(List.range (s - (k - 1)*m+1)).map fun i=>(i,m):=by
 unfold gpT
 rw [List.range_succ,List.flatMap_append]
 simp
theorem zfn (k s:Nat):∀ m,(gpT k s m).length≤(s+1)*m
 | 0=>by simp [gpT]
 | m+1=>by
  have ih:=zfn k s m
  rw [zf7,List.length_append,List.length_map,List.length_range,Nat.mul_succ]
  omega
def rowOf (p:Int) (k s:Nat) (c:Co):List Int:=(gps k s).map fun t=>cv t c % p
def pcI (q:Int×Int×Nat) (m:Nat):List Co:=(List.range m).flatMap fun u=>(List.range (q.2.2 - u)).map fun v=>⟨q.1,q.2.1,u,v⟩
theorem zf8 (q:Int×Int×Nat) (m:Nat):pcI q (m+1)=pcI q m++(List.range (q.2.2 - m)).map fun v=>⟨q.1,q.2.1,m,v⟩:=by
 unfold pcI
 rw [List.range_succ,List.flatMap_append]
 simp
theorem zjF {pts:List (Int×Int×Nat)} {q:Int×Int×Nat}:cos (pts++[q])=cos pts++pco q:=by
 unfold cos
 rw [List.flatMap_append]
 simp
def nmb (p:Int) (x y:Int) (u v:Nat) (t:Tm):Int:=if u≤t.1∧v≤t.2 then ch t.1 u*ch t.2 v*(x ^ (t.1 - u) % p)*(y ^ (t.2 - v) % p) else 0
theorem zkw (p x y:Int) (u v:Nat) (t:Tm):nmb p x y u v t % p=cv t ⟨x,y,u,v⟩ % p:=by
 unfold nmb cv cf
 by_cases h:u≤t.1∧v≤t.2
 ·rw [if_pos h]
  refine Cg.mod_eq ?_
  exact ((((Cg.refl p _).mul (Cg.emod p _)).mul (Cg.emod p _))).trans (Cg.of_eq (by grind))
 ·rw [if_neg h]
  by_cases h1:u≤t.1
  ·have h2:t.2 < v:=by omega
   rw [zbv h2]
   simp
  ·have h2:t.1 < u:=by omega
   rw [zbv h2]
   simp
def zgQ (K:PySem.W.Frag):Sp:=fun vs H Q _=>∃ (p:Int) (k s:Nat) (wl:Addr) (cs:List Addr) (pts:List (Int×Int×Nat)),vs = [.int p,.int (k:Int),.ref wl,.int (s:Int)]∧5≤p∧p≤97∧2≤k∧k≤100∧s≤200∧H wl=some (.lst (cs.map V.ref))∧W3 H cs pts∧zf1 p pts∧(∀ q∈pts,q.2.2≤4)∧pts.length≤1000 ∧
 ∀ (z rl:Addr) (ls:List Addr) (H':Hp),H z=none→zy H H'→H' z=some (.tup [.ref rl,.int ((gps k s).length:Int)])→H' rl=some (.lst (ls.map V.ref))→LsA H' ls (zfV p k s pts)→Q (.ref z) H'
theorem zR:FnScope ["p","k","weighed","size","pairs","j","rows","a","b","weight","right","up","i","row","s","t","number"] ["p","k","weighed","size"] (zh zbL):=⟨rfl,rfl,rfl,by decide +kernel,rfl,by decide +kernel,by decide +kernel⟩
theorem zgR {fd:FuncData} (T:Txt K mg t) (F:Fun K "_law_asked" "_law_asked" zbL t.l_asked fd):FnOk P w K mg base CX0 2 t.l_asked fd ["p","k","weighed","size"] (zgQ K):=by
 obtain⟨fd_l_powers,F_l_powers,b_l_powers⟩:=T.f_l_powers
 have G_l_powers:=zdf (P:=P) (w:=w) (base:=base) T F_l_powers
 obtain⟨fd_l_choose,F_l_choose,b_l_choose⟩:=T.f_l_choose
 have G_l_choose:=zdg (P:=P) (w:=w) (base:=base) T F_l_choose
 refine F.ok zR (fun vs H Q E h=>?_) (fun cdv A outer s H vs Q E hr h=>?_)
 ·obtain⟨p,k,sz,wl,cs,pts,rfl,_⟩:=h
  rfl
 ·obtain⟨p,k,sz,wl,cs,pts,rfl,p5,p97,k2,k100,hs,hwl,hcs,hg,hw4,hn,q⟩:=h
  refine⟨_,(@zd _ _ _ _ _ (@zm _ _ (4) _ _ _ _ zR.nd rfl (Or.inl rfl) (@zN _ _ _ _ (@ze _)) (by rfl) (by trivial)) (by exact (@zd _ _ _ _ _ (@zai _ _ _ _ _ _ _ _ PassesOwn.never rfl (@zI _ _ _ _ _ _ rfl T.range_ (@za _ _ _ _ _ (@zg _ _ _ _ _ _ _ _ (@zJ _) (@zg _ _ _ _ _ _ _ _ (@zaA _) (@pvx _ 3 _ _ rfl) (@zg _ _ _ _ _ _ _ _ (@zV _) (@pvx _ 1 _ _ rfl) (@zf _ _ _ _))) (@zf _ _ _ _)) (@ze _) (by rfl)) (by rfl)) (@zi _ _ (5) _ zR.nd rfl (Or.inr rfl) (by trivial)) (@zj _ _ _ (@zaS _ _ _ _ (@zbF _ _ _ _ _ _ _ _ _ _ _ _ PySem.F.plainAttrs_list PySem.F.slot_list_extend PySem.F.type_list_extend (@zeu _) (@pvx _ 4 _ _ rfl) (@za _ _ _ _ _ (@zG _ _ _ _ _ _ _ _ _ _ _ _ _ (CompSc.of (N':=["i","j"]) (ix:=[none,some 5]) (zh zbL) ["p","k","weighed","size","pairs","j","rows","a","b","weight","right","up","i","row","s","t","number"] rfl rfl (by decide +kernel)) rfl (@z0 _ _ rfl) (@zI _ _ _ _ _ _ rfl T.range_ (@za _ _ _ _ _ (@zg _ _ _ _ _ _ _ _ (@zJ _) (@zg _ _ _ _ _ _ _ _ (@zV _) (@pvx _ 3 _ _ rfl) (@zg _ _ _ _ _ _ _ _ (@zD _) (@zg _ _ _ _ _ _ _ _ (@zV _) (@pvx _ 1 _ _ rfl) (@zf _ _ _ _)) (@pvx _ 5 _ _ rfl))) (@zf _ _ _ _)) (@ze _) (by rfl)) (by rfl)) (fun _ _ _ _=>(@zi _ _ (0) _ (show (["i","j"]:List Str).Nodup by decide +kernel) rfl (Or.inl rfl) (by trivial))) (fun _ _ _ _=>(@zw _)) (fun _ _ _ _=>(@zbg _ _ _ _ _ (@za _ _ _ _ _ (@pvx _ 0 _ _ rfl) (@za _ _ _ _ _ (@pvx _ 1 _ _ rfl) (@ze _) (by rfl)) (by rfl)))) (by intro _; rfl)) (@ze _) (by rfl)) (by rfl) (by rfl) (by rfl) (by rfl) (by rfl)) (by rfl))) (by intro _; rfl)) (by exact (@zd _ _ _ _ _ (@zm _ _ (6) _ _ _ _ zR.nd rfl (Or.inl rfl) (@zN _ _ _ _ (@ze _)) (by rfl) (by trivial)) (by exact (@zd _ _ _ _ _ (@zai _ _ _ _ _ _ _ _ PassesOwn.never rfl (@z8 _ _ _ _ (@pvx _ 2 _ _ rfl)) (@za0 _ _ _ _ _ _ rfl (@zk _ _ _ _ _ (@zi _ _ (7) _ zR.nd rfl (Or.inl rfl) (by trivial)) (@zk _ _ _ _ _ (@zi _ _ (8) _ zR.nd rfl (Or.inl rfl) (by trivial)) (@zk _ _ _ _ _ (@zi _ _ (9) _ zR.nd rfl (Or.inl rfl) (by trivial)) (@zK _) (by rfl)) (by rfl)) (by rfl)) (by rfl) (by rfl)) (@zd _ _ _ _ _ (@zm _ _ (10) _ _ _ _ zR.nd rfl (Or.inl rfl) (@zt _ _ _ _ _ _ _ _ _ _ _ _ _ _ _ _ G_l_powers (hr.mono (by decide)) rfl T.m_l_powers F_l_powers.kp b_l_powers .nil (@zW _) (@za _ _ _ _ _ (@pvx _ 0 _ _ rfl) (@za _ _ _ _ _ (@pvx _ 7 _ _ rfl) (@za _ _ _ _ _ (@zg _ _ _ _ _ _ _ _ (@zJ _) (@pvx _ 3 _ _ rfl) (@zf _ _ _ _)) (@ze _) (by rfl)) (by rfl)) (by rfl)) (by decide) (by rfl) (by rfl)) (by rfl) (by trivial)) (by exact (@zd _ _ _ _ _ (@zm _ _ (11) _ _ _ _ zR.nd rfl (Or.inl rfl) (@zt _ _ _ _ _ _ _ _ _ _ _ _ _ _ _ _ G_l_powers (hr.mono (by decide)) rfl T.m_l_powers F_l_powers.kp b_l_powers .nil (@zW _) (@za _ _ _ _ _ (@pvx _ 0 _ _ rfl) (@za _ _ _ _ _ (@pvx _ 8 _ _ rfl) (@za _ _ _ _ _ (@zg _ _ _ _ _ _ _ _ (@zJ _) (@zg _ _ _ _ _ _ _ _ (@zaA _) (@pvx _ 3 _ _ rfl) (@zg _ _ _ _ _ _ _ _ (@zV _) (@pvx _ 1 _ _ rfl) (@zf _ _ _ _))) (@zf _ _ _ _)) (@ze _) (by rfl)) (by rfl)) (by rfl)) (by decide) (by rfl) (by rfl)) (by rfl) (by trivial)) (by exact (@zj _ _ _ (@zai _ _ _ _ _ _ _ _ PassesOwn.never rfl (@zI _ _ _ _ _ _ rfl T.range_ (@za _ _ _ _ _ (@pvx _ 9 _ _ rfl) (@ze _) (by rfl)) (by rfl)) (@zi _ _ (12) _ zR.nd rfl (Or.inl rfl) (by trivial)) (@zj _ _ _ (@zai _ _ _ _ _ _ _ _ PassesOwn.never rfl (@zI _ _ _ _ _ _ rfl T.range_ (@za _ _ _ _ _ (@zg _ _ _ _ _ _ _ _ (@zV _) (@pvx _ 9 _ _ rfl) (@pvx _ 12 _ _ rfl)) (@ze _) (by rfl)) (by rfl)) (@zi _ _ (5) _ zR.nd rfl (Or.inr rfl) (by trivial)) (@zd _ _ _ _ _ (@zm _ _ (13) _ _ _ _ zR.nd rfl (Or.inl rfl) (@zN _ _ _ _ (@ze _)) (by rfl) (by trivial)) (by exact (@zd _ _ _ _ _ (@zai _ _ _ _ _ _ _ _ PassesOwn.never rfl (@z8 _ _ _ _ (@pvx _ 4 _ _ rfl)) (@za0 _ _ _ _ _ _ rfl (@zk _ _ _ _ _ (@zi _ _ (14) _ zR.nd rfl (Or.inl rfl) (by trivial)) (@zk _ _ _ _ _ (@zi _ _ (15) _ zR.nd rfl (Or.inl rfl) (by trivial)) (@zK _) (by rfl)) (by rfl)) (by rfl) (by rfl)) (@zd _ _ _ _ _ (@zm _ _ (16) _ _ _ _ zR.nd rfl (Or.inl rfl) (@zf _ _ _ _) (by rfl) (by trivial)) (by exact (@zd _ _ _ _ _ (zlu (@zaG _ _ _ _ _ _ _ _ (@PW.pt _ _ _ (@zil _ _ _ _ _ _ _ (@zz _ _ _ _ _ _ _ _ (@zg0 _) (@pvx _ 14 _ _ rfl) (@pvx _ 12 _ _ rfl) (zF _)) (@zgV _ _ _ _ (@zz _ _ _ _ _ _ _ _ (@zg0 _) (@pvx _ 15 _ _ rfl) (@pvx _ 5 _ _ rfl) (zF _))))) (@zj _ _ _ (@zm _ _ (16) _ _ _ _ zR.nd rfl (Or.inl rfl) (@zg _ _ _ _ _ _ _ _ (@zD _) (@zg _ _ _ _ _ _ _ _ (@zD _) (@zg _ _ _ _ _ _ _ _ (@zD _) (@zt _ _ _ _ _ _ _ _ _ _ _ _ _ _ _ _ G_l_choose (hr.mono (by decide)) rfl T.m_l_choose F_l_choose.kp b_l_choose .nil (@zW _) (@za _ _ _ _ _ (@pvx _ 14 _ _ rfl) (@za _ _ _ _ _ (@pvx _ 12 _ _ rfl) (@ze _) (by rfl)) (by rfl)) (by decide) (by rfl) (by rfl)) (@zt _ _ _ _ _ _ _ _ _ _ _ _ _ _ _ _ G_l_choose (hr.mono (by decide)) rfl T.m_l_choose F_l_choose.kp b_l_choose .nil (@zW _) (@za _ _ _ _ _ (@pvx _ 15 _ _ rfl) (@za _ _ _ _ _ (@pvx _ 5 _ _ rfl) (@ze _) (by rfl)) (by rfl)) (by decide) (by rfl) (by rfl))) (@zu _ _ _ _ _ _ _ (@zq _) (@pvx _ 10 _ _ rfl) (@zg _ _ _ _ _ _ _ _ (@zV _) (@pvx _ 14 _ _ rfl) (@pvx _ 12 _ _ rfl)) (fun _ _=>rfl))) (@zu _ _ _ _ _ _ _ (@zq _) (@pvx _ 11 _ _ rfl) (@zg _ _ _ _ _ _ _ _ (@zV _) (@pvx _ 15 _ _ rfl) (@pvx _ 5 _ _ rfl)) (fun _ _=>rfl))) (by rfl) (by trivial))) (@zY _))) (by exact (@zj _ _ _ (@zaS _ _ _ _ (@zbF _ _ _ _ _ _ _ _ _ _ _ _ PySem.F.plainAttrs_list PySem.F.slot_list_append PySem.F.type_list_append (@za1 _) (@pvx _ 13 _ _ rfl) (@za _ _ _ _ _ (@zg _ _ _ _ _ _ _ _ (@zC _) (@pvx _ 16 _ _ rfl) (@pvx _ 0 _ _ rfl)) (@ze _) (by rfl)) (by rfl) (by rfl) (by rfl) (by rfl) (by rfl)) (by rfl))))))) (by intro _; rfl)) (by exact (@zj _ _ _ (@zaS _ _ _ _ (@zbF _ _ _ _ _ _ _ _ _ _ _ _ PySem.F.plainAttrs_list PySem.F.slot_list_append PySem.F.type_list_append (@za1 _) (@pvx _ 6 _ _ rfl) (@za _ _ _ _ _ (@pvx _ 13 _ _ rfl) (@ze _) (by rfl)) (by rfl) (by rfl) (by rfl) (by rfl) (by rfl)) (by rfl))))))) (by intro _; rfl))) (by intro _; rfl))))))) (by intro _; rfl)) (by exact (@zj _ _ _ (@zB _ _ _ _ (@zbg _ _ _ _ _ (@za _ _ _ _ _ (@pvx _ 6 _ _ rfl) (@za _ _ _ _ _ (@zn _ _ _ _ _ _ _ _ _ (@zx _) (by rfl) T.len_ boot_len (@za _ _ _ _ _ (@pvx _ 4 _ _ rfl) (@ze _) (by rfl)) (by decide) (by decide) (by rfl) (by rfl)) (@ze _) (by rfl)) (by rfl))))))))))))),?_⟩
  have hsl:=sizeLine_eq
  have hcl:=Paired.length hcs
  have k1:0 < k - 1:=by omega
  have ek1:((k:Int) - 1)=((k - 1:Nat):Int):=by omega
  have eN:((sz:Int) / ((k:Int) - 1)+1)=((sz / (k - 1)+1:Nat):Int):=by
   rw [ek1]
   exact congrArg (· + 1) (Int.natCast_ediv sz (k - 1)).symm
  have hqs:sz / (k - 1)≤sz:=Nat.div_le_self _ _
  obtain⟨nq',enq⟩:∃ n,sz / (k - 1)=n:=⟨_,rfl⟩
  have hgl:∀ t∈gps k sz,t.1≤sz∧t.2≤nq':=fun t ht=>by
   unfold gps at ht
   obtain⟨j,hj,ht⟩:=List.mem_flatMap.mp ht
   obtain⟨i,hi,rfl⟩:=List.mem_map.mp ht
   have:=List.mem_range.mp hj
   have:=List.mem_range.mp hi
   exact⟨by show i≤sz; omega,by show j≤nq'; omega⟩
  have egp:gps k sz=gpT k sz (nq'+1):=by unfold gps gpT; rw [enq]
  have gln:=zfn k sz (nq'+1)
  have glm:(sz+1)*(nq'+1)≤201*201:=Nat.mul_le_mul (by omega) (by omega)
  refine⟨Nat.zero_le _,fun PL hPL=>?_⟩
  refine⟨_,rfl,_,rfl,_,_,rfl,rfl,_,_,rfl,rfl,⟨by omega,by omega⟩,_,_,rfl,rfl,?_⟩
  refine⟨(sz:Int) / ((k:Int) - 1)+1,rfl,by rw [eN]; exact Int.le_trans (by decide) (Int.natCast_nonneg _),by rw [eN]; exact Int.lt_of_le_of_lt (Int.ofNat_le.mpr (show sz / (k - 1)+1≤301 from Nat.succ_le_succ (Nat.le_trans hqs (by omega)))) (by decide),?_⟩
  rw [eN,Int.toNat_natCast,enq]
  refine zam (lo:=0) (n:=nq'+1) (fun j σ H'=>∃ (e5:Option V) (us:List Addr),σ = [some (.int p),some (.int (k:Int)),some (.ref wl),some (.int (sz:Int)),some (.ref PL),e5,none,none,none,none,none,none,none,none,none,none,none]∧zy H H'∧H' PL=some (.lst (us.map V.ref))∧PtB H' us ((gpT k sz j).map tI)) ⟨none,[],rfl,zb hPL,zc,.nil⟩ ?_ ?_
  ·rintro j σ H1 hj ⟨e5,us,rfl,s1,h1,hus⟩
   rw [show ((0:Int)+(j:Int))=(j:Int) from Int.zero_add _]
   have hjs:(k - 1)*j≤sz:=by
    have:=(Nat.le_div_iff_mul_le k1).mp (show j≤sz / (k - 1) by omega)
    rw [Nat.mul_comm]; exact this
   have eV:(sz:Int) - ((k:Int) - 1)*(j:Int)+1=((sz - (k - 1)*j+1:Nat):Int):=by
    rw [ek1,Int.natCast_add,Int.natCast_sub hjs,Int.natCast_mul]
    rfl
   refine⟨_,rfl,.inl ⟨rfl,_,SqL.of h1⟩,_,rfl,_,rfl,_,_,rfl,rfl,_,rfl,_,_,rfl,rfl,.inl ⟨by omega,by omega⟩,_,_,rfl,rfl,_,_,rfl,rfl,?_⟩
   refine⟨(sz:Int) - ((k:Int) - 1)*(j:Int)+1,rfl,by rw [eV]; omega,by rw [eV]; omega,?_⟩
   rw [eV,Int.toNat_natCast]
   refine zM (n:=sz - (k - 1)*j+1) (fun i ys H'=>zy H1 H'∧∃ vs:List Addr,ys=vs.map V.ref∧PtB H' vs (((List.range i).map fun i=>(i,j)).map tI)) ⟨fun _ _ e=>e,[],rfl,.nil⟩ (fun i ys H' hi _=>hi) (fun ys H' _=>Nat.le_refl _) ?_ ?_
   ·rintro i x ys H2 H3 hi ⟨s2,vs,rfl,hvs⟩ ⟨rfl,rfl⟩
    rw [show ((0:Int)+(i:Int))=(i:Int) from Int.zero_add _]
    have hvl:vs.length=i:=by rw [Paired.length hvs,List.length_map,List.length_map,List.length_range]
    refine gY ?_
    refine⟨_,rfl,_,rfl,by show 2≤sizeLine; omega,fun T hT=>⟨by rw [List.length_map]; omega,s2.trans (zb hT),vs++[T],by simp,?_⟩⟩
    rw [List.range_succ,List.map_append,List.map_append]
    exact Paired.snoc (hvs.same (zb hT)) zc
   ·rintro ys H2 D ⟨s2,vs,rfl,hvs⟩ hD
    have sD:=s2.trans (zb (o:=.lst (vs.map V.ref)) hD)
    have hvl:vs.length=sz - (k - 1)*j+1:=by rw [Paired.length hvs,List.length_map,List.length_map,List.length_range]
    have hul:us.length=(gpT k sz j).length:=by rw [Paired.length hus,List.length_map]
    have gl1:=zfn k sz j
    have gl2:(sz+1)*j≤201*201:=Nat.mul_le_mul (by omega) (by omega)
    have DP:D≠PL:=(zp (s2 _ _ h1) hD).symm
    refine⟨PL,D,_,_,rfl,rfl,sD _ _ h1,zc,by rw [List.length_map,List.length_map]; omega,?_⟩
    refine⟨_,us++vs,rfl,zS (s1.trans sD) hPL,by rw [zc,List.map_append],?_⟩
    rw [zf7,List.map_append]
    exact zjD (zfj (hus.same sD) (sD _ _ h1)) (zfj (hvs.same (zb hD)) (sD _ _ h1))
  rintro σ HA ⟨e5,us,rfl,sA,hPLs,hus⟩
  rw [← egp] at hus
  have hul:us.length=(gps k sz).length:=by rw [Paired.length hus,List.length_map]
  rw [← egp] at gln
  refine⟨Nat.zero_le _,fun RL hRL=>?_⟩
  have hwlA:=sA _ _ hwl
  refine⟨_,rfl,wl,rfl,⟨_,SqL.of ((zb hRL) _ _ hwlA)⟩,zba (K:=K) (a:=wl) (xs:=cs.map V.ref) (fun n σ H'=>∃ (e5 e7 e8 e9 e10 e11 e12 e13 e14 e15 e16:Option V) (ls:List Addr),σ = [some (.int p),some (.int (k:Int)),some (.ref wl),some (.int (sz:Int)),some (.ref PL),e5,some (.ref RL),e7,e8,e9,e10,e11,e12,e13,e14,e15,e16]∧zy HA H'∧H' RL=some (.lst (ls.map V.ref))∧LsA H' ls ((cos (pts.take n)).map (rowOf p k sz))) ⟨e5,none,none,none,none,none,none,none,none,none,none,[],rfl,zb hRL,zc,.nil⟩ ?_ ?_ ?_⟩
  ·rintro n σ H' _ ⟨_,_,_,_,_,_,_,_,_,_,_,_,_,s',_⟩
   exact SqL.of (s' _ _ hwlA)
  ·rintro n xv σ H1 hx ⟨e5,e7,e8,e9,e10,e11,e12,e13,e14,e15,e16,ls,rfl,s1,hR,hls⟩
   obtain⟨b,rfl,hb⟩:=z9 hx
   obtain⟨⟨x,y,wt⟩,hq,hqb⟩:=Paired.get hcs hb
   obtain⟨x0,x1,y0,y1,w1,_⟩:=hg _ (List.mem_of_getElem? hq)
   have w4:wt≤4:=hw4 _ (List.mem_of_getElem? hq)
   refine⟨b,_,rfl,SqT.of ((sA.trans s1) _ _ hqb),rfl,_,_,rfl,_,_,rfl,_,_,rfl,rfl,?_⟩
   refine⟨_,rfl,_,rfl,_,rfl,_,_,rfl,rfl,p,x,sz+1,rfl,p5,p97,x0,x1,by omega,by omega,fun r1 H2 hr1 s2 h2=>?_⟩
   refine⟨_,rfl,_,rfl,_,rfl,_,rfl,_,_,rfl,rfl,_,_,rfl,rfl,⟨by omega,by omega⟩,_,_,rfl,rfl,p,y,nq'+1,?_,p5,p97,y0,y1,by omega,by omega,fun u1 H3 hu1 s3 h3=>?_⟩
   ·show [V.int p,V.int y,V.int ((sz:Int) / ((k:Int) - 1)+1)]=_
    rw [eN,enq]
   have s13:=s1.trans (s2.trans s3)
   have h3r:=s3 _ _ h2
   have hR3:=(s2.trans s3) _ _ hR
   have r1R:r1≠RL:=(zp hR hr1).symm
   have u1R:u1≠RL:=(zp (s2 _ _ hR) hu1).symm
   have ewt:((wt:Int)).toNat=wt:=by omega
   refine⟨_,rfl,_,rfl,by omega,by omega,?_⟩
   rw [ewt]
   refine zam (lo:=0) (n:=wt) (fun i σ H'=>∃ (e5 e12 e13 e14 e15 e16:Option V) (ls:List Addr),σ = [some (.int p),some (.int (k:Int)),some (.ref wl),some (.int (sz:Int)),some (.ref PL),e5,some (.ref RL),some (.int x),some (.int y),some (.int (wt:Int)),some (.ref r1),some (.ref u1),e12,e13,e14,e15,e16]∧zy HA H'∧(H' r1=some (.lst ((zbk p x (sz+1)).map V.int))∧H' u1=some (.lst ((zbk p y (nq'+1)).map V.int)))∧H' RL=some (.lst (ls.map V.ref))∧LsA H' ls ((cos (pts.take n)++pcI (x,y,wt) i).map (rowOf p k sz))) ⟨e5,e12,e13,e14,e15,e16,ls,rfl,s13,⟨h3r,h3⟩,hR3,?_⟩ ?_ ?_
   ·rw [show pcI (x,y,wt) 0 = [] from rfl,List.append_nil]
    exact hls.same (s2.trans s3)
   ·rintro i σ H4 hi ⟨e5,e12,e13,e14,e15,e16,ls,rfl,s4,⟨h4r,h4u⟩,hR4,hls4⟩
    rw [show ((0:Int)+(i:Int))=(i:Int) from Int.zero_add _]
    have ewi:((wt:Int) - (i:Int)).toNat=wt - i:=by omega
    refine⟨_,rfl,_,rfl,_,_,rfl,rfl,_,rfl,by omega,by omega,?_⟩
    rw [ewi]
    refine zam (lo:=0) (n:=wt - i) (fun j σ H'=>∃ (e5 e13 e14 e15 e16:Option V) (ls:List Addr),σ = [some (.int p),some (.int (k:Int)),some (.ref wl),some (.int (sz:Int)),some (.ref PL),e5,some (.ref RL),some (.int x),some (.int y),some (.int (wt:Int)),some (.ref r1),some (.ref u1),some (.int (i:Int)),e13,e14,e15,e16]∧zy HA H'∧(H' r1=some (.lst ((zbk p x (sz+1)).map V.int))∧H' u1=some (.lst ((zbk p y (nq'+1)).map V.int)))∧H' RL=some (.lst (ls.map V.ref))∧LsA H' ls ((cos (pts.take n)++pcI (x,y,wt) i++(List.range j).map fun v=>(⟨x,y,i,v⟩:Co)).map (rowOf p k sz))) ⟨e5,e13,e14,e15,e16,ls,rfl,s4,⟨h4r,h4u⟩,hR4,?_⟩ ?_ ?_
    ·rw [List.range_zero,List.map_nil,List.append_nil]
     exact hls4
    ·rintro j σ H5 hj ⟨e5,e13,e14,e15,e16,ls,rfl,s5,⟨h5r,h5u⟩,hR5,hls5⟩
     rw [show ((0:Int)+(j:Int))=(j:Int) from Int.zero_add _]
     refine⟨Nat.zero_le _,fun RW hRW=>?_⟩
     have hP5:=s5 _ _ hPLs
     refine⟨_,rfl,PL,rfl,⟨_,SqL.of ((zb hRW) _ _ hP5)⟩,zba (K:=K) (a:=PL) (xs:=us.map V.ref) (fun a' σ H'=>∃ (e14 e15 e16:Option V),σ = [some (.int p),some (.int (k:Int)),some (.ref wl),some (.int (sz:Int)),some (.ref PL),some (.int (j:Int)),some (.ref RL),some (.int x),some (.int y),some (.int (wt:Int)),some (.ref r1),some (.ref u1),some (.int (i:Int)),some (.ref RW),e14,e15,e16]∧zy H5 H'∧H' RW=some (.lst ((((gps k sz).take a').map fun t=>cv t ⟨x,y,i,j⟩ % p).map V.int))) ⟨e14,e15,e16,rfl,zb hRW,zc⟩ ?_ ?_ ?_⟩
     ·rintro a' σ H' _ ⟨_,_,_,_,s',_⟩
      exact SqL.of (s' _ _ hP5)
     ·rintro a' xv' σ H6 hxv ⟨e14,e15,e16,rfl,s6,h6W⟩
      obtain⟨b',rfl,hb'⟩:=z9 hxv
      obtain⟨q',hq',hT⟩:=Paired.get hus hb'
      rw [List.getElem?_map] at hq'
      obtain⟨tt,htt,rfl⟩:=Option.map_eq_some_iff.mp hq'
      have hb2:=hgl tt (List.mem_of_getElem? htt)
      have hT6:=(s5.trans s6) _ _ hT
      have h6r:=s6 _ _ h5r
      have h6u:=s6 _ _ h5u
      refine⟨b',_,rfl,SqT.of hT6,rfl,_,_,rfl,_,_,rfl,rfl,?_⟩
      refine⟨fun σ' H'=>H'=H6∧σ' = [some (.int p),some (.int (k:Int)),some (.ref wl),some (.int (sz:Int)),some (.ref PL),some (.int (j:Int)),some (.ref RL),some (.int x),some (.int y),some (.int (wt:Int)),some (.ref r1),some (.ref u1),some (.int (i:Int)),some (.ref RW),some (.int (tt.1:Int)),some (.int (tt.2:Int)),some (.int (nmb p x y i j tt))],?_,?_⟩
      ·refine⟨_,rfl,_,rfl,_,_,rfl,rfl,_,rfl,?_⟩
       have hch1:=zjr (t:=tt.1) (j:=i) (by omega) (by omega)
       have hch2:=zjr (t:=tt.2) (j:=j) (by omega) (by omega)
       refine zap (fun h1=>?_) (fun h1=>?_)
       ·have h1:(i:Int)≤(tt.1:Int):=of_decide_eq_true h1
        refine⟨_,rfl,_,rfl,_,_,rfl,rfl,_,rfl,?_⟩
        refine zap (fun h2=>?_) (fun h2=>?_)
        ·have h2:(j:Int)≤(tt.2:Int):=of_decide_eq_true h2
         have hat:atI ((zbk p x (sz+1)).map V.int) ((tt.1:Int) - (i:Int))=some (.int (x ^ (tt.1 - i) % p)):=by
          rw [show ((tt.1:Int) - (i:Int))=((tt.1 - i:Nat):Int) by omega]
          refine zL ?_
          unfold zbk
          rw [List.getElem?_map,List.getElem?_map,List.getElem?_range (by omega)]
          rfl
         have hat2:atI ((zbk p y (nq'+1)).map V.int) ((tt.2:Int) - (j:Int))=some (.int (y ^ (tt.2 - j) % p)):=by
          rw [show ((tt.2:Int) - (j:Int))=((tt.2 - j:Nat):Int) by omega]
          refine zL ?_
          unfold zbk
          rw [List.getElem?_map,List.getElem?_map,List.getElem?_range (by omega)]
          rfl
         have g10:=Int.emod_nonneg (x ^ (tt.1 - i)) (show p≠0 by omega)
         have g11:=Int.emod_lt_of_pos (x ^ (tt.1 - i)) (show 0 < p by omega)
         have g20:=Int.emod_nonneg (y ^ (tt.2 - j)) (show p≠0 by omega)
         have g21:=Int.emod_lt_of_pos (y ^ (tt.2 - j)) (show 0 < p by omega)
         refine⟨_,rfl,_,rfl,tt.1,i,rfl,by omega,by omega,_,rfl,_,rfl,tt.2,j,rfl,by omega,by omega,_,_,rfl,rfl,.inr ⟨by omega,by omega⟩,?_⟩
         refine⟨_,rfl,_,rfl,_,rfl,_,_,rfl,rfl,r1,_,_,_,rfl,rfl,SqL.of h6r,hat,_,_,rfl,rfl,.inr ⟨by omega,by omega⟩,?_⟩
         refine⟨_,rfl,_,rfl,_,rfl,_,_,rfl,rfl,u1,_,_,_,rfl,rfl,SqL.of h6u,hat2,_,_,rfl,rfl,.inr ⟨by omega,by omega⟩,?_⟩
         refine⟨rfl,?_⟩
         have en:nmb p x y i j tt=ch tt.1 i*ch tt.2 j*(x ^ (tt.1 - i) % p)*(y ^ (tt.2 - j) % p):=by unfold nmb; rw [if_pos ⟨by omega,by omega⟩]
         rw [en]
         rfl
        ·have h2:¬ ((j:Int)≤(tt.2:Int)):=fun h=>h2 (decide_eq_true h)
         refine⟨rfl,?_⟩
         have en:nmb p x y i j tt=0:=by unfold nmb; rw [if_neg (by omega)]
         rw [en]
         rfl
       ·have h1:¬ ((i:Int)≤(tt.1:Int)):=fun h=>h1 (decide_eq_true h)
        refine zcu ⟨rfl,?_⟩
        have en:nmb p x y i j tt=0:=by unfold nmb; rw [if_neg (by omega)]
        rw [en]
        rfl
      ·rintro σ' H' ⟨rfl,rfl⟩
       have hlt':a' < (gps k sz).length:=(List.getElem?_eq_some_iff.mp htt).1
       refine⟨_,rfl,.inl ⟨rfl,_,SqL.of h6W⟩,_,rfl,_,rfl,_,_,rfl,rfl,by omega,RW,_,_,rfl,rfl,h6W,by rw [List.length_map,List.length_map,List.length_take]; omega,?_⟩
       refine⟨_,_,_,rfl,zS s6 hRW,?_⟩
       rw [zc]
       show some (HO.lst (_++[V.int (nmb p x y i j tt % p)]))=_
       rw [zkw,take_snoc htt,List.map_append,List.map_append]
       rfl
     ·rintro σ H6 ⟨e14,e15,e16,rfl,s6,h6W⟩
      rw [List.length_map,hul,List.take_of_length_le (Nat.le_refl _)] at h6W
      have h6R:=s6 _ _ hR5
      have RWR:RW≠RL:=(zp hR5 hRW).symm
      have hll:ls.length≤(cos pts).length+100:=by
       have e1:=Paired.length hls5
       have e2:=zjA (pts:=pts) n
       rw [List.length_map,List.length_append,List.length_append,List.length_map,List.length_range] at e1
       have e3:(pcI (x,y,wt) i).length≤wt*i:=by
        clear e1
        have:∀ m,(pcI (x,y,wt) m).length≤wt*m:=by
         intro m
         induction m with
         | zero=>simp [pcI]
         | succ m ih =>
          rw [zf8,List.length_append,List.length_map,List.length_range,Nat.mul_succ]
          show _+(wt - m)≤_
          omega
        exact this i
       have e4:wt*i≤4*4:=Nat.mul_le_mul w4 (by omega)
       omega
      have hcb:(cos pts).length≤10*1000:=by
       rw [zci]
       have:∀ l:List (Int×Int×Nat),(∀ q∈l,q.2.2≤4)→zbJ l≤10*l.length:=by
        intro l
        induction l with
        | nil=>intro _; exact Nat.le_refl _
        | cons a l ih =>
         intro hl
         have h1:=ih fun q hq=>hl q (List.mem_cons_of_mem _ hq)
         have h2:=hl a List.mem_cons_self
         have h3:tri a.2.2≤10:=by
          have:a.2.2=0∨a.2.2=1∨a.2.2=2∨a.2.2=3∨a.2.2=4:=by omega
          rcases this with e | e | e | e | e <;> rw [e] <;> decide
         unfold zbJ at h1 ⊢
         rw [List.map_cons,List.sum_cons,List.length_cons]
         omega
       have:=this pts hw4
       omega
      refine⟨_,rfl,.inl ⟨rfl,_,SqL.of h6R⟩,_,rfl,RL,_,_,rfl,rfl,h6R,by rw [List.length_map]; omega,?_⟩
      refine⟨_,_,_,_,_,ls++[RW],rfl,zS (s5.trans s6) hRL,⟨by rw [zl r1R]; exact s6 _ _ h5r,by rw [zl u1R]; exact s6 _ _ h5u⟩,by rw [zc,List.map_append]; rfl,?_⟩
      have el:(cos (pts.take n)++pcI (x,y,wt) i++(List.range (j+1)).map fun v=>(⟨x,y,i,v⟩:Co)).map (rowOf p k sz)=(cos (pts.take n)++pcI (x,y,wt) i++(List.range j).map fun v=>(⟨x,y,i,v⟩:Co)).map (rowOf p k sz)++[rowOf p k sz ⟨x,y,i,j⟩]:=by
       rw [List.range_succ,List.map_append (f:=fun v=>(⟨x,y,i,v⟩:Co)),← List.append_assoc,List.map_append]
       rfl
      rw [el]
      refine Paired.snoc (zjs (D:=RL) (fun hm=>?_) (fun c o hc e=>by rw [zl hc]; exact e) (hls5.same s6)) (by rw [zl RWR]; exact h6W)
      obtain⟨j',hj'⟩:=List.mem_iff_getElem?.mp hm
      exact LsA.off hls5 hR5 j' RL hj' rfl
    ·rintro σ H5 ⟨e5,e13,e14,e15,e16,ls,rfl,s5,h5,hR5,hls5⟩
     refine⟨_,_,_,_,_,_,ls,rfl,s5,h5,hR5,?_⟩
     rw [zf8,← List.append_assoc]
     exact hls5
   ·rintro σ H4 ⟨e5,e12,e13,e14,e15,e16,ls,rfl,s4,h4,hR4,hls4⟩
    refine⟨_,_,_,_,_,_,_,_,_,_,_,ls,rfl,s4,hR4,?_⟩
    rw [take_snoc hq,zjF]
    exact hls4
  ·rintro σ H' ⟨e5,e7,e8,e9,e10,e11,e12,e13,e14,e15,e16,ls,rfl,s',hR,hls⟩
   rw [List.length_map,hcl,List.take_of_length_le (Nat.le_refl _)] at hls
   refine⟨_,rfl,_,rfl,PL,_,rfl,.inl (SqL.of (s' _ _ hPLs)),by show 2≤sizeLine; omega,fun z hz=>?_⟩
   rw [List.length_map,hul]
   have sf:=sA.trans s'
   have wz:=zb (o:=.tup [.ref RL,.int ((gps k sz).length:Int)]) hz
   exact q z RL ls _ (sf.free hz) (sf.trans wz) zc (wz _ _ hR) (hls.same wz)
end
end My
end
section
set_option maxHeartbeats 3999000
namespace My
open PySem L2 PyProof.Rows
section
variable {P:Program} {w:World} {K:PySem.W.Frag} {mg:Str→Option Value} {base:Heap} {t:Adr}
theorem zkx (k s:Nat):(gps k s).length=((List.range (s / (k - 1)+1)).map fun j=>s - (k - 1)*j+1).sum:=by
 unfold gps
 rw [List.length_flatMap]
 congr 1
 exact List.map_congr_left fun j _=>by rw [List.length_map,List.length_range]
def zd3 (K:PySem.W.Frag):Sp:=fun vs H Q _=>∃ (p:Int) (k size:Nat) (wl:Addr) (cs:List Addr) (pts:List (Int×Int×Nat)) (g:Tm→Int),vs = [.int p,.int (k:Int),.ref wl,.int ((size:Int) - 1)]∧p∈zH∧2≤k∧k≤100∧size≤200∧H wl=some (.lst (cs.map V.ref))∧W3 H cs pts∧zf1 p pts∧(∀ q∈pts,q.2.2≤4)∧pts.length≤1000∧(cos pts).length≤199∧Lst p k pts size g∧∀ H',zy H H'→Q (.bl false) H'
theorem zb8:FnScope ["p","k","weighed","size","many"] ["p","k","weighed","size"] (zh zas):=⟨rfl,rfl,rfl,by decide +kernel,rfl,by decide +kernel,by decide +kernel⟩
theorem zd4 {fd:FuncData} (T:Txt K mg t) (F:Fun K "_law_has_curve" "_law_has_curve" zas t.l_has_curve fd):FnOk P w K mg base CX0 3 t.l_has_curve fd ["p","k","weighed","size"] (zd3 K):=by
 obtain⟨fd_l_rank,F_l_rank,b_l_rank⟩:=T.f_l_rank
 have G_l_rank:=zia (P:=P) (w:=w) (base:=base) T F_l_rank
 obtain⟨fd_l_asked,F_l_asked,b_l_asked⟩:=T.f_l_asked
 have G_l_asked:=zgR (P:=P) (w:=w) (base:=base) T F_l_asked
 refine F.ok zb8 (fun vs H Q E h=>?_) (fun cdv A outer s H vs Q E hr h=>?_)
 ·obtain⟨p,k,size,wl,cs,pts,g,rfl,_⟩:=h
  rfl
 ·obtain⟨p,k,size,wl,cs,pts,g,rfl,hp,k2,k100,hs,hwl,hcs,hg,hw4,hn,hL,LS,q⟩:=h
  refine⟨_,(@zd _ _ _ _ _ (@zaG _ _ _ _ _ _ _ _ (@zz _ _ _ _ _ _ _ _ (@zdF _) (@pvx _ 3 _ _ rfl) (@zf _ _ _ _) (zF _)) (@zj _ _ _ (@zB _ _ _ _ (@zbs _ _ _ _))) (@zY _)) (by exact (@zd _ _ _ _ _ (@zm _ _ (4) _ _ _ _ zb8.nd rfl (Or.inl rfl) (@zn _ _ _ _ _ _ _ _ _ (@zbH _ rfl) (by rfl) T.sum_ boot_sum (@za _ _ _ _ _ (@zG _ _ _ _ _ _ _ _ _ _ _ _ _ (CompSc.of (N':=["j","size","k"]) (ix:=[none,some 3,some 1]) (zh zas) ["p","k","weighed","size","many"] rfl rfl (by decide +kernel)) rfl (@z0 _ _ rfl) (@zI _ _ _ _ _ _ rfl T.range_ (@za _ _ _ _ _ (@zg _ _ _ _ _ _ _ _ (@zJ _) (@zg _ _ _ _ _ _ _ _ (@zaA _) (@pvx _ 3 _ _ rfl) (@zg _ _ _ _ _ _ _ _ (@zV _) (@pvx _ 1 _ _ rfl) (@zf _ _ _ _))) (@zf _ _ _ _)) (@ze _) (by rfl)) (by rfl)) (fun _ _ _ _=>(@zi _ _ (0) _ (show (["j","size","k"]:List Str).Nodup by decide +kernel) rfl (Or.inl rfl) (by trivial))) (fun _ _ _ _=>(@zw _)) (fun _ _ _ _=>(@zg _ _ _ _ _ _ _ _ (@zJ _) (@zg _ _ _ _ _ _ _ _ (@zV _) (@pvx _ 1 _ _ rfl) (@zg _ _ _ _ _ _ _ _ (@zD _) (@zg _ _ _ _ _ _ _ _ (@zV _) (@pvx _ 2 _ _ rfl) (@zf _ _ _ _)) (@pvx _ 0 _ _ rfl))) (@zf _ _ _ _))) (by intro _; rfl)) (@ze _) (by rfl)) (by decide) (by decide) (by rfl) (by rfl)) (by rfl) (by trivial)) (by exact (@zd _ _ _ _ _ (@zaG _ _ _ _ _ _ _ _ (@zz _ _ _ _ _ _ _ _ (@zfr _) (@pvx _ 4 _ _ rfl) (@zn _ _ _ _ _ _ _ _ _ (@zbH _ rfl) (by rfl) T.sum_ boot_sum (@za _ _ _ _ _ (@zG _ _ _ _ _ _ _ _ _ _ _ _ _ (CompSc.of (N':=["a","b","weight"]) (ix:=[none,none,none]) (zh zas) ["p","k","weighed","size","many"] rfl rfl (by decide +kernel)) rfl (@zaH _ _ _ _ (@zr _ _ _ rfl (@zr _ _ _ rfl (@zr _ _ _ rfl (@zaj _))))) (@z8 _ _ _ _ (@pvx _ 2 _ _ rfl)) (fun _ _ _ _=>(@zak _ (K) _ _ _ (3) _ rfl rfl (@zk _ _ _ _ _ (@zi _ _ (0) _ (show (["a","b","weight"]:List Str).Nodup by decide +kernel) rfl (Or.inl rfl) (by trivial)) (@zk _ _ _ _ _ (@zi _ _ (1) _ (show (["a","b","weight"]:List Str).Nodup by decide +kernel) rfl (Or.inl rfl) (by trivial)) (@zk _ _ _ _ _ (@zi _ _ (2) _ (show (["a","b","weight"]:List Str).Nodup by decide +kernel) rfl (Or.inl rfl) (by trivial)) (@zK _) (by rfl)) (by rfl)) (by rfl)) (by rfl) (by rfl))) (fun _ _ _ _=>(@zw _)) (fun _ _ _ _=>(@zg _ _ _ _ _ _ _ _ (@zaA _) (@zg _ _ _ _ _ _ _ _ (@zD _) (@pvx _ 2 _ _ rfl) (@zg _ _ _ _ _ _ _ _ (@zJ _) (@pvx _ 2 _ _ rfl) (@zf _ _ _ _))) (@zf _ _ _ _))) (by intro _; rfl)) (@ze _) (by rfl)) (by decide) (by decide) (by rfl) (by rfl)) (zF _)) (@zj _ _ _ (@zB _ _ _ _ (@zbs _ _ _ _))) (@zY _)) (by exact (@zj _ _ _ (@zB _ _ _ _ (@zcC _ _ _ _ _ _ _ _ (@zdF _) (@zt _ _ _ _ _ _ _ _ _ _ _ _ _ _ _ _ G_l_rank (hr.mono (by decide)) rfl T.m_l_rank F_l_rank.kp b_l_rank .nil (@zW _) (@za _ _ _ _ _ (@pvx _ 0 _ _ rfl) (@za _ _ _ _ _ (@zu _ _ _ _ _ _ _ (@zbZ _) (@zt _ _ _ _ _ _ _ _ _ _ _ _ _ _ _ _ G_l_asked (hr.mono (by decide)) rfl T.m_l_asked F_l_asked.kp b_l_asked .nil (@zW _) (@za _ _ _ _ _ (@pvx _ 0 _ _ rfl) (by exact (@za _ _ _ _ _ (@pvx _ 1 _ _ rfl) (@za _ _ _ _ _ (@pvx _ 2 _ _ rfl) (@za _ _ _ _ _ (@pvx _ 3 _ _ rfl) (@ze _) (by rfl)) (by rfl)) (by rfl))) (by rfl)) (by decide) (by rfl) (by rfl)) (@zf _ _ _ _) (fun _ _=>rfl)) (@ze _) (by rfl)) (by rfl)) (by decide) (by rfl) (by rfl)) (@pvx _ 4 _ _ rfl) (zF _)))))))))),?_⟩
  have hsl:=sizeLine_eq
  have rp:=zU hp
  have hcl:=Paired.length hcs
  refine⟨_,rfl,_,_,rfl,rfl,_,rfl,?_⟩
  cases size with
  | zero =>
   refine zap (fun _=>q H fun _ _ e=>e) (fun h=>absurd (decide_eq_true (by omega)) h)
  | succ sz =>
  refine zap (fun h=>absurd (of_decide_eq_true h) (by omega)) (fun _=>?_)
  have es:(((sz+1:Nat):Int) - 1)=(sz:Int):=by omega
  rw [es]
  have k1:0 < k - 1:=by omega
  have ek1:((k:Int) - 1)=((k - 1:Nat):Int):=by omega
  have eN:((sz:Int) / ((k:Int) - 1)+1)=((sz / (k - 1)+1:Nat):Int):=by
   rw [ek1]
   exact congrArg (· + 1) (Int.natCast_ediv sz (k - 1)).symm
  have hqs:sz / (k - 1)≤sz:=Nat.div_le_self _ _
  refine⟨_,rfl,_,rfl,_,_,rfl,rfl,_,_,rfl,rfl,⟨by omega,by omega⟩,_,_,rfl,rfl,?_⟩
  refine⟨(sz:Int) / ((k:Int) - 1)+1,rfl,by rw [eN]; exact Int.le_trans (by decide) (Int.natCast_nonneg _),by rw [eN]; exact Int.lt_of_le_of_lt (Int.ofNat_le.mpr (show sz / (k - 1)+1≤301 from Nat.succ_le_succ (Nat.le_trans hqs (by omega)))) (by decide),?_⟩
  rw [eN,Int.toNat_natCast]
  refine zM (n:=sz / (k - 1)+1) (fun j ys H'=>H'=H∧ys=((List.range j).map fun j=>((sz - (k - 1)*j+1:Nat):Int)).map V.int) ⟨rfl,rfl⟩ (fun i ys H' hi _=>hi) (fun ys H' _=>Nat.le_refl _) ?_ ?_
  ·rintro j x ys H1 H2 hj ⟨rfl,rfl⟩ ⟨rfl,rfl⟩
   rw [show ((0:Int)+(j:Int))=(j:Int) from Int.zero_add _]
   have hjs:(k - 1)*j≤sz:=by
    have:=(Nat.le_div_iff_mul_le k1).mp (show j≤sz / (k - 1) by omega)
    rw [Nat.mul_comm]; exact this
   have eV:(sz:Int) - ((k:Int) - 1)*(j:Int)+1=((sz - (k - 1)*j+1:Nat):Int):=by
    rw [ek1,Int.natCast_add,Int.natCast_sub hjs,Int.natCast_mul]
    rfl
   refine gY ?_
   refine⟨_,rfl,_,rfl,_,_,rfl,rfl,_,rfl,_,_,rfl,rfl,.inl ⟨by omega,by omega⟩,_,_,rfl,rfl,_,_,rfl,rfl,?_⟩
   refine⟨by rw [List.length_map,List.length_map,List.length_range]; omega,rfl,?_⟩
   show _++[V.int ((sz:Int) - ((k:Int) - 1)*(j:Int)+1)]=_
   rw [eV,List.range_succ,List.map_append,List.map_append]
   rfl
  rintro ys H1 D1 ⟨rfl,rfl⟩ hD1
  refine⟨D1,_,rfl,SqL.of zc,?_⟩
  rw [zcT,← zkx]
  have s1:=zb (o:=.lst (((List.range (sz / (k - 1)+1)).map fun j=>((sz - (k - 1)*j+1:Nat):Int)).map V.int)) hD1
  generalize upd H1 D1 (.lst (((List.range (sz / (k - 1)+1)).map fun j=>((sz - (k - 1)*j+1:Nat):Int)).map V.int))=H2 at s1 ⊢
  refine⟨_,rfl,_,rfl,wl,rfl,⟨_,SqL.of (s1 _ _ hwl)⟩,za2 (fs:=(pts.map fun q=>(tri q.2.2:Int)).map V.int) (SqL.of (s1 _ _ hwl)) (by rw [List.length_map,List.length_map,List.length_map,hcl]) (by rw [List.length_map]; omega) (fun i x y R B hx hy hR=>?_) (fun D0 hD0=>?_)⟩
  ·obtain⟨b,rfl,hb⟩:=z9 hx
   obtain⟨⟨px,py,pw⟩,hq,hqb⟩:=Paired.get hcs hb
   have hw8:=hw4 _ (List.mem_of_getElem? hq)
   have hw9:pw≤4:=hw8
   rw [List.getElem?_map,List.getElem?_map,hq] at hy
   have hy:V.int (tri pw:Int)=y:=by simpa using hy
   subst hy
   refine gY3 (SqT.of (s1 _ _ hqb)) ?_
   refine⟨_,rfl,_,rfl,_,_,rfl,rfl,_,_,rfl,rfl,.inl ⟨by omega,by omega⟩,_,_,rfl,rfl,⟨by decide,by decide⟩,?_⟩
   show R (.int ((pw:Int)*((pw:Int)+1) / 2)) _
   rw [zf2]
   exact hR
  refine⟨D0,pts.map fun q=>(tri q.2.2:Int),rfl,SqL.of zc,?_⟩
  rw [zcT,show (pts.map fun q=>tri q.2.2).sum=zbJ pts from rfl,← zci]
  have s2:=s1.trans (zb (o:=.lst ((pts.map fun q=>(tri q.2.2:Int)).map V.int)) hD0)
  generalize upd H2 D0 (.lst ((pts.map fun q=>(tri q.2.2:Int)).map V.int))=H3 at s2 ⊢
  have hfew:=LS.few
  rw [← zhh k2] at hfew
  have hpos:1≤(cos pts).length:=by
   have:=zcY k (sz+1)
   have:=LS.few
   omega
  refine⟨_,_,rfl,rfl,_,rfl,?_⟩
  refine zap (fun h=>absurd (of_decide_eq_true h) (by omega)) (fun _=>?_)
  refine⟨_,rfl,_,rfl,_,rfl,_,rfl,_,rfl,p,k,sz,wl,cs,pts,rfl,by omega,by omega,k2,k100,by omega,s2 _ _ hwl,hcs.same s2,hg,hw4,hn,fun z rl ls H4 hz s4 h4z h4r hls=>?_⟩
  refine⟨z,_,_,_,rfl,rfl,SqT.of h4z,rfl,p,rl,ls,zfV p k sz pts,(gps k sz).length,rfl,h4r,hls,fun e=>?_,?_,by omega,fun row hrow=>?_,hp,fun pv H5 s5 R=>?_⟩
  ·have:(zfV p k sz pts).length=0:=by rw [e]; rfl
   unfold zfV at this
   rw [List.length_map] at this
   omega
  ·unfold zfV
   rw [List.length_map]
   omega
  ·unfold zfV at hrow
   obtain⟨c,_,rfl⟩:=List.mem_map.mp hrow
   rw [List.length_map]
  ·have:=zkp (by omega) R fun v hv=>zjn k2 LS hv
   refine⟨_,rfl,_,_,rfl,rfl,?_⟩
   have e:decide ((pv.length:Int) < ((gps k sz).length:Int))=false:=by rw [this]; simp
   show Q (.bl (decide ((pv.length:Int) < ((gps k sz).length:Int)))) H5
   rw [e]
   exact q _ ((s2.trans s4).trans s5)
end
end My
end
section
set_option maxHeartbeats 3999000
namespace My
open PySem L2 PyProof.Rows
section
variable {P:Program} {w:World} {K:PySem.W.Frag} {mg:Str→Option Value} {base:Heap} {t:Adr}
def zgS:List Str:=["few","curve","paper","place","number","heard","not heard","nothing","text","row"]
def zic (t:Adr) (K:PySem.W.Frag):Sp:=fun vs H Q _=>∃ (e C:Addr) (b0 b1 b2 b3 b4 b5 b6 b7 b8 b9:Bool) (j:Nat) (x:Str),vs = [.ref e]∧H e=some (ziS e C)∧KW K t C b0 b1 b2 b3 b4 b5 b6 b7 b8 b9∧[b0,b1,b2,b3,b4,b5,b6,b7,b8,b9].count true=1∧[b0,b1,b2,b3,b4,b5,b6,b7,b8,b9][j]? = some true∧(∀ m,m < j→[b0,b1,b2,b3,b4,b5,b6,b7,b8,b9][m]? = some false)∧j < 10∧zgS[j]? = some x∧∀ H',zy H H'→Q (.str x) H'
theorem zbN:FnScope ["e","kinds","words"] ["e"] (zh zcP):=⟨rfl,rfl,rfl,by decide +kernel,rfl,by decide +kernel,by decide +kernel⟩
theorem zid {fd:FuncData} (T:Txt K mg t) (F:Fun K "_law_word" "_law_word" zcP t.l_word fd):FnOkH P w K mg base 1 t.l_word fd ["e"] (zic t K):=by
 refine F.okH zbN (fun vs H Q E h=>?_) (fun cdv A outer s H vs Q E hr h=>?_)
 ·obtain⟨e,C,b0,b1,b2,b3,b4,b5,b6,b7,b8,b9,j,x,rfl,_⟩:=h
  rfl
 ·obtain⟨e,C,b0,b1,b2,b3,b4,b5,b6,b7,b8,b9,j,x,rfl,he,kw,hc,hj,hm,hj10,hx,q⟩:=h
  refine⟨_,(@zd _ _ _ _ _ (@zm _ _ (1) _ _ _ _ zbN.nd rfl (Or.inl rfl) (@zN _ _ _ _ (@za _ _ _ _ _ (@zn _ _ _ _ _ _ _ _ _ (@zX _) (by rfl) T.isinstance_ boot_isinstance (@za _ _ _ _ _ (@pvx _ 0 _ _ rfl) (@za _ _ _ _ _ (@za7 _ _ (.ref t.TooFew) _ _ rfl T.x_TooFew rfl (by decide)) (@ze _) (by rfl)) (by rfl)) (by decide) (by decide) (by rfl) (by rfl)) (by exact (@za _ _ _ _ _ (@zn _ _ _ _ _ _ _ _ _ (@zX _) (by rfl) T.isinstance_ boot_isinstance (@za _ _ _ _ _ (@pvx _ 0 _ _ rfl) (@za _ _ _ _ _ (@za7 _ _ (.ref t.NoCurve) _ _ rfl T.x_NoCurve rfl (by decide)) (@ze _) (by rfl)) (by rfl)) (by decide) (by decide) (by rfl) (by rfl)) (@za _ _ _ _ _ (@zn _ _ _ _ _ _ _ _ _ (@zX _) (by rfl) T.isinstance_ boot_isinstance (@za _ _ _ _ _ (@pvx _ 0 _ _ rfl) (@za _ _ _ _ _ (@za7 _ _ (.ref t.NoPaper) _ _ rfl T.x_NoPaper rfl (by decide)) (@ze _) (by rfl)) (by rfl)) (by decide) (by decide) (by rfl) (by rfl)) (@za _ _ _ _ _ (@zn _ _ _ _ _ _ _ _ _ (@zX _) (by rfl) T.isinstance_ boot_isinstance (@za _ _ _ _ _ (@pvx _ 0 _ _ rfl) (@za _ _ _ _ _ (@za7 _ _ (.ref t.NoPlace) _ _ rfl T.x_NoPlace rfl (by decide)) (@ze _) (by rfl)) (by rfl)) (by decide) (by decide) (by rfl) (by rfl)) (@ze _) (by rfl)) (by rfl)) (by rfl))) (by rfl))) (by rfl) (by trivial)) (by exact (@zd _ _ _ _ _ (@zm _ _ (1) _ _ _ _ zbN.nd rfl (Or.inl rfl) (@zg _ _ _ _ _ _ _ _ (@zct _) (@pvx _ 1 _ _ rfl) (@zN _ _ _ _ (@za _ _ _ _ _ (@zn _ _ _ _ _ _ _ _ _ (@zX _) (by rfl) T.isinstance_ boot_isinstance (@za _ _ _ _ _ (@pvx _ 0 _ _ rfl) (@za _ _ _ _ _ (@za7 _ _ (.ref t.NoNumber) _ _ rfl T.x_NoNumber rfl (by decide)) (@ze _) (by rfl)) (by rfl)) (by decide) (by decide) (by rfl) (by rfl)) (@za _ _ _ _ _ (@zn _ _ _ _ _ _ _ _ _ (@zX _) (by rfl) T.isinstance_ boot_isinstance (@za _ _ _ _ _ (@pvx _ 0 _ _ rfl) (@za _ _ _ _ _ (@za7 _ _ (.ref t.Heard) _ _ rfl T.x_Heard rfl (by decide)) (@ze _) (by rfl)) (by rfl)) (by decide) (by decide) (by rfl) (by rfl)) (@za _ _ _ _ _ (@zn _ _ _ _ _ _ _ _ _ (@zX _) (by rfl) T.isinstance_ boot_isinstance (@za _ _ _ _ _ (@pvx _ 0 _ _ rfl) (@za _ _ _ _ _ (@za7 _ _ (.ref t.NotHeard) _ _ rfl T.x_NotHeard rfl (by decide)) (@ze _) (by rfl)) (by rfl)) (by decide) (by decide) (by rfl) (by rfl)) (@ze _) (by rfl)) (by rfl)) (by rfl)))) (by rfl) (by trivial)) (by exact (@zd _ _ _ _ _ (@zm _ _ (1) _ _ _ _ zbN.nd rfl (Or.inl rfl) (@zg _ _ _ _ _ _ _ _ (@zct _) (@pvx _ 1 _ _ rfl) (@zN _ _ _ _ (@za _ _ _ _ _ (@zn _ _ _ _ _ _ _ _ _ (@zX _) (by rfl) T.isinstance_ boot_isinstance (@za _ _ _ _ _ (@pvx _ 0 _ _ rfl) (@za _ _ _ _ _ (@za7 _ _ (.ref t.NothingLeft) _ _ rfl T.x_NothingLeft rfl (by decide)) (@ze _) (by rfl)) (by rfl)) (by decide) (by decide) (by rfl) (by rfl)) (@za _ _ _ _ _ (@zn _ _ _ _ _ _ _ _ _ (@zX _) (by rfl) T.isinstance_ boot_isinstance (@za _ _ _ _ _ (@pvx _ 0 _ _ rfl) (@za _ _ _ _ _ (@za7 _ _ (.ref t.NoText) _ _ rfl T.x_NoText rfl (by decide)) (@ze _) (by rfl)) (by rfl)) (by decide) (by decide) (by rfl) (by rfl)) (@za _ _ _ _ _ (@zn _ _ _ _ _ _ _ _ _ (@zX _) (by rfl) T.isinstance_ boot_isinstance (@za _ _ _ _ _ (@pvx _ 0 _ _ rfl) (@za _ _ _ _ _ (@za7 _ _ (.ref t.NoRow) _ _ rfl T.x_NoRow rfl (by decide)) (@ze _) (by rfl)) (by rfl)) (by decide) (by decide) (by rfl) (by rfl)) (@ze _) (by rfl)) (by rfl)) (by rfl)))) (by rfl) (by trivial)) (by exact (@zd _ _ _ _ _ (@zaG _ _ _ _ _ _ _ _ (@PW.pt _ _ _ (@zek _ _ _ _ _ _ _ (@zz _ _ _ _ _ _ _ _ (@zc5 _) (@zbF _ _ _ _ _ _ _ _ _ _ _ _ PySem.F.plainAttrs_list PySem.F.slot_list_count PySem.F.type_list_count (@zhS _) (@pvx _ 1 _ _ rfl) (@za _ _ _ _ _ (@zbs _ _ _ _) (@ze _) (by rfl)) (by rfl) (by rfl) (by rfl) (by rfl) (by rfl)) (@zf _ _ _ _) (zF _)) (@zeM _ _ _ _ (@zcs _ _ _ _ (@zcr _ _ _ (@zn _ _ _ _ _ _ _ _ _ (@zX _) (by rfl) T.isinstance_ boot_isinstance (@za _ _ _ _ _ (@pvx _ 0 _ _ rfl) (@za _ _ _ _ _ (@zca _ _ (.ty "ValueError") _ _ rfl T.ValueError_ PyProof.Rows.Boot.ValueError rfl (by decide) (by decide)) (@ze _) (by rfl)) (by rfl)) (by decide) (by decide) (by rfl) (by rfl)) (by intro _; rfl)))))) (@zj _ _ _ (@zB _ _ _ _ (@zeL _ _ _ _))) (@zY _)) (by exact (by exact (@ziX _ 2 _ _ _ _ _ _ _ ["few","curve","paper","place","number","heard","not heard","nothing","text","row"] (by decide +kernel) zbN.nd rfl (Or.inl rfl) (by first | exact .inl rfl | exact .inr rfl) (by exact (@zj _ _ _ (@zB _ _ _ _ (@zu _ _ _ _ _ _ _ (@zq _) (@pvx _ 2 _ _ rfl) (@zbF _ _ _ _ _ _ _ _ _ _ _ _ PySem.F.plainAttrs_list PySem.F.slot_list_index PySem.F.type_list_index (@zhT _) (@pvx _ 1 _ _ rfl) (@za _ _ _ _ _ (@zbs _ _ _ _) (@ze _) (by rfl)) (by rfl) (by rfl) (by rfl) (by rfl) (by rfl)) (fun _ _=>rfl))))))))))))))),?_⟩
  have hsl:=sizeLine_eq
  have xc:=kw.xc
  refine⟨_,rfl,e,C,_,_,rfl,he,xc,.inl ⟨_,rfl,kw.i0⟩,_,rfl,e,C,_,_,rfl,he,xc,.inl ⟨_,rfl,kw.i1⟩,_,rfl,e,C,_,_,rfl,he,xc,.inl ⟨_,rfl,kw.i2⟩,_,rfl,e,C,_,_,rfl,he,xc,.inl ⟨_,rfl,kw.i3⟩,by show 4≤sizeLine; omega,fun l1 hl1=>?_⟩
  have s1:=zb (o:=.lst [.bl b0,.bl b1,.bl b2,.bl b3]) hl1
  have he1:=s1 _ _ he
  refine⟨_,rfl,_,rfl,e,C,_,_,rfl,he1,xc,.inl ⟨_,rfl,kw.i4⟩,_,rfl,e,C,_,_,rfl,he1,xc,.inl ⟨_,rfl,kw.i5⟩,_,rfl,e,C,_,_,rfl,he1,xc,.inl ⟨_,rfl,kw.i6⟩,by show 3≤sizeLine; omega,fun l2 hl2=>?_⟩
  have s2:=zb (o:=.lst [.bl b4,.bl b5,.bl b6]) hl2
  refine⟨l1,l2,_,_,rfl,rfl,s2 _ _ zc,zc,by show 7≤sizeLine; omega,fun l3 hl3=>?_⟩
  have s3:=zb (o:=.lst ([V.bl b0,.bl b1,.bl b2,.bl b3]++[.bl b4,.bl b5,.bl b6])) hl3
  have he3:=s3 _ _ (s2 _ _ he1)
  refine⟨_,rfl,_,rfl,e,C,_,_,rfl,he3,xc,.inl ⟨_,rfl,kw.i7⟩,_,rfl,e,C,_,_,rfl,he3,xc,.inl ⟨_,rfl,kw.i8⟩,_,rfl,e,C,_,_,rfl,he3,xc,.inl ⟨_,rfl,kw.i9⟩,by show 3≤sizeLine; omega,fun l4 hl4=>?_⟩
  have s4:=zb (o:=.lst [.bl b7,.bl b8,.bl b9]) hl4
  refine⟨l3,l4,_,_,rfl,rfl,s4 _ _ zc,zc,by show 10≤sizeLine; omega,fun l5 hl5=>?_⟩
  have s5:=zb (o:=.lst ([V.bl b0,.bl b1,.bl b2,.bl b3]++[.bl b4,.bl b5,.bl b6]++[.bl b7,.bl b8,.bl b9])) hl5
  have he5:=s5 _ _ (s4 _ _ he3)
  have sA:=s1.trans (s2.trans (s3.trans (s4.trans s5)))
  have h5:upd (upd (upd (upd (upd H l1 (.lst [.bl b0,.bl b1,.bl b2,.bl b3])) l2 (.lst [.bl b4,.bl b5,.bl b6])) l3 (.lst ([V.bl b0,.bl b1,.bl b2,.bl b3]++[.bl b4,.bl b5,.bl b6]))) l4 (.lst [.bl b7,.bl b8,.bl b9])) l5 (.lst ([V.bl b0,.bl b1,.bl b2,.bl b3]++[.bl b4,.bl b5,.bl b6]++[.bl b7,.bl b8,.bl b9])) l5=some (.lst ([b0,b1,b2,b3,b4,b5,b6,b7,b8,b9].map V.bl)):=zc
  generalize upd (upd (upd (upd (upd H l1 (.lst [.bl b0,.bl b1,.bl b2,.bl b3])) l2 (.lst [.bl b4,.bl b5,.bl b6])) l3 (.lst ([V.bl b0,.bl b1,.bl b2,.bl b3]++[.bl b4,.bl b5,.bl b6]))) l4 (.lst [.bl b7,.bl b8,.bl b9])) l5 (.lst ([V.bl b0,.bl b1,.bl b2,.bl b3]++[.bl b4,.bl b5,.bl b6]++[.bl b7,.bl b8,.bl b9]))=H5 at he5 sA h5 ⊢
  refine⟨_,rfl,.inl ⟨rfl,_,SqL.of h5⟩,l5,_,true,rfl,rfl,h5,?_⟩
  rw [hc]
  refine⟨rfl,_,rfl,?_⟩
  refine zcu ?_
  refine⟨_,rfl,e,C,_,_,rfl,he5,xc,.inr ⟨_,rfl,kw.iv⟩,_,rfl,?_⟩
  refine zcu ?_
  refine⟨by show 10≤sizeLine; omega,fun lw hlw=>?_⟩
  have s6:=zb (o:=.lst (zgS.map V.str)) hlw
  refine⟨_,rfl,_,rfl,.inl ⟨rfl,_,SqL.of (s6 _ _ h5)⟩,l5,_,true,j,rfl,rfl,s6 _ _ h5,hj,hm,by omega,?_⟩
  refine⟨lw,_,_,.str x,rfl,rfl,SqL.of zc,?_,q _ (sA.trans s6)⟩
  exact zL (xs:=zgS.map V.str) (by rw [List.getElem?_map,hx]; rfl)
def zmf (p:Int) (k m:Nat) (pl:List Int) (rw:List (Option Int)) (H H':Hp) (v:V):Prop:=(k < 2∧v = .str "curve")∨(2≤k∧∃ (z r:Addr) (ls:List Addr) (size:Nat) (g:Tm→Int),v = .ref z∧H z=none∧H' z=some (.tup [.int (size:Int),.ref r])∧H' r=some (.tup (ls.map V.ref))∧zd9 H' ls (zaC k size g)∧Lst p k (wpt m (hps pl rw)) size g∧size≤200)
def zie (t:Adr) (K:PySem.W.Frag):Sp:=fun vs H Q _=>∃ (c tt r:Addr) (p:Int) (k m:Nat) (pl:List Int) (rw:List (Option Int)),vs = [.ref c,.ref r,.int (m:Int)]∧zb4 H c tt p k pl∧H r=some (.lst (rw.map enc))∧rw.length=pl.length∧pl.length≤16∧p∈zH∧pl.Nodup∧(∀ x∈pl,0≤x∧x < p)∧(∀ z,some z∈rw→0≤z∧z < p)∧1≤k∧k≤100∧1≤m∧m≤9∧(2≤k→(hps pl rw).length*tri m≤199) ∧
 ∀ v H',zy H H'→zmf p k m pl rw H H' v→Q v H'
theorem zbO:FnScope ["code","row","m","found","e"] ["code","row","m"] (zh zcQ):=⟨rfl,rfl,rfl,by decide +kernel,rfl,by decide +kernel,by decide +kernel⟩
theorem zif {fd:FuncData} (T:Txt K mg t) (F:Fun K "_law_told" "_law_told" zcQ t.l_told fd):FnOk P w K mg base CX0 8 t.l_told fd ["code","row","m"] (zie t K):=by
 obtain⟨fd_curve_for,F_curve_for,b_curve_for⟩:=T.f_curve_for
 have G_curve_for:=zfm (P:=P) (w:=w) (base:=base) T F_curve_for
 obtain⟨fd_l_word,F_l_word,b_l_word⟩:=T.f_l_word
 have G_l_word:=zid (P:=P) (w:=w) (base:=base) T F_l_word
 refine F.ok zbO (fun vs H Q E h=>?_) (fun cdv A outer s H vs Q E hr h=>?_)
 ·obtain⟨c,tt,r,p,k,m,pl,rw,rfl,_⟩:=h
  rfl
 ·obtain⟨c,tt,r,p,k,m,pl,rw,rfl,hc,hra,hrl,hn,hp,hnd,hpl,hrw,k0,k1,m1,m9,hA,q⟩:=h
  refine⟨_,(@zd _ _ _ _ _ (@zm _ _ (3) _ _ _ _ zbO.nd rfl (Or.inl rfl) (@zcU _ _ _) (by rfl) (by trivial)) (by exact (@zd _ _ _ _ _ (@zlm _ _ _ _ (4) _ _ _ _ _ _ _ _ rfl rfl rfl rfl T.x_SlipError T.sb zbO.nd rfl rfl (fun xe pins σ E hp=>(@zgy _ _ _ _ _ (@zhQ _ _ _ _ _ _ _ (3) _ zbO.nd rfl (Or.inl rfl) (@zgx _ _ _ _ _ _ _ _ _ _ _ _ _ _ _ _ _ _ G_curve_for (hr.mono (by decide)) rfl T.m_curve_for F_curve_for.kp b_curve_for .nil hp (@za _ _ _ _ _ (@pvx _ 0 _ _ rfl) (@za _ _ _ _ _ (@pvx _ 1 _ _ rfl) (@za _ _ _ _ _ (@pvx _ 2 _ _ rfl) (@ze _) (by rfl)) (by rfl)) (by rfl)) (by decide) (by rfl) (by rfl)) (by rfl) (by trivial)))) (fun e=>zj (@zm _ _ (3) _ _ _ _ zbO.nd rfl (Or.inl rfl) (@ziW _ _ _ _ _ _ _ _ _ _ _ _ G_l_word (RoomH.of (hr.mono (by decide))) rfl T.m_l_word F_l_word.kp b_l_word (@za _ _ _ _ _ (@pvx _ 4 _ _ rfl) (@ze _) (by rfl)) (by decide) (by rfl) (by rfl)) (by rfl) (by trivial))) (by decide)) (by exact (@zj _ _ _ (@zB _ _ _ _ (@pvx _ 3 _ _ rfl))))))),?_⟩
  refine⟨_,rfl,_,rfl,_,rfl,c,tt,r,p,k,m,pl,rw,rfl,hc,hra,hrl,hn,hp,hnd,hpl,hrw,k0,k1,m1,m9,?_⟩
  by_cases h1:k < 2
  ·refine .inl ⟨h1,fun H1 s1=>⟨_,rfl,T.kw_NoCurve.sl,fun e he=>?_⟩⟩
   refine⟨_,rfl,e,_,_,_,_,_,_,_,_,_,_,_,1,"curve",rfl,zc,T.kw_NoCurve,rfl,rfl,by decide,by decide,rfl,fun H' s'=>?_⟩
   exact⟨_,rfl,q _ H' (s1.trans ((zb he).trans s')) (.inl ⟨h1,rfl⟩)⟩
  ·refine .inr ⟨by omega,hA (by omega),fun z r' ls size g H' hz s' h1' h2' ht hL hs=>?_⟩
   exact⟨_,rfl,q _ H' s' (.inr ⟨by omega,z,r',ls,size,g,rfl,hz,h1',h2',ht,hL,hs⟩)⟩
end
end My
end
section
set_option maxHeartbeats 3999000
namespace My
open PySem L2 PyProof.Rows
section
variable {P:Program} {w:World} {K:PySem.W.Frag} {mg:Str→Option Value} {base:Heap} {t:Adr}
theorem zgT:∀ n,inV (.bl false) (List.replicate n (.bl true))=false
 | 0=>rfl
 | n+1=>by
  have ih:=zgT n
  unfold inV at ih ⊢
  rw [List.replicate_succ,List.any_cons,ih]
  rfl
theorem zd5:∀ n,(List.replicate n (V.bl true)).all zb0=true
 | 0=>rfl
 | n+1=>by rw [List.replicate_succ,List.all_cons,zd5 n]; rfl
def zeg (K:PySem.W.Frag):Sp:=fun vs H Q _=>∃ (p:Int) (a:Addr) (bs:List Addr) (rows:List (List Int)),vs = [.int p,.ref a]∧5≤p∧p≤97∧H a=some (.tup (bs.map V.ref))∧zd9 H bs rows∧rows.length≤250∧(∀ r∈rows,r.length≤250∧∀ v∈r,0≤v∧v < p)∧(∃ r∈rows,∃ v∈r,v≠0)∧rows.flatten.length≤5000∧∀ H',zy H H'→Q (.bl true) H'
theorem zbD:FnScope ["p","curve","numbers","line"] ["p","curve"] (zh zaE):=⟨rfl,rfl,rfl,by decide +kernel,rfl,by decide +kernel,by decide +kernel⟩
theorem zeh {fd:FuncData} (T:Txt K mg t) (F:Fun K "_law_is_curve" "_law_is_curve" zaE t.l_is_curve fd):FnOk P w K mg base CX0 2 t.l_is_curve fd ["p","curve"] (zeg K):=by
 obtain⟨fd_l_whole,F_l_whole,b_l_whole⟩:=T.f_l_whole
 have G_l_whole:=zdU (P:=P) (w:=w) (base:=base) T F_l_whole
 refine F.ok zbD (fun vs H Q E h=>?_) (fun cdv A outer s H vs Q E hr h=>?_)
 ·obtain⟨p,a,bs,rows,rfl,_⟩:=h
  rfl
 ·obtain⟨p,a,bs,rows,rfl,p5,p97,ha,hb,hn,hw,hne,hf5,q⟩:=h
  refine⟨_,(@zd _ _ _ _ _ (@zaG _ _ _ _ _ _ _ _ (@PW.pt _ _ _ (@zek _ _ _ _ _ _ _ (@zcs _ _ _ _ (@zcr _ _ _ (@zn _ _ _ _ _ _ _ _ _ (@zbc _) (by rfl) T.isinstance_ boot_isinstance (@za _ _ _ _ _ (@pvx _ 1 _ _ rfl) (@za _ _ _ _ _ (@zca _ _ (.ty "tuple") _ _ rfl T.tuple_ boot_tuple rfl (by decide) (by decide)) (@ze _) (by rfl)) (by rfl)) (by decide) (by decide) (by rfl) (by rfl)) (by intro _; rfl))) (@zeM _ _ _ _ (@zz _ _ _ _ _ _ _ _ (@zhz _) (@zbs _ _ _ _) (@zG _ _ _ _ _ _ _ _ _ _ _ _ _ (CompSc.of (N':=["line"]) (ix:=[none]) (zh zaE) ["p","curve","numbers","line"] rfl rfl (by decide +kernel)) rfl (@z0 _ _ rfl) (@zeP _ _ _ _ (@pvx _ 1 _ _ rfl)) (fun _ _ _ _=>(@zi _ _ (0) _ (show (["line"]:List Str).Nodup by decide +kernel) rfl (Or.inl rfl) (by trivial))) (fun _ _ _ _=>(@zw _)) (fun _ _ _ _=>(@zn _ _ _ _ _ _ _ _ _ (@zeZ _ (K) rfl) (by rfl) T.isinstance_ boot_isinstance (@za _ _ _ _ _ (@pvx _ 0 _ _ rfl) (@za _ _ _ _ _ (@zca _ _ (.ty "tuple") _ _ rfl T.tuple_ boot_tuple rfl (by decide) (by decide)) (@ze _) (by rfl)) (by rfl)) (by decide) (by decide) (by rfl) (by rfl))) (by intro _; rfl)) (by with_unfolding_all rfl))))) (@zj _ _ _ (@zB _ _ _ _ (@zbs _ _ _ _))) (@zY _)) (by exact (@zd _ _ _ _ _ (@zm _ _ (2) _ _ _ _ zbD.nd rfl (Or.inl rfl) (@zN _ _ _ _ (@ze _)) (by rfl) (by trivial)) (by exact (@zd _ _ _ _ _ (@zai _ _ _ _ _ _ _ _ PassesOwn.never rfl (@zeP _ _ _ _ (@pvx _ 1 _ _ rfl)) (@zi _ _ (3) _ zbD.nd rfl (Or.inl rfl) (by trivial)) (@zj _ _ _ (@zaS _ _ _ _ (@zbF _ _ _ _ _ _ _ _ _ _ _ _ PySem.F.plainAttrs_list PySem.F.slot_list_extend PySem.F.type_list_extend zgF (@pvx _ 2 _ _ rfl) (@za _ _ _ _ _ (@pvx _ 3 _ _ rfl) (@ze _) (by rfl)) (by rfl) (by rfl) (by rfl) (by rfl) (by rfl)) (by rfl))) (by intro _; rfl)) (by exact (@zj _ _ _ (@zB _ _ _ _ (@zga _ _ _ _ _ _ _ (@zcC _ _ _ _ _ _ _ _ (@zeS _) (@zbs _ _ _ _) (@zG _ _ _ _ _ _ _ _ _ _ _ _ _ (CompSc.of (N':=["number","p"]) (ix:=[none,some 0]) (zh zaE) ["p","curve","numbers","line"] rfl rfl (by decide +kernel)) rfl (@z0 _ _ rfl) (@z8 _ _ _ _ (@pvx _ 2 _ _ rfl)) (fun _ _ _ _=>(@zi _ _ (0) _ (show (["number","p"]:List Str).Nodup by decide +kernel) rfl (Or.inl rfl) (by trivial))) (fun _ _ _ _=>(@zw _)) (fun _ _ _ _=>(@zga _ _ _ _ _ _ _ (@zt _ _ _ _ _ _ _ _ _ _ _ _ _ _ _ _ G_l_whole (hr.mono (by decide)) rfl T.m_l_whole F_l_whole.kp b_l_whole .nil (@zW _) (@za _ _ _ _ _ (@pvx _ 0 _ _ rfl) (@ze _) (by rfl)) (by decide) (by rfl) (by rfl)) (@zf9 _ _ _ _ _ (@zit _ _ _ _ _ _ _ _ _ _ _ _ (@zkD _) (@zdF _) (@zf _ _ _ _) (@pvx _ 0 _ _ rfl) (@pvx _ 1 _ _ rfl) (by with_unfolding_all rfl))))) (by intro _; rfl)) (by with_unfolding_all rfl)) (@zf9 _ _ _ _ _ (@zcC _ _ _ _ _ _ _ _ (@zfr _) (@zn _ _ _ _ _ _ _ _ _ (@zbm _ rfl) (by rfl) T.max_ boot_max (@za _ _ _ _ _ (@pvx _ 2 _ _ rfl) (@ze _) (by rfl)) (by decide) (by decide) (by rfl) (by rfl)) (@zf _ _ _ _) (zF _)))))))))))),?_⟩
  have hsl:=sizeLine_eq
  have hlen:=Paired.length hb
  have fl:∀ m,(rows.take m).flatten.length≤250*m:=fun m=>by
   induction m with
   | zero=>simp
   | succ m ih =>
    cases e:rows[m]? with
    | none =>
     have:rows.take (m+1)=rows.take m:=by rw [List.take_of_length_le (by have:=List.getElem?_eq_none_iff.mp e; omega),List.take_of_length_le (List.getElem?_eq_none_iff.mp e)]
     rw [this]
     omega
    | some r =>
     have:=(hw r (List.mem_of_getElem? e)).1
     rw [take_snoc e,List.flatten_append,List.length_append]
     simp only [List.flatten_cons,List.flatten_nil,List.append_nil]
     omega
  refine⟨_,rfl,_,_,_,_,rfl,.tup ha,rfl,_,rfl,zcu ?_⟩
  refine⟨_,rfl,a,rfl,⟨_,SqT.of ha⟩,zeB (fs:=List.replicate rows.length (.bl true)) (SqT.of ha) (by rw [List.length_replicate,List.length_map,hlen]) (by rw [List.length_map]; omega) (fun i x y R B hx hy hR=>?_) (fun D hD=>?_)⟩
  ·obtain⟨b,rfl,hbi⟩:=z9 hx
   obtain⟨r,hr,hrb⟩:=Paired.get hb hbi
   have hy:y = .bl true:=(List.eq_of_mem_replicate (List.mem_of_getElem? hy))
   subst hy
   refine gY ?_
   exact⟨_,rfl,_,_,_,_,rfl,.tup hrb,rfl,hR⟩
  have s0:=zb (o:=.lst (List.replicate rows.length (.bl true))) hD
  refine⟨D,_,rfl,.inl (SqL.of zc),rfl,zd5 _,_,rfl,?_⟩
  generalize upd H D (.lst (List.replicate rows.length (.bl true)))=H0 at s0 ⊢
  refine zap (fun hc=>absurd hc (by simp [zgT])) (fun _=>?_)
  refine⟨Nat.zero_le _,fun NL hNL=>?_⟩
  have wN:=zb (o:=.lst []) hNL
  refine⟨_,rfl,a,rfl,⟨_,SqT.of (wN _ _ (s0 _ _ ha))⟩,zgj (n:=rows.length) (fun m σ H'=>∃ e3:Option V,σ = [some (.int p),some (.ref a),some (.ref NL),e3]∧zy H0 H'∧H' NL=some (.lst ((rows.take m).flatten.map V.int))) ⟨none,rfl,wN,zc⟩ ?_ ?_ ?_ ?_⟩
  ·rintro m σ H1 hm ⟨e3,rfl,s1,h1⟩
   exact⟨_,.ref (bs[m]'(by omega)),SqT.of ((s0.trans s1) _ _ ha),by rw [List.getElem?_map,List.getElem?_eq_getElem (by omega)]; rfl⟩
  ·rintro σ H1 ⟨e3,rfl,s1,h1⟩
   exact⟨_,SqT.of ((s0.trans s1) _ _ ha),by rw [List.length_map]; omega⟩
  ·rintro m x σ H1 H2 hm ⟨e3,rfl,s1,h1⟩ ⟨rfl,hx⟩
   obtain⟨b,rfl,hbm⟩:=z9 (hx _ (SqT.of ((s0.trans s1) _ _ ha)))
   obtain⟨r,hr,hrb⟩:=Paired.get hb hbm
   have h1r:=(s0.trans s1) _ _ hrb
   have hrl:=(hw r (List.mem_of_getElem? hr)).1
   have fm:=fl m
   refine⟨_,rfl,.inl ⟨rfl,_,SqL.of h1⟩,_,rfl,NL,b,_,_,rfl,rfl,h1,SqT.of h1r,by rw [List.length_map,List.length_map]; omega,?_⟩
   refine⟨_,rfl,zS s1 hNL,?_⟩
   rw [zc,take_snoc hr,List.flatten_append,List.map_append]
   simp
  ·rintro σ H1 ⟨e3,rfl,s1,h1⟩
   rw [List.take_of_length_le (Nat.le_refl _)] at h1
   have fm:=fl rows.length
   rw [List.take_of_length_le (Nat.le_refl _)] at fm
   have fw:∀ v∈rows.flatten,0≤v∧v < p:=fun v hv=>by
    obtain⟨r,hr,hv⟩:=List.mem_flatten.mp hv
    exact (hw r hr).2 v hv
   refine⟨_,rfl,NL,rfl,⟨_,SqL.of h1⟩,za2 (fs:=List.replicate rows.flatten.length (.bl true)) (SqL.of h1) (by rw [List.length_replicate,List.length_map]) (by rw [List.length_map]; omega) (fun i x y R B hx hy hR=>?_) (fun D2 hD2=>?_)⟩
   ·obtain⟨c,rfl,hc⟩:=zal hx
    have hcr:=fw c (List.mem_of_getElem? hc)
    have hy:y = .bl true:=(List.eq_of_mem_replicate (List.mem_of_getElem? hy))
    subst hy
    refine gY ?_
    refine⟨_,rfl,c,rfl,true,rfl,zhC ?_⟩
    refine⟨_,rfl,_,_,rfl,rfl,_,rfl,?_⟩
    rw [show decide ((0:Int)≤c)=true from decide_eq_true hcr.1]
    refine zhC ⟨_,rfl,_,_,rfl,rfl,?_⟩
    show R (.bl (decide (c < p))) _
    rw [decide_eq_true hcr.2]
    exact hR
   have w2:=zb (o:=.lst (List.replicate rows.flatten.length (.bl true))) hD2
   refine⟨D2,_,rfl,.inl (SqL.of zc),rfl,zd5 _,_,rfl,?_⟩
   refine zap (fun _=>?_) (fun hc=>absurd (by simp [zgT]) hc)
   obtain⟨r0,hr0,v0,hv0,hv0n⟩:=hne
   have v0m:v0∈rows.flatten:=List.mem_flatten.mpr ⟨r0,hr0,hv0⟩
   refine⟨_,rfl,NL,rows.flatten,rfl,SqL.of (w2 _ _ h1),(fun e=>by rw [e] at v0m; cases v0m),fun M hM hM'=>?_⟩
   have hM0:0 < M:=by
    have:=hM' v0 v0m
    have:=fw v0 v0m
    omega
   refine⟨_,_,rfl,rfl,?_⟩
   show Q (.bl (decide ((0:Int) < M))) _
   rw [decide_eq_true hM0]
   exact q _ ((s0.trans s1).trans w2)
end
end My
end
section
set_option maxHeartbeats 3999000
namespace My
open PySem L2 PyProof.Rows
section
variable {P:Program} {w:World} {K:PySem.W.Frag} {mg:Str→Option Value} {base:Heap} {t:Adr}
theorem zjG {H:Hp} {Q:VK} {a b:Addr} {rw:List (Option Int)} (ha:SqL K H a (rw.map enc)) (hb:SqL K H b (rw.map enc)) (q:Q (.bl false) H):zlZ K true (.ref a) (.ref b) H Q:=by
 refine⟨a,b,_,_,rfl,rfl,.inl ⟨ha,hb⟩,.inr ⟨rfl,fun _=>true,fun j x y e1 e2=>?_,?_⟩⟩
 ·rw [e1] at e2
  cases e2
  obtain⟨o,rfl,_⟩:=ze4 e1
  have h:EqD K H 8 (enc o) (enc o) (eqV (enc o) (enc o)):=EqD.flat (by cases o <;> rfl) (by cases o <;> rfl)
  have e:eqV (enc o) (enc o)=true:=by cases o <;> simp [enc,eqV]
  rw [e] at h
  exact h
 ·have:(List.range (rw.map enc).length).all (fun _=>true)=true:=by simp
  rw [this]
  exact q
theorem zjH {k s:Nat} {g:Tm→Int} {r:List Int} (h:r∈zaC k s g):∃ j,j < s / (k - 1)+1∧r=(List.range (s - (k - 1)*j+1)).map fun i=>g (i,j):=by
 unfold zaC at h
 obtain⟨j,hj,rfl⟩:=List.mem_map.mp h
 exact⟨j,List.mem_range.mp hj,rfl⟩
theorem zky {p:Int} {k s:Nat} {g:Tm→Int} (hg:∀ t,0≤g t∧g t < p):∀ r∈zaC k s g,1≤r.length∧r.length≤s+1∧∀ v∈r,0≤v∧v < p:=fun r hr=>by
 obtain⟨j,_,rfl⟩:=zjH hr
 rw [List.length_map,List.length_range]
 refine⟨by omega,by omega,fun v hv=>?_⟩
 obtain⟨i,_,rfl⟩:=List.mem_map.mp hv
 exact hg _
theorem zc2 {k s j:Nat} {g:Tm→Int} (h:j < s / (k - 1)+1):(zaC k s g).getD j []=(List.range (s - (k - 1)*j+1)).map fun i=>g (i,j):=by
 rw [List.getD_eq_getElem?_getD,zdT h]
 rfl
theorem zig {k s:Nat} {g:Tm→Int}:(zaC k s g).flatten.length=(gps k s).length:=by
 unfold zaC gps
 rw [List.length_flatten,List.map_map,List.length_flatMap]
 congr 1
 exact List.map_congr_left fun j _=>by simp
theorem zkP {k s:Nat} (hk:2≤k) {t:Tm} (h:tz k t≤s):t.2 < s / (k - 1)+1∧t.1 < s - (k - 1)*t.2+1:=by
 unfold tz at h
 have k1:0 < k - 1:=by omega
 have:t.2≤s / (k - 1):=(Nat.le_div_iff_mul_le k1).mpr (by rw [Nat.mul_comm]; omega)
 exact⟨by omega,by omega⟩
theorem zkz {p:Int} {k s:Nat} (hk:2≤k) {pts:List (Int×Int×Nat)} {g:Tm→Int} (L:Lst p k pts s g):∃ r∈zaC k s g,∃ v∈r,v≠0:=by
 obtain⟨t,ht,hne⟩:=L.top
 obtain⟨h1,h2⟩:=zkP hk (show tz k t≤s by omega)
 exact⟨_,List.mem_of_getElem? (zdT h1),g t,List.mem_map.mpr ⟨t.1,List.mem_range.mpr h2,rfl⟩,hne⟩
theorem zjI {k s:Nat} (hk:2≤k) {g:Tm→Int} {q:Int×Int} (h:q∈zcy (zaC k s g) (zaC k s g).length):∃ t:Tm,q=tI t∧tz k t≤s∧g t≠0:=by
 unfold zcy at h
 obtain⟨j,hj,h⟩:=List.mem_flatMap.mp h
 have hj:=List.mem_range.mp hj
 rw [zbq] at hj
 rw [zc2 hj,List.length_map,List.length_range] at h
 unfold trm at h
 (obtain⟨i,hi,rfl⟩:=List.mem_map.mp h)
 obtain⟨hi,hne⟩:=List.mem_filter.mp hi
 have hi:=List.mem_range.mp hi
 rw [zgJ hi] at hne
 have k1:0 < k - 1:=by omega
 have hjs:(k - 1)*j≤s:=by
  have:=(Nat.le_div_iff_mul_le k1).mp (show j≤s / (k - 1) by omega)
  rw [Nat.mul_comm]; exact this
 exact⟨(i,j),rfl,by show i+(k - 1)*j≤s; omega,by simpa using hne⟩
theorem zhq {k s:Nat} (hk:2≤k) {g:Tm→Int} {t:Tm} (h:tz k t≤s) (hne:g t≠0):tI t∈zcy (zaC k s g) (zaC k s g).length:=by
 obtain⟨h1,h2⟩:=zkP hk h
 unfold zcy
 refine List.mem_flatMap.mpr ⟨t.2,List.mem_range.mpr (by rw [zbq]; exact h1),?_⟩
 rw [zc2 h1,List.length_map,List.length_range]
 unfold trm
 refine List.mem_map.mpr ⟨t.1,List.mem_filter.mpr ⟨List.mem_range.mpr h2,?_⟩,rfl⟩
 rw [zgJ h2]
 simpa using hne
theorem zih {p:Int} {k s:Nat} (hk:2≤k) {pts:List (Int×Int×Nat)} {g:Tm→Int} (L:Lst p k pts s g) {M:Int} (h1:M∈szs (k:Int) (zcy (zaC k s g) (zaC k s g).length)) (h2:∀ x∈szs (k:Int) (zcy (zaC k s g) (zaC k s g).length),x≤M):M=(s:Int):=by
 obtain⟨t,ht,hne⟩:=L.top
 have a1:=h2 _ (List.mem_map.mpr ⟨tI t,zhq hk (show tz k t≤s by omega) hne,rfl⟩)
 obtain⟨q,hq,rfl⟩:=List.mem_map.mp h1
 obtain⟨u,rfl,hu,_⟩:=zjI hk hq
 have e1:((tI t).1+((k:Int) - 1)*(tI t).2)=(tz k t:Int):=zfk hk t
 have e2:((tI u).1+((k:Int) - 1)*(tI u).2)=(tz k u:Int):=zfk hk u
 show (tI u).1+((k:Int) - 1)*(tI u).2=_
 rw [e2] at a1 ⊢
 rw [e1] at a1
 omega
theorem zii {k s:Nat} {g:Tm→Int} {x y:Int} {u v:Nat}:zib (zaC k s g) x y u v=lsum (gps k s) fun t=>g t*cv t ⟨x,y,u,v⟩:=by
 rw [zlA]
 unfold zib
 rw [zbq]
 refine zar fun j hj=>?_
 rw [zc2 hj,List.length_map,List.length_range]
 exact zar fun i hi=>by rw [zgJ hi]
theorem zij {p:Int} {k s m:Nat} (hk:2≤k) {hp:List (Int×Int)} {g:Tm→Int} (L:Lst p k (wpt m hp) s g) {q:Int×Int} (hq:q∈hp):∀ u v,u+v < m→Cg p (zib (zaC k s g) q.1 q.2 u v) 0:=fun u v h=>by
 rw [zii,zhg hk]
 exact L.ok _ (zkr (x:=q.1) (y:=q.2) (w:=m) (List.mem_map.mpr ⟨q,hq,rfl⟩) (by omega) (by omega))
theorem zkA (n m:Nat):n*m*(m+1) / 2=n*tri m:=by
 unfold tri
 have h:2 ∣ m*(m+1):=by
  rcases Nat.mod_two_eq_zero_or_one m with e | e
  ·exact Nat.dvd_mul_right_of_dvd (Nat.dvd_of_mod_eq_zero e) _
  ·exact Nat.dvd_mul_left_of_dvd (Nat.dvd_of_mod_eq_zero (by omega)) _
 rw [Nat.mul_assoc,Nat.mul_div_assoc _ h]
theorem zkB (b:Bool):∃ mo:Nat,atI [V.int 60,V.int 160] (if b=true then 1 else 0)=some (.int (mo:Int))∧mo≤160:=by
 cases b
 ·exact⟨60,rfl,by decide⟩
 ·exact⟨160,rfl,by decide⟩
theorem zeI (n m:Nat):(n:Int)*(m:Int)*((m:Int)+1) / 2=((n*tri m:Nat):Int):=by
 rw [← zkA,show ((n:Int)*(m:Int)*((m:Int)+1))=((n*m*(m+1):Nat):Int) by rw [Int.natCast_mul,Int.natCast_mul]; rfl]
 exact (Int.natCast_ediv _ 2).symm
def gdL:List Nat:=[1,2,3,4]
theorem zhr:∀ m∈gdL,1≤m∧m≤4:=by decide
theorem zjJ {l:List Nat} {d:Int} (hl:l≠[]) (hd:0≤d):∃ m,m∈l∧atI (l.map fun m:Nat=>V.int (m:Int)) (d % (l.length:Int))=some (.int (m:Int)):=by
 have hp:0 < l.length:=List.length_pos_iff.mpr hl
 have h0:=Int.emod_nonneg d (show (l.length:Int)≠0 by omega)
 have h1:=Int.emod_lt_of_pos d (show 0 < (l.length:Int) by omega)
 obtain⟨n,hn⟩:∃ n:Nat,d % (l.length:Int)=n:=⟨(d % (l.length:Int)).toNat,by omega⟩
 have hnl:n < l.length:=by omega
 rw [hn]
 exact⟨l[n]'hnl,List.getElem_mem hnl,zL (by rw [List.getElem?_map,List.getElem?_eq_getElem hnl]; rfl)⟩
theorem zaI:FnScope ["script","code","row","p","k","places","points","plan","most","good","m","handed","found","size","curve","point"] ["script"] (zh zbM):=⟨rfl,rfl,rfl,by decide +kernel,rfl,by decide +kernel,by decide +kernel⟩
theorem zlF {fd:FuncData} (T:Txt K mg t) (F:Fun K "law" "law" zbM t.law fd):FnOk P w K mg base CX0 9 t.law fd ["script"] (ze2 K):=by
 obtain⟨fd_l_code,F_l_code,b_l_code⟩:=T.f_l_code
 have G_l_code:=zh4 (P:=P) (w:=w) (base:=base) T F_l_code
 obtain⟨fd_l_row,F_l_row,b_l_row⟩:=T.f_l_row
 have G_l_row:=zjv (P:=P) (w:=w) (base:=base) T F_l_row
 obtain⟨fd_l_told,F_l_told,b_l_told⟩:=T.f_l_told
 have G_l_told:=zif (P:=P) (w:=w) (base:=base) T F_l_told
 obtain⟨fd_l_draws,F_l_draws,b_l_draws⟩:=T.f_l_draws
 have G_l_draws:=zcz (P:=P) (w:=w) (base:=base) T F_l_draws
 obtain⟨fd_l_is_curve,F_l_is_curve,b_l_is_curve⟩:=T.f_l_is_curve
 have G_l_is_curve:=zeh (P:=P) (w:=w) (base:=base) T F_l_is_curve
 obtain⟨fd_l_size,F_l_size,b_l_size⟩:=T.f_l_size
 have G_l_size:=zh8 (P:=P) (w:=w) (base:=base) T F_l_size
 obtain⟨fd_l_whole,F_l_whole,b_l_whole⟩:=T.f_l_whole
 have G_l_whole:=zdU (P:=P) (w:=w) (base:=base) T F_l_whole
 obtain⟨fd_l_passes,F_l_passes,b_l_passes⟩:=T.f_l_passes
 have G_l_passes:=zf6 (P:=P) (w:=w) (base:=base) T F_l_passes
 obtain⟨fd_l_has_curve,F_l_has_curve,b_l_has_curve⟩:=T.f_l_has_curve
 have G_l_has_curve:=zd4 (P:=P) (w:=w) (base:=base) T F_l_has_curve
 refine F.ok zaI (fun vs H Q E h=>?_) (fun cdv A outer s H vs Q E hr h=>?_)
 ·obtain⟨a,ns,rfl,_⟩:=h
  rfl
 ·obtain⟨a,ns,rfl,hS,hlen,q⟩:=h
  have hu:(A.deeper (envOfC (Str.ofString "law") (zh zbM) s.heap.objs.size t.law cdv)).units+20 < cLine:=by have:=hr.units; omega
  refine⟨_,(@zd _ _ _ _ _ (@zm _ _ (1) _ _ _ _ zaI.nd rfl (Or.inl rfl) (@zt _ _ _ _ _ _ _ _ _ _ _ _ _ _ _ _ G_l_code (hr.mono (by decide)) rfl T.m_l_code F_l_code.kp b_l_code .nil (@zW _) (@za _ _ _ _ _ (@pvx _ 0 _ _ rfl) (by exact (@za _ _ _ _ _ (@zf _ _ _ _) (@za _ _ _ _ _ (@zf _ _ _ _) (@za _ _ _ _ _ (@zf _ _ _ _) (@ze _) (by rfl)) (by rfl)) (by rfl))) (by rfl)) (by decide) (by rfl) (by rfl)) (by rfl) (by trivial)) (by exact (@zd _ _ _ _ _ (@zm _ _ (2) _ _ _ _ zaI.nd rfl (Or.inl rfl) (@zt _ _ _ _ _ _ _ _ _ _ _ _ _ _ _ _ G_l_row (hr.mono (by decide)) rfl T.m_l_row F_l_row.kp b_l_row .nil (@zW _) (@za _ _ _ _ _ (@pvx _ 0 _ _ rfl) (@za _ _ _ _ _ (@zf _ _ _ _) (@za _ _ _ _ _ (@pvx _ 1 _ _ rfl) (@ze _) (by rfl)) (by rfl)) (by rfl)) (by decide) (by rfl) (by rfl)) (by rfl) (by trivial)) (by exact (@zd _ _ _ _ _ (@zaG _ _ _ _ _ _ _ _ (@zz _ _ _ _ _ _ _ _ (@zc4 _) (@zu _ _ _ _ _ _ _ (@zbZ _) (@pvx _ 1 _ _ rfl) (@zf _ _ _ _) (fun _ _=>rfl)) (@zf _ _ _ _) (zF _)) (@zj _ _ _ (@zB _ _ _ _ (@zcC _ _ _ _ _ _ _ _ (@zc4 _) (@zt _ _ _ _ _ _ _ _ _ _ _ _ _ _ _ _ G_l_told (hr.mono (by decide)) rfl T.m_l_told F_l_told.kp b_l_told .nil (@zW _) (@za _ _ _ _ _ (@pvx _ 1 _ _ rfl) (@za _ _ _ _ _ (@pvx _ 2 _ _ rfl) (@za _ _ _ _ _ (@zf _ _ _ _) (@ze _) (by rfl)) (by rfl)) (by rfl)) (by decide) (by rfl) (by rfl)) (@zeL _ _ _ _) (zF _)))) (@zY _)) (by exact (@zd _ _ _ _ _ (@zbo _ _ _ _ _ _ (@pvx _ 1 _ _ rfl) (@za0 _ _ _ _ _ _ rfl (@zk _ _ _ _ _ (@zi _ _ (3) _ zaI.nd rfl (Or.inl rfl) (by trivial)) (@zk _ _ _ _ _ (@zi _ _ (4) _ zaI.nd rfl (Or.inl rfl) (by trivial)) (@zk _ _ _ _ _ (@zi _ _ (5) _ zaI.nd rfl (Or.inr rfl) (by trivial)) (@zK _) (by rfl)) (by rfl)) (by rfl)) (by rfl) (by rfl)) (by rfl) (by rfl) (by rfl)) (by exact (@zd _ _ _ _ _ (@zm _ _ (6) _ _ _ _ zaI.nd rfl (Or.inr rfl) (@zG _ _ _ _ _ _ _ _ _ _ _ _ _ (CompSc.of (N':=["number","entry","places"]) (ix:=[none,none,some 5]) (zh zbM) ["script","code","row","p","k","places","points","plan","most","good","m","handed","found","size","curve","point"] rfl rfl (by decide +kernel)) rfl (@zaH _ _ _ _ (@zr _ _ _ rfl (@zr _ _ _ rfl (@zaj _)))) (@zfx _ _ _ _ _ _ _ _ rfl T.enumerate_ (@za _ _ _ _ _ (@pvx _ 2 _ _ rfl) (@ze _) (by rfl)) (by rfl)) (fun _ _ _ _=>(@zak _ (K) _ _ _ (2) _ rfl rfl (@zk _ _ _ _ _ (@zi _ _ (0) _ (show (["number","entry","places"]:List Str).Nodup by decide +kernel) rfl (Or.inl rfl) (by trivial)) (@zk _ _ _ _ _ (@zi _ _ (1) _ (show (["number","entry","places"]:List Str).Nodup by decide +kernel) rfl (Or.inl rfl) (by trivial)) (@zK _) (by rfl)) (by rfl)) (by rfl) (by rfl))) (fun _ _ _ _=>(@zbG _ _ _ (@zz _ _ _ _ _ _ _ _ (@zg1 _) (@pvx _ 1 _ _ rfl) (@zcU _ _ _) (zF _)))) (fun _ _ _ _=>(@zbg _ _ _ _ _ (@za _ _ _ _ _ (@zu _ _ _ _ _ _ _ (@zjX _ (K) rfl) (@pvx _ 2 _ _ rfl) (@pvx _ 0 _ _ rfl) (fun _ _=>rfl)) (@za _ _ _ _ _ (@pvx _ 1 _ _ rfl) (@ze _) (by rfl)) (by rfl)))) (by intro _; rfl)) (by rfl) (by trivial)) (by exact (@zd _ _ _ _ _ (@zm _ _ (7) _ _ _ _ zaI.nd rfl (Or.inl rfl) (@zt _ _ _ _ _ _ _ _ _ _ _ _ _ _ _ _ G_l_draws (hr.mono (by decide)) rfl T.m_l_draws F_l_draws.kp b_l_draws .nil (@zW _) (@za _ _ _ _ _ (@pvx _ 0 _ _ rfl) (by exact (@za _ _ _ _ _ (@zf _ _ _ _) (@za _ _ _ _ _ (@zf _ _ _ _) (@za _ _ _ _ _ (@zf _ _ _ _) (@ze _) (by rfl)) (by rfl)) (by rfl))) (by rfl)) (by decide) (by rfl) (by rfl)) (by rfl) (by trivial)) (by exact (@zd _ _ _ _ _ (@zm _ _ (8) _ _ _ _ zaI.nd rfl (Or.inr rfl) (@zu _ _ _ _ _ _ _ (@zq _) (@zN _ _ _ _ (@za _ _ _ _ _ (@zf _ _ _ _) (@za _ _ _ _ _ (@zf _ _ _ _) (@ze _) (by rfl)) (by rfl))) (@zaP _ _ _ _ _ _ _ _ _ (@zhw _) (by rfl) T.int_ boot_int (@za _ _ _ _ _ (@zcC _ _ _ _ _ _ _ _ (@zc4 _) (@zg _ _ _ _ _ _ _ _ (@zC _) (@zu _ _ _ _ _ _ _ (@zq _) (@pvx _ 7 _ _ rfl) (@zf _ _ _ _) (fun _ _=>rfl)) (@zf _ _ _ _)) (@zf _ _ _ _) (zF _)) (@ze _) (by rfl)) (by decide) (by decide) (by rfl) (by rfl)) (fun _ _=>rfl)) (by rfl) (by trivial)) (by exact (@zd _ _ _ _ _ (@zaL _ _ _ _ _ _ _ _ _ _ _ _ _ (9) _ _ _ zaI.nd rfl (Or.inl rfl) (CompSc.of (N':=["m","points","most"]) (ix:=[none,some 6,some 8]) (zh zbM) ["script","code","row","p","k","places","points","plan","most","good","m","handed","found","size","curve","point"] rfl rfl (by decide +kernel)) rfl (@z0 _ _ rfl) (@z8 _ _ _ _ (@zN _ _ _ _ (@zb3 _ _ _ _ _ _ (by exact (@za _ _ _ _ _ (@zf _ _ _ _) (@za _ _ _ _ _ (@zf _ _ _ _) (@za _ _ _ _ _ (@zf _ _ _ _) (@ze _) (by rfl)) (by rfl)) (by rfl)))))) (fun _ _ _ _=>(@zi _ _ (0) _ (show (["m","points","most"]:List Str).Nodup by decide +kernel) rfl (Or.inl rfl) (by trivial))) (fun _ _ _ _=>(@zbG _ _ _ (@zz _ _ _ _ _ _ _ _ (@zkD _) (@zg _ _ _ _ _ _ _ _ (@zaA _) (@zg _ _ _ _ _ _ _ _ (@zD _) (@zg _ _ _ _ _ _ _ _ (@zD _) (@zn _ _ _ _ _ _ _ _ _ (@zbA _ (K) rfl) (by rfl) T.len_ boot_len (@za _ _ _ _ _ (@pvx _ 1 _ _ rfl) (@ze _) (by rfl)) (by decide) (by decide) (by rfl) (by rfl)) (@pvx _ 0 _ _ rfl)) (@zg _ _ _ _ _ _ _ _ (@zJ _) (@pvx _ 0 _ _ rfl) (@zf _ _ _ _))) (@zf _ _ _ _)) (@pvx _ 2 _ _ rfl) (zF _)))) (fun _ _ _ _=>(@pvx _ 0 _ _ rfl)) (by rfl) (by intro _; rfl) (by trivial)) (by exact (@zd _ _ _ _ _ (@zai _ _ _ _ _ _ _ _ PassesOwn.never rfl (@z8 _ _ _ _ (@zcB _ _ _ _ _ _ _ _ (@zz _ _ _ _ _ _ _ _ (@zeY _ hu) (@pvx _ 9 _ _ rfl) (@zN _ _ _ _ (@ze _)) (zF _)) (@zbp _ _ _ _ _ _ _ _ _ _ zbQ (@zN _ _ _ _ (@za _ _ _ _ _ (@zu _ _ _ _ _ _ _ (@zq _) (@pvx _ 9 _ _ rfl) (@zg _ _ _ _ _ _ _ _ (@zC _) (@zu _ _ _ _ _ _ _ (@zq _) (@pvx _ 7 _ _ rfl) (@zf _ _ _ _) (fun _ _=>rfl)) (@zn _ _ _ _ _ _ _ _ _ (@zx _) (by rfl) T.len_ boot_len (@za _ _ _ _ _ (@pvx _ 9 _ _ rfl) (@ze _) (by rfl)) (by decide) (by decide) (by rfl) (by rfl))) (fun _ _=>rfl)) (@za _ _ _ _ _ (@zu _ _ _ _ _ _ _ (@zq _) (@pvx _ 9 _ _ rfl) (@zg _ _ _ _ _ _ _ _ (@zC _) (@zu _ _ _ _ _ _ _ (@zq _) (@pvx _ 7 _ _ rfl) (@zf _ _ _ _) (fun _ _=>rfl)) (@zn _ _ _ _ _ _ _ _ _ (@zx _) (by rfl) T.len_ boot_len (@za _ _ _ _ _ (@pvx _ 9 _ _ rfl) (@ze _) (by rfl)) (by decide) (by decide) (by rfl) (by rfl))) (fun _ _=>rfl)) (@ze _) (by rfl)) (by rfl))) (@zcb _) (@zbt _ _ _ (@zf _ _ _ _))) (@zN _ _ _ _ (@ze _)))) (@zi _ _ (10) _ zaI.nd rfl (Or.inr rfl) (by trivial)) (@zd _ _ _ _ _ (@zm _ _ (11) _ _ _ _ zaI.nd rfl (Or.inl rfl) (@zaP _ _ _ _ _ _ _ _ _ (@zeT _) (by rfl) T.list_ boot_list (@za _ _ _ _ _ (@pvx _ 2 _ _ rfl) (@ze _) (by rfl)) (by decide) (by decide) (by rfl) (by rfl)) (by rfl) (by trivial)) (by exact (@zd _ _ _ _ _ (@zm _ _ (12) _ _ _ _ zaI.nd rfl (Or.inl rfl) (@zt _ _ _ _ _ _ _ _ _ _ _ _ _ _ _ _ G_l_told (hr.mono (by decide)) rfl T.m_l_told F_l_told.kp b_l_told .nil (@zW _) (@za _ _ _ _ _ (@pvx _ 1 _ _ rfl) (@za _ _ _ _ _ (@pvx _ 11 _ _ rfl) (@za _ _ _ _ _ (@pvx _ 10 _ _ rfl) (@ze _) (by rfl)) (by rfl)) (by rfl)) (by decide) (by rfl) (by rfl)) (by rfl) (by trivial)) (by exact (@zd _ _ _ _ _ (@zaG _ _ _ _ _ _ _ _ (@PW.pt _ _ _ (@zek _ _ _ _ _ _ _ (@zcs _ _ _ _ (@zcr _ _ _ (@zn _ _ _ _ _ _ _ _ _ (@zbc _) (by rfl) T.isinstance_ boot_isinstance (@za _ _ _ _ _ (@pvx _ 12 _ _ rfl) (@za _ _ _ _ _ (@zca _ _ (.ty "tuple") _ _ rfl T.tuple_ boot_tuple rfl (by decide) (by decide)) (@ze _) (by rfl)) (by rfl)) (by decide) (by decide) (by rfl) (by rfl)) (by intro _; rfl))) (@zek _ _ _ _ _ _ _ (@zz _ _ _ _ _ _ _ _ (@zc5 _) (@zn _ _ _ _ _ _ _ _ _ (@zx _) (by rfl) T.len_ boot_len (@za _ _ _ _ _ (@pvx _ 12 _ _ rfl) (@ze _) (by rfl)) (by decide) (by decide) (by rfl) (by rfl)) (@zf _ _ _ _) (zF _)) (@zek _ _ _ _ _ _ _ (@zz _ _ _ _ _ _ _ _ (@zeY _ hu) (@pvx _ 11 _ _ rfl) (@pvx _ 2 _ _ rfl) (zF _)) (@zeM _ _ _ _ (@zcs _ _ _ _ (@zcr _ _ _ (@zt _ _ _ _ _ _ _ _ _ _ _ _ _ _ _ _ G_l_is_curve (hr.mono (by decide)) rfl T.m_l_is_curve F_l_is_curve.kp b_l_is_curve .nil (@zW _) (@za _ _ _ _ _ (@pvx _ 3 _ _ rfl) (@za _ _ _ _ _ (@zu _ _ _ _ _ _ _ (@zbZ _) (@pvx _ 12 _ _ rfl) (@zf _ _ _ _) (fun _ _=>rfl)) (@ze _) (by rfl)) (by rfl)) (by decide) (by rfl) (by rfl)) (by intro _; rfl)))))))) (@zj _ _ _ (@zB _ _ _ _ (@zbs _ _ _ _))) (@zY _)) (by exact (@zd _ _ _ _ _ (@zbo _ _ _ _ _ _ (@pvx _ 12 _ _ rfl) (@za0 _ _ _ _ _ _ rfl (@zk _ _ _ _ _ (@zi _ _ (13) _ zaI.nd rfl (Or.inl rfl) (by trivial)) (@zk _ _ _ _ _ (@zi _ _ (14) _ zaI.nd rfl (Or.inl rfl) (by trivial)) (@zK _) (by rfl)) (by rfl)) (by rfl) (by rfl)) (by rfl) (by rfl) (by rfl)) (by exact (@zd _ _ _ _ _ (@zaG _ _ _ _ _ _ _ _ (@PW.pt _ _ _ (@zek _ _ _ _ _ _ _ (@zcs _ _ _ _ (@zcr _ _ _ (@zt _ _ _ _ _ _ _ _ _ _ _ _ _ _ _ _ G_l_whole (hr.mono (by decide)) rfl T.m_l_whole F_l_whole.kp b_l_whole .nil (@zW _) (@za _ _ _ _ _ (@pvx _ 13 _ _ rfl) (@ze _) (by rfl)) (by decide) (by rfl) (by rfl)) (by intro _; rfl))) (@zeM _ _ _ _ (@zz _ _ _ _ _ _ _ _ (@zc5 _) (@pvx _ 13 _ _ rfl) (@zt _ _ _ _ _ _ _ _ _ _ _ _ _ _ _ _ G_l_size (hr.mono (by decide)) rfl T.m_l_size F_l_size.kp b_l_size .nil (@zW _) (@za _ _ _ _ _ (@pvx _ 4 _ _ rfl) (@za _ _ _ _ _ (@pvx _ 14 _ _ rfl) (@ze _) (by rfl)) (by rfl)) (by decide) (by rfl) (by rfl)) (zF _))))) (@zj _ _ _ (@zB _ _ _ _ (@zbs _ _ _ _))) (@zY _)) (by exact (@zd _ _ _ _ _ (@zai _ _ _ _ _ _ _ _ PassesOwn.never rfl (@z8 _ _ _ _ (@pvx _ 6 _ _ rfl)) (@zi _ _ (15) _ zaI.nd rfl (Or.inl rfl) (by trivial)) (@zj _ _ _ (@zaG _ _ _ _ _ _ _ _ (@zcs _ _ _ _ (@zcr _ _ _ (@zt _ _ _ _ _ _ _ _ _ _ _ _ _ _ _ _ G_l_passes (hr.mono (by decide)) rfl T.m_l_passes F_l_passes.kp b_l_passes .nil (@zW _) (@za _ _ _ _ _ (@pvx _ 3 _ _ rfl) (by exact (@za _ _ _ _ _ (@pvx _ 14 _ _ rfl) (@za _ _ _ _ _ (@pvx _ 15 _ _ rfl) (@za _ _ _ _ _ (@pvx _ 10 _ _ rfl) (@ze _) (by rfl)) (by rfl)) (by rfl))) (by rfl)) (by decide) (by rfl) (by rfl)) (by intro _; rfl))) (@zj _ _ _ (@zB _ _ _ _ (@zbs _ _ _ _))) (@zY _))) (by intro _; rfl)) (by exact (@zj _ _ _ (@zaG _ _ _ _ _ _ _ _ (@zcr _ _ _ (@zt _ _ _ _ _ _ _ _ _ _ _ _ _ _ _ _ G_l_has_curve (hr.mono (by decide)) rfl T.m_l_has_curve F_l_has_curve.kp b_l_has_curve .nil (@zW _) (@za _ _ _ _ _ (@pvx _ 3 _ _ rfl) (by exact (@za _ _ _ _ _ (@pvx _ 4 _ _ rfl) (@za _ _ _ _ _ (@zG _ _ _ _ _ _ _ _ _ _ _ _ _ (CompSc.of (N':=["x","y","m"]) (ix:=[none,none,some 10]) (zh zbM) ["script","code","row","p","k","places","points","plan","most","good","m","handed","found","size","curve","point"] rfl rfl (by decide +kernel)) rfl (@zaH _ _ _ _ (@zr _ _ _ rfl (@zr _ _ _ rfl (@zaj _)))) (@z8 _ _ _ _ (@pvx _ 6 _ _ rfl)) (fun _ _ _ _=>(@zak _ (K) _ _ _ (2) _ rfl rfl (@zk _ _ _ _ _ (@zi _ _ (0) _ (show (["x","y","m"]:List Str).Nodup by decide +kernel) rfl (Or.inl rfl) (by trivial)) (@zk _ _ _ _ _ (@zi _ _ (1) _ (show (["x","y","m"]:List Str).Nodup by decide +kernel) rfl (Or.inl rfl) (by trivial)) (@zK _) (by rfl)) (by rfl)) (by rfl) (by rfl))) (fun _ _ _ _=>(@zw _)) (fun _ _ _ _=>(@zbg _ _ _ _ _ (@za _ _ _ _ _ (@pvx _ 0 _ _ rfl) (@za _ _ _ _ _ (@pvx _ 1 _ _ rfl) (@za _ _ _ _ _ (@pvx _ 2 _ _ rfl) (@ze _) (by rfl)) (by rfl)) (by rfl)))) (by intro _; rfl)) (@za _ _ _ _ _ (@zg _ _ _ _ _ _ _ _ (@zV _) (@pvx _ 13 _ _ rfl) (@zf _ _ _ _)) (@ze _) (by rfl)) (by rfl)) (by rfl))) (by rfl)) (by decide) (by rfl) (by rfl)) (by intro _; rfl)) (@zj _ _ _ (@zB _ _ _ _ (@zbs _ _ _ _))) (@zY _))))))))))))))) (by intro _; rfl)) (by exact (@zj _ _ _ (@zB _ _ _ _ (@zbs _ _ _ _))))))))))))))))))))),?_⟩
  have hsl:=sizeLine_eq
  refine⟨_,rfl,a,ns,0,5,16,rfl,hS,hlen,by decide,by decide,by decide,by decide,by decide,by decide,fun c tt p kI pl H1 hc1 s1 co h1c h1t=>?_⟩
  have rp:=zU co.pr
  have k1:=co.k1
  have kk:=co.kk
  have kn:=co.kl
  have ln:=co.ln
  have p0:0 < p:=by omega
  obtain⟨k,rfl⟩:∃ k:Nat,kI=k:=⟨kI.toNat,by omega⟩
  have hcA:zb4 H1 c tt p k pl:=⟨h1c,h1t⟩
  refine⟨_,rfl,_,rfl,a,c,tt,ns,1,p,k,pl,rfl,s1.seq hS,hlen,by decide,by decide,hcA,by omega,by omega,co.rg,by omega,fun r rw H2 hr2 s2 hrl hrw h2r=>?_⟩
  have hcB:=hcA.same s2
  have s12:=s1.trans s2
  refine⟨_,rfl,c,_,_,_,rfl,rfl,SqT.of hcB.1,rfl,rfl,_,rfl,?_⟩
  refine zap (fun hk1=>?_) (fun hk1=>?_)
  ·have hk1:(k:Int)=1:=by simpa [eqV] using hk1
   obtain rfl:k=1:=by omega
   refine⟨_,rfl,_,rfl,c,tt,r,p,1,1,pl,rw,rfl,hcB,h2r,hrl,by omega,co.pr,co.nd,co.rg,hrw,by decide,by decide,by decide,by decide,fun h=>by omega,fun v H3 s3 hT=>?_⟩
   rcases hT with ⟨_,rfl⟩ | ⟨h,_⟩
   ·exact⟨rfl,q _⟩
   ·omega
  have hk2:2≤k:=by
   have:(k:Int)≠1:=by simpa [eqV] using hk1
   omega
  refine⟨_,rfl,c,_,rfl,SqT.of hcB.1,rfl,_,_,rfl,_,_,rfl,_,_,rfl,rfl,?_⟩
  refine⟨_,rfl,r,_,rfl,SqL.of h2r,zM (n:=pl.length) (fun i ys H'=>zy H2 H'∧∃ us:List Addr,ys=us.map V.ref∧PtB H' us (hps (pl.take i) (rw.take i))) ⟨fun _ _ e=>e,[],rfl,.nil⟩ ?_ ?_ ?_ ?_⟩
  ·rintro i ys H3 hi ⟨s3,_⟩
   obtain⟨o,ho⟩:∃ o,rw[i]? = some o:=⟨rw[i]'(by omega),by simp⟩
   exact⟨_,enc o,SqL.of (s3 _ _ h2r),by rw [List.getElem?_map,ho]; rfl⟩
  ·rintro ys H3 ⟨s3,_⟩
   exact⟨_,SqL.of (s3 _ _ h2r),by rw [List.length_map]; omega⟩
  ·rintro i xx ys H3 H4 hi ⟨s3,us,rfl,hus⟩ ⟨T,v,hT,rfl,rfl,hv⟩
   obtain⟨o,rfl,ho⟩:=ze4 (hv _ (SqL.of (s3 _ _ h2r)))
   have hx:pl[i]? = some (pl[i]'hi):=List.getElem?_eq_getElem hi
   have v4:=zb (o:=.tup [.int (i:Int),enc o]) hT
   have s4:=s3.trans v4
   have hs:=zdQ hx ho
   have hul:=hus.length
   have hb:=zce (pl.take i) (rw.take i)
   rw [List.length_take] at hb
   refine⟨T,_,rfl,SqT.of zc,rfl,_,_,rfl,_,_,rfl,rfl,?_⟩
   refine⟨_,rfl,rfl,_,rfl,?_⟩
   cases o with
   | none =>
    refine zcu ⟨s4,us,rfl,?_⟩
    rw [hs,List.append_nil]
    exact hus.same v4
   | some z =>
    refine zhC ⟨_,rfl,_,rfl,tt,_,_,.int (pl[i]'hi),rfl,rfl,SqT.of (s4 _ _ hcB.2),zL (by rw [List.getElem?_map,hx]; rfl),_,rfl,by show 2≤sizeLine; omega,fun T2 hT2=>⟨by rw [List.length_map]; omega,s4.trans (zb hT2),us++[T2],by rw [List.map_append]; rfl,?_⟩⟩
    rw [hs]
    exact Paired.snoc (hus.same (v4.trans (zb hT2))) zc
  rintro ys H3 PL ⟨s3,us,rfl,hus⟩ hPL
  rw [List.take_length,List.take_of_length_le (by omega)] at hus
  have wP:=zb (o:=.lst (us.map V.ref)) hPL
  have hP:upd H3 PL (.lst (us.map V.ref)) PL=some (.lst (us.map V.ref)):=zc
  have hus:=hus.same wP
  have s4:=s3.trans wP
  generalize upd H3 PL (.lst (us.map V.ref))=H4 at wP hP hus s4 ⊢
  have hul:us.length=(hps pl rw).length:=hus.length
  have hhl:=zce pl rw
  have hPt:=zhd co.nd co.rg hrw
  refine⟨_,rfl,a,ns,3,3,27720,rfl,(s12.trans s4).seq hS,hlen,by decide,by decide,by decide,by decide,by decide,by decide,fun dl ds H5 hdl s5 ok h5=>?_⟩
  have dAt:∀ i:Int,0≤i→i < 3→∃ d,atI (ds.map V.int) i=some (.int d)∧0≤d∧d < 27720:=fun i h0 h1=>zmc ok h0 h1
  obtain⟨d0,hd0,r0⟩:=dAt 0 (by decide) (by decide)
  obtain⟨d1,hd1,r1⟩:=dAt 1 (by decide) (by decide)
  obtain⟨d2,hd2,r2⟩:=dAt 2 (by decide) (by decide)
  refine⟨by show 2≤sizeLine; omega,fun ML hML=>?_⟩
  have wM:=zb (o:=.lst [V.int 60,V.int 160]) hML
  have hM:upd H5 ML (.lst [V.int 60,V.int 160]) ML=some (.lst [V.int 60,V.int 160]):=zc
  generalize upd H5 ML (.lst [V.int 60,V.int 160])=H6 at wM hM ⊢
  have h6d:=wM _ _ h5
  refine⟨_,rfl,dl,_,_,_,rfl,rfl,SqL.of h6d,hd2,_,_,rfl,rfl,by omega,rfl,.inr ⟨_,rfl,?_⟩⟩
  refine (zkB _).elim fun mo hmo=>⟨ML,_,_,.int (mo:Int),rfl,rfl,SqL.of hM,hmo.1,?_⟩
  have hmo2:=hmo.2
  refine⟨by show 4≤sizeLine; omega,fun GL hGL=>?_⟩
  have wG:=zb (o:=.lst [V.int 1,V.int 2,V.int 3,V.int 4]) hGL
  have hG:upd H6 GL (.lst [V.int 1,V.int 2,V.int 3,V.int 4]) GL=some (.lst (gdL.map fun m:Nat=>V.int (m:Int))):=zc
  generalize upd H6 GL (.lst [V.int 1,V.int 2,V.int 3,V.int 4])=H7 at wG hG ⊢
  have s47:=s5.trans (wM.trans wG)
  have h7P:=s47 _ _ hP
  refine⟨GL,rfl,⟨_,SqL.of hG⟩,zM (n:=4) (fun i ys H'=>H'=H7∧ys=((gdL.take i).filter fun m=>decide ((hps pl rw).length*tri m≤mo)).map fun m:Nat=>V.int (m:Int)) ⟨rfl,rfl⟩ ?_ ?_ ?_ ?_⟩
  ·rintro i ys H' hi ⟨rfl,_⟩
   exact⟨_,V.int ((gdL[i]'hi:Nat):Int),SqL.of hG,by rw [List.getElem?_map,List.getElem?_eq_getElem (show i < gdL.length from hi)]; rfl⟩
  ·rintro ys H' ⟨rfl,_⟩
   exact⟨_,SqL.of hG,Nat.le_refl _⟩
  ·rintro i x ys H' H8 hi ⟨rfl,rfl⟩ ⟨rfl,hx⟩
   have hx:=hx _ (SqL.of hG)
   have hgi:gdL[i]? = some (gdL[i]'hi):=List.getElem?_eq_getElem hi
   rw [List.getElem?_map,hgi] at hx
   cases hx
   have hgr:=zhr (gdL[i]'hi) (List.getElem_mem hi)
   generalize gdL[i]'hi=m at hgi hgr
   have eF:(gdL.take (i+1)).filter (fun m=>decide ((hps pl rw).length*tri m≤mo))=(gdL.take i).filter (fun m=>decide ((hps pl rw).length*tri m≤mo))++[m].filter (fun m=>decide ((hps pl rw).length*tri m≤mo)):=by rw [take_snoc hgi,List.filter_append]
   refine⟨_,rfl,PL,_,rfl,.inl (SqL.of h7P),_,rfl,_,_,rfl,rfl,.inr ⟨by omega,by omega⟩,_,rfl,_,_,rfl,rfl,_,_,rfl,rfl,.inr ⟨by omega,by omega⟩,_,_,rfl,rfl,⟨by decide,by decide⟩,_,rfl,_,_,rfl,rfl,_,rfl,?_⟩
   have elu:(us.map V.ref).length=(hps pl rw).length:=by rw [List.length_map,hul]
   rw [elu,eF,List.map_append]
   have hll:((gdL.take i).filter fun m=>decide ((hps pl rw).length*tri m≤mo)).length≤4:=Nat.le_trans (List.length_filter_le _ _) (by rw [List.length_take]; exact Nat.min_le_right _ _)
   refine zap (fun hle=>?_) (fun hle=>?_)
   ·have hle:((hps pl rw).length:Int)*(m:Int)*((m:Int)+1) / 2≤(mo:Int):=of_decide_eq_true hle
    rw [zeI] at hle
    refine⟨_,rfl,by rw [List.length_map]; omega,rfl,?_⟩
    rw [List.filter_cons_of_pos (by simp; omega)]
    rfl
   ·have hle:¬ (((hps pl rw).length:Int)*(m:Int)*((m:Int)+1) / 2≤(mo:Int)):=fun h=>hle (decide_eq_true h)
    rw [zeI] at hle
    refine⟨rfl,?_⟩
    rw [List.filter_cons_of_neg (by simp; omega)]
    simp
  rintro ys H' GD ⟨rfl,rfl⟩ hGD
  rw [show gdL.take 4=gdL from rfl]
  have hgs:∀ m∈gdL.filter (fun m=>decide ((hps pl rw).length*tri m≤mo)),1≤m∧m≤4∧(hps pl rw).length*tri m≤mo:=fun m hm=>by
   obtain⟨h1,h2⟩:=List.mem_filter.mp hm
   obtain⟨h3,h4⟩:=zhr m h1
   exact⟨h3,h4,of_decide_eq_true h2⟩
  generalize gdL.filter (fun m=>decide ((hps pl rw).length*tri m≤mo))=gs at hgs ⊢
  have wD:=zb (o:=.lst (gs.map fun m:Nat=>V.int (m:Int))) hGD
  have hD:upd H' GD (.lst (gs.map fun m:Nat=>V.int (m:Int))) GD=some (.lst (gs.map fun m:Nat=>V.int (m:Int))):=zc
  have s48:=s47.trans wD
  generalize upd H' GD (.lst (gs.map fun m:Nat=>V.int (m:Int)))=H8 at wD hD s48 ⊢
  have h8d:=(wG.trans wD) _ _ h6d
  refine⟨_,rfl,Nat.zero_le _,fun E0 hE0=>?_⟩
  have wE:=zb (o:=.lst []) hE0
  refine⟨GD,E0,_,_,rfl,rfl,.inl ⟨SqL.of (wE _ _ hD),SqL.of zc⟩,?_⟩
  by_cases hgn:gs = []
  ·subst hgn
   refine .inr ⟨rfl,fun _=>true,fun j x y e _=>by simp at e,_,rfl,zcu ?_⟩
   refine⟨Nat.zero_le _,fun Z hZ=>⟨Z,rfl,⟨_,SqL.of zc⟩,zba (K:=K) (a:=Z) (xs:=[]) (fun i σ H'=>H'=upd (upd H8 E0 (.lst [])) Z (.lst [])) rfl (fun i σ H' _ e=>by rw [e]; exact SqL.of zc) (fun i x σ H' e _=>by simp at e) fun σ H' _=>q _⟩⟩
  ·refine .inl ⟨by simpa using hgn,fun j x y _ e=>by simp at e,_,rfl,zhC ?_⟩
   have h9D:=wE _ _ hD
   have h9d:=wE _ _ h8d
   have s49:=s48.trans wE
   generalize upd H8 E0 (.lst [])=H9 at wE h9D h9d s49 ⊢
   obtain⟨m0,hm0,at0⟩:=zjJ (d:=d0) hgn r0.1
   obtain⟨m1,hm1,at1⟩:=zjJ (d:=d1) hgn r1.1
   have glp:0 < gs.length:=List.length_pos_iff.mpr hgn
   refine⟨_,rfl,_,rfl,dl,_,_,_,rfl,rfl,SqL.of h9d,hd0,_,rfl,GD,_,rfl,.inl (SqL.of h9D),?_⟩
   rw [List.length_map]
   refine⟨_,_,rfl,rfl,by omega,GD,_,_,_,rfl,rfl,SqL.of h9D,at0,?_⟩
   refine⟨_,rfl,_,rfl,dl,_,_,_,rfl,rfl,SqL.of h9d,hd1,_,rfl,GD,_,rfl,.inl (SqL.of h9D),?_⟩
   rw [List.length_map]
   refine⟨_,_,rfl,rfl,by omega,GD,_,_,_,rfl,rfl,SqL.of h9D,at1,by show 2≤sizeLine; omega,fun Y hY=>?_⟩
   have wY:=zb (o:=.lst [V.int (m0:Int),V.int (m1:Int)]) hY
   refine⟨_,rfl,Y,_,rfl,SqL.of zc,fun Z hZ=>?_⟩
   have ecut:zco [V.int (m0:Int),V.int (m1:Int)] none (some 2) = [V.int (m0:Int),V.int (m1:Int)]:=rfl
   rw [ecut]
   have wZ:=wY.trans (zb (o:=.lst [V.int (m0:Int),V.int (m1:Int)]) hZ)
   have hZs:upd (upd H9 Y (.lst [V.int (m0:Int),V.int (m1:Int)])) Z (.lst [V.int (m0:Int),V.int (m1:Int)]) Z=some (.lst [V.int (m0:Int),V.int (m1:Int)]):=zc
   have sZ:=s49.trans wZ
   generalize upd (upd H9 Y (.lst [V.int (m0:Int),V.int (m1:Int)])) Z (.lst [V.int (m0:Int),V.int (m1:Int)])=HA at wZ hZs sZ ⊢
   have s2A:=s4.trans sZ
   have hcA':=hcB.same s2A
   have hAr:=s2A _ _ h2r
   have hAP:=sZ _ _ hP
   have husA:=hus.same sZ
   refine⟨Z,rfl,⟨_,SqL.of hZs⟩,zba (K:=K) (a:=Z) (xs:=[V.int (m0:Int),V.int (m1:Int)]) (fun i σ H'=>∃ (e7 e8 e9 e10 e11 e12 e13 e14 e15:Option V),σ = [some (.ref a),some (.ref c),some (.ref r),some (.int p),some (.int (k:Int)),some (.ref tt),some (.ref PL),e7,e8,e9,e10,e11,e12,e13,e14,e15]∧zy HA H') ⟨_,_,_,_,_,_,_,_,_,rfl,fun _ _ e=>e⟩ ?_ ?_ ?_⟩
   ·rintro i σ H' _ ⟨_,_,_,_,_,_,_,_,_,_,s'⟩
    exact SqL.of (s' _ _ hZs)
   ·rintro i xv σ HB hxv ⟨e7,e8,e9,e10,e11,e12,e13,e14,e15,rfl,sB⟩
    obtain⟨m,rfl,hm⟩:∃ m:Nat,xv = .int (m:Int)∧m∈gs:=by
     match i,hxv with
     | 0,hxv=>cases hxv; exact⟨m0,rfl,hm0⟩
     | 1,hxv=>cases hxv; exact⟨m1,rfl,hm1⟩
     | _+2,hxv=>simp at hxv
    obtain⟨mm1,mm4,mmo⟩:=hgs m hm
    have hBr:=sB _ _ hAr
    have hcBB:=hcA'.same sB
    have hBP:=sB _ _ hAP
    have husB:=husA.same sB
    refine⟨_,rfl,r,_,rfl,.inl (SqL.of hBr),fun hn hhn=>?_⟩
    have wh:=zb (o:=.lst (rw.map enc)) hhn
    have hh:upd HB hn (.lst (rw.map enc)) hn=some (.lst (rw.map enc)):=zc
    generalize upd HB hn (.lst (rw.map enc))=HC at wh hh ⊢
    refine⟨_,rfl,_,rfl,_,rfl,c,tt,hn,p,k,m,pl,rw,rfl,hcBB.same wh,hh,hrl,by omega,co.pr,co.nd,co.rg,hrw,by omega,by omega,mm1,by omega,fun _=>by omega,fun v HD sD hT=>?_⟩
    rcases hT with ⟨h,_⟩ | ⟨_,z,r',ls,size,g,rfl,hzn,hDz,hDr,hDT,LS,hsz⟩
    ·omega
    have sBD:=wh.trans sD
    have rg:=zky (k:=k) (s:=size) LS.rg
    have rg1:∀ r∈zaC k size g,1≤r.length∧r.length≤201∧∀ v∈r,0≤v∧v < p:=fun r hr=>by
     obtain⟨h1,h2,h3⟩:=rg r hr
     exact⟨h1,by omega,h3⟩
    have hqs:size / (k - 1)≤size:=Nat.div_le_self _ _
    have cln:(zaC k size g).length≤201:=by rw [zbq]; exact Nat.succ_le_succ (Nat.le_trans hqs hsz)
    have cl1:1≤(zaC k size g).length:=by rw [zbq]; exact Nat.le_add_left _ _
    have hco:(cos (wpt m (hps pl rw))).length≤199:=by rw [zci,zd2]; omega
    have hfl:(zaC k size g).flatten.length≤5000:=by
     rw [zig,zhh hk2,za3,List.length_append,zdB]
     have:=LS.few
     have:size / (k - 1)+1≤201:=Nat.succ_le_succ (Nat.le_trans hqs hsz)
     omega
    refine⟨_,rfl,_,_,_,_,rfl,.tup hDz,rfl,_,rfl,zcu ?_⟩
    refine⟨_,rfl,z,_,rfl,.inr (SqT.of hDz),rfl,_,rfl,zcu ?_⟩
    refine⟨_,rfl,_,rfl,zjG (SqL.of (sD _ _ hh)) (SqL.of (sBD _ _ hBr)) ⟨_,rfl,zcu ?_⟩⟩
    refine⟨_,rfl,_,rfl,z,_,_,_,rfl,rfl,SqT.of hDz,rfl,p,r',ls,zaC k size g,rfl,by omega,by omega,hDr,hDT,by omega,fun r hr=>⟨Nat.le_trans (rg1 r hr).2.1 (by decide),(rg1 r hr).2.2⟩,zkz hk2 LS,hfl,fun HE sE=>⟨_,rfl,zcu ?_⟩⟩
    have sBE:=sBD.trans sE
    have hEz:=sE _ _ hDz
    have hEr:=sE _ _ hDr
    have hET:=hDT.same sE
    refine⟨_,rfl,z,_,rfl,SqT.of hEz,rfl,_,_,rfl,_,_,rfl,rfl,?_⟩
    refine⟨_,rfl,(size:Int),rfl,_,rfl,zcu ?_⟩
    refine⟨_,rfl,_,rfl,_,rfl,(k:Int),r',ls,zaC k size g,rfl,by omega,by omega,hEr,hET,by omega,fun r hr=>Nat.le_trans (rg1 r hr).2.1 (by decide),?_,fun M HF sF hM1 hM2=>?_⟩
    ·obtain⟨t',ht',hne'⟩:=LS.top
     exact fun e=>by have:=zhq hk2 (show tz k t'≤size by omega) hne'; rw [e] at this; cases this
    have eM:=zih hk2 LS hM1 hM2
    subst eM
    refine⟨rfl,_,rfl,?_⟩
    refine zap (fun hc=>absurd hc (by simp)) (fun _=>?_)
    have sEF:=sE.trans sF
    have sBF:=sBE.trans sF
    have hFr:=sF _ _ hEr
    have hFT:=hET.same sF
    have hFP:=sBF _ _ hBP
    have husF:=husB.same sBF
    refine⟨_,rfl,PL,rfl,⟨_,SqL.of hFP⟩,zba (K:=K) (a:=PL) (xs:=us.map V.ref) (fun i σ H'=>∃ (e7 e8 e9 e11 e12 e15:Option V),σ = [some (.ref a),some (.ref c),some (.ref r),some (.int p),some (.int (k:Int)),some (.ref tt),some (.ref PL),e7,e8,e9,some (.int (m:Int)),e11,e12,some (.int (size:Int)),some (.ref r'),e15]∧zy HF H') ⟨_,_,_,_,_,_,rfl,fun _ _ e=>e⟩ ?_ ?_ ?_⟩
    ·rintro i σ H' _ ⟨_,_,_,_,_,_,_,s'⟩
     exact SqL.of (s' _ _ hFP)
    ·rintro i xv' σ HG hxv' ⟨e7,e8,e9,e11,e12,e15,rfl,sG⟩
     obtain⟨b,rfl,hb⟩:=z9 hxv'
     obtain⟨q',hq',hqb⟩:=Paired.get husF hb
     have hqm:=List.mem_of_getElem? hq'
     obtain⟨g1,g2,g3,g4⟩:=hPt.rg q' hqm
     refine⟨_,rfl,_,rfl,_,rfl,_,rfl,p,r',b,q'.1,q'.2,m,ls,zaC k size g,rfl,by omega,by omega,g1,g2,g3,g4,mm4,sG _ _ hFr,hFT.same sG,sG _ _ hqb,cl1,cln,rg1,zij hk2 LS hqm,fun HI sI=>⟨_,rfl,zcu ?_⟩⟩
     exact⟨_,_,_,_,_,_,rfl,sG.trans sI⟩
    ·rintro σ HG ⟨e7,e8,e9,e11,e12,e15,rfl,sG⟩
     have hGP:=sG _ _ hFP
     have husG:=husF.same sG
     refine⟨_,rfl,_,rfl,_,rfl,PL,rfl,⟨_,SqL.of hGP⟩,zM (n:=us.length) (fun i ys H'=>zy HG H'∧∃ vs:List Addr,ys=vs.map V.ref∧W3 H' vs (wpt m ((hps pl rw).take i))) ⟨fun _ _ e=>e,[],rfl,.nil⟩ ?_ ?_ ?_ ?_⟩
     ·rintro i ys H4 hi ⟨s4,_⟩
      exact⟨_,.ref (us[i]'(by omega)),SqL.of (s4 _ _ hGP),by rw [List.getElem?_map,List.getElem?_eq_getElem (by omega)]; rfl⟩
     ·rintro ys H4 ⟨s4,_⟩
      exact⟨_,SqL.of (s4 _ _ hGP),by rw [List.length_map]; exact Nat.le_refl _⟩
     ·rintro i z' ys H4 H5 hi ⟨s4,vs,rfl,hvs⟩ ⟨rfl,hx⟩
      obtain⟨b,rfl,hbm⟩:=z9 (hx _ (SqL.of (s4 _ _ hGP)))
      obtain⟨q',hq',hT⟩:=Paired.get (husG.same s4) hbm
      have hz:vs.length=i:=by rw [Paired.length hvs]; unfold wpt; rw [List.length_map,List.length_take]; omega
      refine gY2 (SqT.of hT) ?_
      refine⟨_,rfl,_,rfl,_,rfl,by show 3≤sizeLine; omega,fun T hT'=>⟨by rw [List.length_map]; omega,s4.trans (zb hT'),vs++[T],by simp,?_⟩⟩
      rw [take_snoc hq']
      unfold wpt
      rw [List.map_append]
      exact Paired.snoc (hvs.same (zb hT')) zc
     ·rintro ys H4 D ⟨s4,vs,rfl,hvs⟩ hD
      rw [List.take_of_length_le (by omega)] at hvs
      have w4:=s4.trans (zb (o:=.lst (vs.map V.ref)) hD)
      refine⟨_,rfl,_,_,rfl,rfl,p,k,size,D,vs,wpt m (hps pl rw),g,rfl,co.pr,hk2,by omega,hsz,zc,hvs.same (zb hD),fun q' hq'=>?_,fun q' hq'=>?_,by unfold wpt; rw [List.length_map]; omega,hco,LS,fun HJ sJ=>⟨_,rfl,zcu ?_⟩⟩
      ·obtain⟨a',ha',rfl⟩:=List.mem_map.mp hq'
       obtain⟨g1,g2,g3,g4⟩:=hPt.rg a' ha'
       exact⟨g1,g2,g3,g4,mm1,show m≤9 by omega⟩
      ·obtain⟨a',ha',rfl⟩:=List.mem_map.mp hq'
       exact mm4
      ·exact⟨_,_,_,_,_,_,_,_,_,rfl,((sB.trans sBF).trans (sG.trans w4)).trans sJ⟩
   ·rintro σ H' ⟨_,_,_,_,_,_,_,_,_,rfl,s'⟩
    exact q _
end
end My
end
section
set_option maxHeartbeats 3999000
namespace My
open PySem L2 PyProof.Rows
structure Dn (K:PySem.W.Frag) (x:Str) (st:Stmt) (f:Addr) (fd:FuncData):Prop where
 a:PySem.W.nsIn K mainGlobals x=some (some (.ref f))
 f:Fun K x x st f fd
theorem zaf {K:PySem.W.Frag} {x:Str} {st:Stmt} {f:Addr} {od an:Option Addr} {sl:Array (Option Value)} {oc kV dc pm cd ct:Value} (a:PySem.W.nsIn K mainGlobals x=some (some (.ref f))) (l:K.lookup f=some ⟨oc,od,.func (PySem.W.fnOf x x (zbu st) (zaT st) (zh st) .none kV dc pm an cd ct),sl⟩) (c:PySem.W.codeIn K cd x=true) (k:PySem.W.keepIn K (.ref f)=true):Dn K x st f (PySem.W.fnOf x x (zbu st) (zaT st) (zh st) .none kV dc pm an cd ct):=⟨a,ziA l c k⟩
theorem el1 {us:List Value} (e:us.length=1):∃ a,us = [a]:=match us,e with | [a],_=>⟨a,rfl⟩
theorem el2 {us:List Value} (e:us.length=2):∃ a b,us = [a,b]:=match us,e with | [a,b],_=>⟨a,b,rfl⟩
theorem el3 {us:List Value} (e:us.length=3):∃ a b c,us = [a,b,c]:=match us,e with | [a,b,c],_=>⟨a,b,c,rfl⟩
theorem el4 {us:List Value} (e:us.length=4):∃ a b c d,us = [a,b,c,d]:=match us,e with | [a,b,c,d],_=>⟨a,b,c,d,rfl⟩
theorem zlG {l:PySem.W.OpenLaw} {w:World} {K:PySem.W.Frag} {h:Heap} {mg:Str→Option Value} {fa fl A_SlipError A_TooFew A_NoCurve A_NoPaper A_NoPlace A_NoNumber A_Heard A_NotHeard A_NothingLeft A_NoText A_NoRow:Addr} (X:K.In h) (G:h.Ns mainGlobals mg) (hfa:mg "law" = some (.ref fa))
  {od an:Option Addr} {sl:Array (Option Value)} {oc kV dc pm cd ct:Value} (a_SlipError:PySem.W.nsIn K mainGlobals "SlipError" = some (some (.ref A_SlipError))) (a_TooFew:PySem.W.nsIn K mainGlobals "TooFew" = some (some (.ref A_TooFew))) (a_NoCurve:PySem.W.nsIn K mainGlobals "NoCurve" = some (some (.ref A_NoCurve))) (a_NoPaper:PySem.W.nsIn K mainGlobals "NoPaper" = some (some (.ref A_NoPaper))) (a_NoPlace:PySem.W.nsIn K mainGlobals "NoPlace" = some (some (.ref A_NoPlace))) (a_NoNumber:PySem.W.nsIn K mainGlobals "NoNumber" = some (some (.ref A_NoNumber))) (a_Heard:PySem.W.nsIn K mainGlobals "Heard" = some (some (.ref A_Heard))) (a_NotHeard:PySem.W.nsIn K mainGlobals "NotHeard" = some (some (.ref A_NotHeard))) (a_NothingLeft:PySem.W.nsIn K mainGlobals "NothingLeft" = some (some (.ref A_NothingLeft))) (a_NoText:PySem.W.nsIn K mainGlobals "NoText" = some (some (.ref A_NoText))) (a_NoRow:PySem.W.nsIn K mainGlobals "NoRow" = some (some (.ref A_NoRow))) (d_inverse:∃ f fd,Dn K "inverse" zcj f fd) (d_times_root:∃ f fd,Dn K "times_root" zaW f fd) (d_moved_powers:∃ f fd,Dn K "moved_powers" zaX f fd) (d_numbers_at:∃ f fd,Dn K "numbers_at" zao f fd) (d_vectors_of:∃ f fd,Dn K "vectors_of" zaD f fd) (d_without:∃ f fd,Dn K "without" zbK f fd) (d_first_relation:∃ f fd,Dn K "first_relation" zae f fd) (d_first_sum:∃ f fd,Dn K "first_sum" zbd f fd) (d_heard_points:∃ f fd,Dn K "heard_points" zav f fd) (d_first_terms:∃ f fd,Dn K "first_terms" zaJ f fd) (d_least_curve:∃ f fd,Dn K "least_curve" zac f fd) (d_check_curves:∃ f fd,Dn K "check_curves" zaY f fd) (d_curve_for:∃ f fd,Dn K "curve_for" zbe f fd) (d_l_cell:∃ f fd,Dn K "_law_cell" zcN f fd) (d_l_draws:∃ f fd,Dn K "_law_draws" zck f fd) (d_l_whole:∃ f fd,Dn K "_law_whole" zcl f fd) (d_l_code:∃ f fd,Dn K "_law_code" zb6 f fd) (d_l_value:∃ f fd,Dn K "_law_value" zcm f fd) (d_l_polynomial:∃ f fd,Dn K "_law_polynomial" zaw f fd) (d_l_row:∃ f fd,Dn K "_law_row" zcO f fd) (d_l_rank:∃ f fd,Dn K "_law_rank" zbf f fd) (d_l_powers:∃ f fd,Dn K "_law_powers" zbW f fd) (d_l_choose:∃ f fd,Dn K "_law_choose" zbX f fd) (d_l_passes:∃ f fd,Dn K "_law_passes" zax f fd) (d_l_asked:∃ f fd,Dn K "_law_asked" zbL f fd) (d_l_has_curve:∃ f fd,Dn K "_law_has_curve" zas f fd) (d_l_word:∃ f fd,Dn K "_law_word" zcP f fd) (d_l_told:∃ f fd,Dn K "_law_told" zcQ f fd) (d_l_is_curve:∃ f fd,Dn K "_law_is_curve" zaE f fd) (d_l_size:∃ f fd,Dn K "_law_size" zb7 f fd)  (xi_NoCurve:PySem.W.excIn K A_NoCurve ziT "ValueError.__new__" = true) (k_NoCurve_TooFew:PySem.W.kitOne K (.ref A_NoCurve) (.ref A_TooFew)=some false) (k_NoCurve_NoCurve:PySem.W.kitOne K (.ref A_NoCurve) (.ref A_NoCurve)=some true) (k_NoCurve_NoPaper:PySem.W.kitOne K (.ref A_NoCurve) (.ref A_NoPaper)=some false) (k_NoCurve_NoPlace:PySem.W.kitOne K (.ref A_NoCurve) (.ref A_NoPlace)=some false) (k_NoCurve_NoNumber:PySem.W.kitOne K (.ref A_NoCurve) (.ref A_NoNumber)=some false) (k_NoCurve_Heard:PySem.W.kitOne K (.ref A_NoCurve) (.ref A_Heard)=some false) (k_NoCurve_NotHeard:PySem.W.kitOne K (.ref A_NoCurve) (.ref A_NotHeard)=some false) (k_NoCurve_NothingLeft:PySem.W.kitOne K (.ref A_NoCurve) (.ref A_NothingLeft)=some false) (k_NoCurve_NoText:PySem.W.kitOne K (.ref A_NoCurve) (.ref A_NoText)=some false) (k_NoCurve_NoRow:PySem.W.kitOne K (.ref A_NoCurve) (.ref A_NoRow)=some false) (v_NoCurve:PySem.W.kitOne K (.ref A_NoCurve) (.type "ValueError")=some true) (s_NoCurve:PySem.W.kitCls K (.ref A_NoCurve) (.ref A_SlipError)=some true) (e1_NoCurve:PySem.W.findIn K (.ref A_NoCurve) "__getattribute__" = some (some (.builtin "BaseException.__getattribute__"))) (e2_NoCurve:PySem.W.findIn K (.ref A_NoCurve) "__getattr__" = some none) (e3_NoCurve:PySem.W.findIn K (.ref A_NoCurve) "__class__" = some (some (.builtin "object.__class__"))) (e4_NoCurve:PySem.W.mroIn K A_NoCurve (.type "object")=some true) (e5_NoCurve:PySem.W.mroIn K A_NoCurve (.type "BaseException")=some true) (e6_NoCurve:PySem.W.kitCls K (.ref A_NoCurve) (.ref A_NoCurve)=some true) (sb:PySem.W.mroIn K A_SlipError (.type "BaseException")=some true)
  (al:PySem.W.nsIn K mainGlobals "law" = some (some (.ref fl))) (ll:K.lookup fl=some ⟨oc,od,.func (PySem.W.fnOf "law" "law" (zbu zbM) (zaT zbM) (zh zbM) .none kV dc pm an cd ct),sl⟩) (cl:PySem.W.codeIn K cd "law" = true) (kl:PySem.W.keepIn K (.ref fl)=true) (z_len:PySem.W.nsIn K mainGlobals "len" = some none) (z_range:PySem.W.nsIn K mainGlobals "range" = some none) (z_list:PySem.W.nsIn K mainGlobals "list" = some none) (z_tuple:PySem.W.nsIn K mainGlobals "tuple" = some none) (z_min:PySem.W.nsIn K mainGlobals "min" = some none) (z_max:PySem.W.nsIn K mainGlobals "max" = some none) (z_int:PySem.W.nsIn K mainGlobals "int" = some none) (z_bool:PySem.W.nsIn K mainGlobals "bool" = some none) (z_isinstance:PySem.W.nsIn K mainGlobals "isinstance" = some none) (z_zip:PySem.W.nsIn K mainGlobals "zip" = some none) (z_enumerate:PySem.W.nsIn K mainGlobals "enumerate" = some none) (z_sum:PySem.W.nsIn K mainGlobals "sum" = some none) (z_dict:PySem.W.nsIn K mainGlobals "dict" = some none) (z_ValueError:PySem.W.nsIn K mainGlobals "ValueError" = some none) :
  ∃ fd:FuncData,(∀ (s:Shared) (v:Value),BindsTo s fd ⟨[v],[]⟩ [("script",v)])∧∀ base:Heap,K.In base→base.Ns mainGlobals mg→FnOk l.prog w K mg base CX0 9 fa fd ["script"] (ze2 K):=by
 cases hfa.symm.trans (PySem.W.mg_of X G al)
 obtain⟨f_inverse,fd_inverse,D_inverse⟩:=d_inverse
 have b_inverse:=D_inverse.f.binds (ps:=["p","number"]) fun _ _ _ _ _ _ _ h=>by obtain⟨_,_,rfl⟩:=el2 h; exact rfl
 obtain⟨f_times_root,fd_times_root,D_times_root⟩:=d_times_root
 have b_times_root:=D_times_root.f.binds (ps:=["p","polynomial","root"]) fun _ _ _ _ _ _ _ h=>by obtain⟨_,_,_,rfl⟩:=el3 h; exact rfl
 obtain⟨f_moved_powers,fd_moved_powers,D_moved_powers⟩:=d_moved_powers
 have b_moved_powers:=D_moved_powers.f.binds (ps:=["p","by","most","kept"]) fun _ _ _ _ _ _ _ h=>by obtain⟨_,_,_,_,rfl⟩:=el4 h; exact rfl
 obtain⟨f_numbers_at,fd_numbers_at,D_numbers_at⟩:=d_numbers_at
 have b_numbers_at:=D_numbers_at.f.binds (ps:=["p","terms","point"]) fun _ _ _ _ _ _ _ h=>by obtain⟨_,_,_,rfl⟩:=el3 h; exact rfl
 obtain⟨f_vectors_of,fd_vectors_of,D_vectors_of⟩:=d_vectors_of
 have b_vectors_of:=D_vectors_of.f.binds (ps:=["p","terms","points"]) fun _ _ _ _ _ _ _ h=>by obtain⟨_,_,_,rfl⟩:=el3 h; exact rfl
 obtain⟨f_without,fd_without,D_without⟩:=d_without
 have b_without:=D_without.f.binds (ps:=["p","vector","times","other"]) fun _ _ _ _ _ _ _ h=>by obtain⟨_,_,_,_,rfl⟩:=el4 h; exact rfl
 obtain⟨f_first_relation,fd_first_relation,D_first_relation⟩:=d_first_relation
 have b_first_relation:=D_first_relation.f.binds (ps:=["p","vectors"]) fun _ _ _ _ _ _ _ h=>by obtain⟨_,_,rfl⟩:=el2 h; exact rfl
 obtain⟨f_first_sum,fd_first_sum,D_first_sum⟩:=d_first_sum
 have b_first_sum:=D_first_sum.f.binds (ps:=["p","terms","points"]) fun _ _ _ _ _ _ _ h=>by obtain⟨_,_,_,rfl⟩:=el3 h; exact rfl
 obtain⟨f_heard_points,fd_heard_points,D_heard_points⟩:=d_heard_points
 have b_heard_points:=D_heard_points.f.binds (ps:=["code","row"]) fun _ _ _ _ _ _ _ h=>by obtain⟨_,_,rfl⟩:=el2 h; exact rfl
 obtain⟨f_first_terms,fd_first_terms,D_first_terms⟩:=d_first_terms
 have b_first_terms:=D_first_terms.f.binds (ps:=["k","many"]) fun _ _ _ _ _ _ _ h=>by obtain⟨_,_,rfl⟩:=el2 h; exact rfl
 obtain⟨f_least_curve,fd_least_curve,D_least_curve⟩:=d_least_curve
 have b_least_curve:=D_least_curve.f.binds (ps:=["p","k","points"]) fun _ _ _ _ _ _ _ h=>by obtain⟨_,_,_,rfl⟩:=el3 h; exact rfl
 obtain⟨f_check_curves,fd_check_curves,D_check_curves⟩:=d_check_curves
 have b_check_curves:=D_check_curves.f.binds (ps:=["k"]) fun _ _ _ _ _ _ _ h=>by obtain⟨_,rfl⟩:=el1 h; exact rfl
 obtain⟨f_curve_for,fd_curve_for,D_curve_for⟩:=d_curve_for
 have b_curve_for:=D_curve_for.f.binds (ps:=["code","row","m"]) fun _ _ _ _ _ _ _ h=>by obtain⟨_,_,_,rfl⟩:=el3 h; exact rfl
 obtain⟨f_l_cell,fd_l_cell,D_l_cell⟩:=d_l_cell
 have b_l_cell:=D_l_cell.f.binds (ps:=["script","k"]) fun _ _ _ _ _ _ _ h=>by obtain⟨_,_,rfl⟩:=el2 h; exact rfl
 obtain⟨f_l_draws,fd_l_draws,D_l_draws⟩:=d_l_draws
 have b_l_draws:=D_l_draws.f.binds (ps:=["script","k","many","base"]) fun _ _ _ _ _ _ _ h=>by obtain⟨_,_,_,_,rfl⟩:=el4 h; exact rfl
 obtain⟨f_l_whole,fd_l_whole,D_l_whole⟩:=d_l_whole
 have b_l_whole:=D_l_whole.f.binds (ps:=["found"]) fun _ _ _ _ _ _ _ h=>by obtain⟨_,rfl⟩:=el1 h; exact rfl
 obtain⟨f_l_code,fd_l_code,D_l_code⟩:=d_l_code
 have b_l_code:=D_l_code.f.binds (ps:=["script","at","most_k","most_n"]) fun _ _ _ _ _ _ _ h=>by obtain⟨_,_,_,_,rfl⟩:=el4 h; exact rfl
 obtain⟨f_l_value,fd_l_value,D_l_value⟩:=d_l_value
 have b_l_value:=D_l_value.f.binds (ps:=["p","polynomial","x"]) fun _ _ _ _ _ _ _ h=>by obtain⟨_,_,_,rfl⟩:=el3 h; exact rfl
 obtain⟨f_l_polynomial,fd_l_polynomial,D_l_polynomial⟩:=d_l_polynomial
 have b_l_polynomial:=D_l_polynomial.f.binds (ps:=["draws","p","k"]) fun _ _ _ _ _ _ _ h=>by obtain⟨_,_,_,rfl⟩:=el3 h; exact rfl
 obtain⟨f_l_row,fd_l_row,D_l_row⟩:=d_l_row
 have b_l_row:=D_l_row.f.binds (ps:=["script","at","code"]) fun _ _ _ _ _ _ _ h=>by obtain⟨_,_,_,rfl⟩:=el3 h; exact rfl
 obtain⟨f_l_rank,fd_l_rank,D_l_rank⟩:=d_l_rank
 have b_l_rank:=D_l_rank.f.binds (ps:=["p","rows"]) fun _ _ _ _ _ _ _ h=>by obtain⟨_,_,rfl⟩:=el2 h; exact rfl
 obtain⟨f_l_powers,fd_l_powers,D_l_powers⟩:=d_l_powers
 have b_l_powers:=D_l_powers.f.binds (ps:=["p","x","many"]) fun _ _ _ _ _ _ _ h=>by obtain⟨_,_,_,rfl⟩:=el3 h; exact rfl
 obtain⟨f_l_choose,fd_l_choose,D_l_choose⟩:=d_l_choose
 have b_l_choose:=D_l_choose.f.binds (ps:=["many","few"]) fun _ _ _ _ _ _ _ h=>by obtain⟨_,_,rfl⟩:=el2 h; exact rfl
 obtain⟨f_l_passes,fd_l_passes,D_l_passes⟩:=d_l_passes
 have b_l_passes:=D_l_passes.f.binds (ps:=["p","curve","point","m"]) fun _ _ _ _ _ _ _ h=>by obtain⟨_,_,_,_,rfl⟩:=el4 h; exact rfl
 obtain⟨f_l_asked,fd_l_asked,D_l_asked⟩:=d_l_asked
 have b_l_asked:=D_l_asked.f.binds (ps:=["p","k","weighed","size"]) fun _ _ _ _ _ _ _ h=>by obtain⟨_,_,_,_,rfl⟩:=el4 h; exact rfl
 obtain⟨f_l_has_curve,fd_l_has_curve,D_l_has_curve⟩:=d_l_has_curve
 have b_l_has_curve:=D_l_has_curve.f.binds (ps:=["p","k","weighed","size"]) fun _ _ _ _ _ _ _ h=>by obtain⟨_,_,_,_,rfl⟩:=el4 h; exact rfl
 obtain⟨f_l_word,fd_l_word,D_l_word⟩:=d_l_word
 have b_l_word:=D_l_word.f.binds (ps:=["e"]) fun _ _ _ _ _ _ _ h=>by obtain⟨_,rfl⟩:=el1 h; exact rfl
 obtain⟨f_l_told,fd_l_told,D_l_told⟩:=d_l_told
 have b_l_told:=D_l_told.f.binds (ps:=["code","row","m"]) fun _ _ _ _ _ _ _ h=>by obtain⟨_,_,_,rfl⟩:=el3 h; exact rfl
 obtain⟨f_l_is_curve,fd_l_is_curve,D_l_is_curve⟩:=d_l_is_curve
 have b_l_is_curve:=D_l_is_curve.f.binds (ps:=["p","curve"]) fun _ _ _ _ _ _ _ h=>by obtain⟨_,_,rfl⟩:=el2 h; exact rfl
 obtain⟨f_l_size,fd_l_size,D_l_size⟩:=d_l_size
 have b_l_size:=D_l_size.f.binds (ps:=["k","curve"]) fun _ _ _ _ _ _ _ h=>by obtain⟨_,_,rfl⟩:=el2 h; exact rfl
 let t:Adr:=⟨A_SlipError,A_TooFew,A_NoCurve,A_NoPaper,A_NoPlace,A_NoNumber,A_Heard,A_NotHeard,A_NothingLeft,A_NoText,A_NoRow,f_inverse,f_times_root,f_moved_powers,f_numbers_at,f_vectors_of,f_without,f_first_relation,f_first_sum,f_heard_points,f_first_terms,f_least_curve,f_check_curves,f_curve_for,f_l_cell,f_l_draws,f_l_whole,f_l_code,f_l_value,f_l_polynomial,f_l_row,f_l_rank,f_l_powers,f_l_choose,f_l_passes,f_l_asked,f_l_has_curve,f_l_word,f_l_told,f_l_is_curve,f_l_size,fa⟩
 have T:Txt K mg t:=⟨PySem.W.mg_none_of X G z_len,PySem.W.mg_none_of X G z_range,PySem.W.mg_none_of X G z_list,PySem.W.mg_none_of X G z_tuple,PySem.W.mg_none_of X G z_min,PySem.W.mg_none_of X G z_max,PySem.W.mg_none_of X G z_int,PySem.W.mg_none_of X G z_bool,PySem.W.mg_none_of X G z_isinstance,PySem.W.mg_none_of X G z_zip,PySem.W.mg_none_of X G z_enumerate,PySem.W.mg_none_of X G z_sum,PySem.W.mg_none_of X G z_dict,PySem.W.mg_none_of X G z_ValueError,PySem.W.mg_of X G a_SlipError,PySem.W.mg_of X G a_TooFew,PySem.W.mg_of X G a_NoCurve,PySem.W.mg_of X G a_NoPaper,PySem.W.mg_of X G a_NoPlace,PySem.W.mg_of X G a_NoNumber,PySem.W.mg_of X G a_Heard,PySem.W.mg_of X G a_NotHeard,PySem.W.mg_of X G a_NothingLeft,PySem.W.mg_of X G a_NoText,PySem.W.mg_of X G a_NoRow,xi_NoCurve,⟨k_NoCurve_TooFew,k_NoCurve_NoCurve,k_NoCurve_NoPaper,k_NoCurve_NoPlace,k_NoCurve_NoNumber,k_NoCurve_Heard,k_NoCurve_NotHeard,k_NoCurve_NothingLeft,k_NoCurve_NoText,k_NoCurve_NoRow,v_NoCurve,⟨e1_NoCurve,e2_NoCurve,e3_NoCurve,e4_NoCurve,e5_NoCurve,e6_NoCurve⟩,s_NoCurve⟩,sb,PySem.W.mg_of X G D_inverse.a,PySem.W.mg_of X G D_times_root.a,PySem.W.mg_of X G D_moved_powers.a,PySem.W.mg_of X G D_numbers_at.a,PySem.W.mg_of X G D_vectors_of.a,PySem.W.mg_of X G D_without.a,PySem.W.mg_of X G D_first_relation.a,PySem.W.mg_of X G D_first_sum.a,PySem.W.mg_of X G D_heard_points.a,PySem.W.mg_of X G D_first_terms.a,PySem.W.mg_of X G D_least_curve.a,PySem.W.mg_of X G D_check_curves.a,PySem.W.mg_of X G D_curve_for.a,PySem.W.mg_of X G D_l_cell.a,PySem.W.mg_of X G D_l_draws.a,PySem.W.mg_of X G D_l_whole.a,PySem.W.mg_of X G D_l_code.a,PySem.W.mg_of X G D_l_value.a,PySem.W.mg_of X G D_l_polynomial.a,PySem.W.mg_of X G D_l_row.a,PySem.W.mg_of X G D_l_rank.a,PySem.W.mg_of X G D_l_powers.a,PySem.W.mg_of X G D_l_choose.a,PySem.W.mg_of X G D_l_passes.a,PySem.W.mg_of X G D_l_asked.a,PySem.W.mg_of X G D_l_has_curve.a,PySem.W.mg_of X G D_l_word.a,PySem.W.mg_of X G D_l_told.a,PySem.W.mg_of X G D_l_is_curve.a,PySem.W.mg_of X G D_l_size.a,⟨_,D_inverse.f,b_inverse⟩,⟨_,D_times_root.f,b_times_root⟩,⟨_,D_moved_powers.f,b_moved_powers⟩,⟨_,D_numbers_at.f,b_numbers_at⟩,⟨_,D_vectors_of.f,b_vectors_of⟩,⟨_,D_without.f,b_without⟩,⟨_,D_first_relation.f,b_first_relation⟩,⟨_,D_first_sum.f,b_first_sum⟩,⟨_,D_heard_points.f,b_heard_points⟩,⟨_,D_first_terms.f,b_first_terms⟩,⟨_,D_least_curve.f,b_least_curve⟩,⟨_,D_check_curves.f,b_check_curves⟩,⟨_,D_curve_for.f,b_curve_for⟩,⟨_,D_l_cell.f,b_l_cell⟩,⟨_,D_l_draws.f,b_l_draws⟩,⟨_,D_l_whole.f,b_l_whole⟩,⟨_,D_l_code.f,b_l_code⟩,⟨_,D_l_value.f,b_l_value⟩,⟨_,D_l_polynomial.f,b_l_polynomial⟩,⟨_,D_l_row.f,b_l_row⟩,⟨_,D_l_rank.f,b_l_rank⟩,⟨_,D_l_powers.f,b_l_powers⟩,⟨_,D_l_choose.f,b_l_choose⟩,⟨_,D_l_passes.f,b_l_passes⟩,⟨_,D_l_asked.f,b_l_asked⟩,⟨_,D_l_has_curve.f,b_l_has_curve⟩,⟨_,D_l_word.f,b_l_word⟩,⟨_,D_l_told.f,b_l_told⟩,⟨_,D_l_is_curve.f,b_l_is_curve⟩,⟨_,D_l_size.f,b_l_size⟩⟩
 have FL:=ziA (st:=zbM) ll cl kl
 exact⟨PySem.W.fnOf "law" "law" (zbu zbM) (zaT zbM) (zh zbM) .none kV dc pm an cd ct,fun s v=>.of_eq rfl,fun base _ _=>zlF (t:=t) T FL⟩
theorem walk {l:PySem.W.OpenLaw} {q:Program} {loose:List Str} {XP:(Str→Option Value)→Heap→Prop} {YP:World→Heap→Prop} {d:DefRec} {K:Params→PySem.W.Frag} (hn:l.most=some 63) (hdf:d.params.defaults = []) (hY:∀ (w:World) (h:Heap),YP w h→(K w.params).In h)
  (F:∀ (w:World) (mg:Str→Option Value) (fa:Addr) (h:Heap),(K w.params).In h→h.Ns mainGlobals mg→mg d.name=some (.ref fa)→∃ fd:FuncData,(∀ (s:Shared) (u:Value),BindsTo s fd ⟨[u],[]⟩ [("script",u)])∧∀ base:Heap,(K w.params).In base→base.Ns mainGlobals mg→FnOk l.prog w (K w.params) mg base CX0 9 fa fd ["script"] (ze2 (K w.params))):PySem.W.WalkO q loose XP YP l.row.toRowW d [] (fun f vs=>PySem.call f vs) :=
 L2.zjT (n:=63) (k:=9) (x:="script") (CX:=fun _=>CX0) (sp:=fun w=>ze2 (K w.params)) hn (by decide) hdf ⟨rfl,by decide,by decide⟩ hY F (fun _ _ a ns hl _ hS=>⟨a,ns,rfl,hS,hl,fun _=>rfl⟩) fun _ _ _ _ _ z=>z
end My
namespace PySem.W.Fast
def tw2529710079432466568:Unit:=()
def tw791557666249449012:Unit:=()
def tw5923196656925866957:Unit:=()
def tw11317809958767208771:Unit:=()
def tw11453343522300146476:Unit:=()
def tw4690651386365366963:Unit:=()
def tw13627165496721027529:Unit:=()
def tw10633783000389202687:Unit:=()
def tw17607568686217166291:Unit:=()
def tw14387490903985338748:Unit:=()
def tw14761372286430932171:Unit:=()
def tw14066680435946862856:Unit:=()
def tw5267449927470441596:Unit:=()
def tw10663841934929266225:Unit:=()
def tw348714081670405620:Unit:=()
def tw1213869477514605315:Unit:=()
def tw12975584856736270965:Unit:=()
def tw7075431088349043500:Unit:=()
def tw3348365176023277849:Unit:=()
def tw14360495553104244060:Unit:=()
def tw2948773680997332029:Unit:=()
def tw4398472559371419236:Unit:=()
def tw229512195770383168:Unit:=()
def tw14939000297898337539:Unit:=()
def tw12114779632912775170:Unit:=()
def tw3558222309789700680:Unit:=()
def tw1223314337459187374:Unit:=()
def tw4219907864766904767:Unit:=()
def tw18428770102816978239:Unit:=()
def tw3661109327399158319:Unit:=()
def tw15987568515215217619:Unit:=()
def tw1069075311507488120:Unit:=()
def tw11338760642234847263:Unit:=()
def tw17109755107347948850:Unit:=()
def tw14424337226435235777:Unit:=()
def tw11636085707070111906:Unit:=()
def tw15244047807712708663:Unit:=()
def tw4614982776208392877:Unit:=()
def tw14841863431559893030:Unit:=()
def tw14028321769708323918:Unit:=()
def tw13933906918313395830:Unit:=()
def tw4237341889830828129:Unit:=()
def tw10779378866974023424:Unit:=()
def tw2061008281084184912:Unit:=()
def tw4076586728267018852:Unit:=()
def tw15277513690509939216:Unit:=()
def tw13941738217616212700:Unit:=()
def tw5533139097196694319:Unit:=()
def tw15193435156260040808:Unit:=()
def tw16533201294463819142:Unit:=()
def tw7399572374788315551:Unit:=()
def tw2464970531835103930:Unit:=()
def tw5996439294489234673:Unit:=()
def tw14207495067224936338:Unit:=()
def tw10509767620666487216:Unit:=()
def tw18111619047601889708:Unit:=()
def tw4867545013110418031:Unit:=()
def tw14924566638753910212:Unit:=()
def tw10808430696861307650:Unit:=()
def tw1490759076020870346:Unit:=()
end PySem.W.Fast
open PySem PySem.W
open PyProof.Rows
set_option maxHeartbeats 0 in
theorem PySem.Challenge.cw_slipcurve_k11_whole_least_curves_holds : PySem.Challenge.rw_slipcurve_k11_whole_least_curves.Holds := by
 w_on; o_law; k_head; (case hw=>w_witness2)
 k_fill
 refine My.walk (l:=PySem.Challenge.rw_slipcurve_k11_whole_least_curves) rfl rfl (fun w h Y=>PySem.W.kIn_of Y) ?F
 case F =>
  intro w mg fa h KX G hmg
  refine' My.zlG KX G hmg ?a_SlipError ?a_TooFew ?a_NoCurve ?a_NoPaper ?a_NoPlace ?a_NoNumber ?a_Heard ?a_NotHeard ?a_NothingLeft ?a_NoText ?a_NoRow ⟨_,_,My.zaf ?da_inverse ?dl_inverse ?dc_inverse ?dk_inverse⟩ ⟨_,_,My.zaf ?da_times_root ?dl_times_root ?dc_times_root ?dk_times_root⟩ ⟨_,_,My.zaf ?da_moved_powers ?dl_moved_powers ?dc_moved_powers ?dk_moved_powers⟩ ⟨_,_,My.zaf ?da_numbers_at ?dl_numbers_at ?dc_numbers_at ?dk_numbers_at⟩ ⟨_,_,My.zaf ?da_vectors_of ?dl_vectors_of ?dc_vectors_of ?dk_vectors_of⟩ ⟨_,_,My.zaf ?da_without ?dl_without ?dc_without ?dk_without⟩ ⟨_,_,My.zaf ?da_first_relation ?dl_first_relation ?dc_first_relation ?dk_first_relation⟩ ⟨_,_,My.zaf ?da_first_sum ?dl_first_sum ?dc_first_sum ?dk_first_sum⟩ ⟨_,_,My.zaf ?da_heard_points ?dl_heard_points ?dc_heard_points ?dk_heard_points⟩ ⟨_,_,My.zaf ?da_first_terms ?dl_first_terms ?dc_first_terms ?dk_first_terms⟩ ⟨_,_,My.zaf ?da_least_curve ?dl_least_curve ?dc_least_curve ?dk_least_curve⟩ ⟨_,_,My.zaf ?da_check_curves ?dl_check_curves ?dc_check_curves ?dk_check_curves⟩ ⟨_,_,My.zaf ?da_curve_for ?dl_curve_for ?dc_curve_for ?dk_curve_for⟩ ⟨_,_,My.zaf ?da_l_cell ?dl_l_cell ?dc_l_cell ?dk_l_cell⟩ ⟨_,_,My.zaf ?da_l_draws ?dl_l_draws ?dc_l_draws ?dk_l_draws⟩ ⟨_,_,My.zaf ?da_l_whole ?dl_l_whole ?dc_l_whole ?dk_l_whole⟩ ⟨_,_,My.zaf ?da_l_code ?dl_l_code ?dc_l_code ?dk_l_code⟩ ⟨_,_,My.zaf ?da_l_value ?dl_l_value ?dc_l_value ?dk_l_value⟩ ⟨_,_,My.zaf ?da_l_polynomial ?dl_l_polynomial ?dc_l_polynomial ?dk_l_polynomial⟩ ⟨_,_,My.zaf ?da_l_row ?dl_l_row ?dc_l_row ?dk_l_row⟩ ⟨_,_,My.zaf ?da_l_rank ?dl_l_rank ?dc_l_rank ?dk_l_rank⟩ ⟨_,_,My.zaf ?da_l_powers ?dl_l_powers ?dc_l_powers ?dk_l_powers⟩ ⟨_,_,My.zaf ?da_l_choose ?dl_l_choose ?dc_l_choose ?dk_l_choose⟩ ⟨_,_,My.zaf ?da_l_passes ?dl_l_passes ?dc_l_passes ?dk_l_passes⟩ ⟨_,_,My.zaf ?da_l_asked ?dl_l_asked ?dc_l_asked ?dk_l_asked⟩ ⟨_,_,My.zaf ?da_l_has_curve ?dl_l_has_curve ?dc_l_has_curve ?dk_l_has_curve⟩ ⟨_,_,My.zaf ?da_l_word ?dl_l_word ?dc_l_word ?dk_l_word⟩ ⟨_,_,My.zaf ?da_l_told ?dl_l_told ?dc_l_told ?dk_l_told⟩ ⟨_,_,My.zaf ?da_l_is_curve ?dl_l_is_curve ?dc_l_is_curve ?dk_l_is_curve⟩ ⟨_,_,My.zaf ?da_l_size ?dl_l_size ?dc_l_size ?dk_l_size⟩ ?xi_NoCurve ?k_NoCurve_TooFew ?k_NoCurve_NoCurve ?k_NoCurve_NoPaper ?k_NoCurve_NoPlace ?k_NoCurve_NoNumber ?k_NoCurve_Heard ?k_NoCurve_NotHeard ?k_NoCurve_NothingLeft ?k_NoCurve_NoText ?k_NoCurve_NoRow ?v_NoCurve ?s_NoCurve ?e1_NoCurve ?e2_NoCurve ?e3_NoCurve ?e4_NoCurve ?e5_NoCurve ?e6_NoCurve ?sb ?al ?ll ?cl ?kl ?z_len ?z_range ?z_list ?z_tuple ?z_min ?z_max ?z_int ?z_bool ?z_isinstance ?z_zip ?z_enumerate ?z_sum ?z_dict ?z_ValueError
  (case a_SlipError=>k_is)
  (case a_TooFew=>k_is)
  (case a_NoCurve=>k_is)
  (case a_NoPaper=>k_is)
  (case a_NoPlace=>k_is)
  (case a_NoNumber=>k_is)
  (case a_Heard=>k_is)
  (case a_NotHeard=>k_is)
  (case a_NothingLeft=>k_is)
  (case a_NoText=>k_is)
  (case a_NoRow=>k_is)
  (case da_inverse=>k_is)
  (case dl_inverse=>k_is)
  (case dc_inverse=>k_is)
  (case dk_inverse=>k_is)
  (case da_times_root=>k_is)
  (case dl_times_root=>k_is)
  (case dc_times_root=>k_is)
  (case dk_times_root=>k_is)
  (case da_moved_powers=>k_is)
  (case dl_moved_powers=>k_is)
  (case dc_moved_powers=>k_is)
  (case dk_moved_powers=>k_is)
  (case da_numbers_at=>k_is)
  (case dl_numbers_at=>k_is)
  (case dc_numbers_at=>k_is)
  (case dk_numbers_at=>k_is)
  (case da_vectors_of=>k_is)
  (case dl_vectors_of=>k_is)
  (case dc_vectors_of=>k_is)
  (case dk_vectors_of=>k_is)
  (case da_without=>k_is)
  (case dl_without=>k_is)
  (case dc_without=>k_is)
  (case dk_without=>k_is)
  (case da_first_relation=>k_is)
  (case dl_first_relation=>k_is)
  (case dc_first_relation=>k_is)
  (case dk_first_relation=>k_is)
  (case da_first_sum=>k_is)
  (case dl_first_sum=>k_is)
  (case dc_first_sum=>k_is)
  (case dk_first_sum=>k_is)
  (case da_heard_points=>k_is)
  (case dl_heard_points=>k_is)
  (case dc_heard_points=>k_is)
  (case dk_heard_points=>k_is)
  (case da_first_terms=>k_is)
  (case dl_first_terms=>k_is)
  (case dc_first_terms=>k_is)
  (case dk_first_terms=>k_is)
  (case da_least_curve=>k_is)
  (case dl_least_curve=>k_is)
  (case dc_least_curve=>k_is)
  (case dk_least_curve=>k_is)
  (case da_check_curves=>k_is)
  (case dl_check_curves=>k_is)
  (case dc_check_curves=>k_is)
  (case dk_check_curves=>k_is)
  (case da_curve_for=>k_is)
  (case dl_curve_for=>k_is)
  (case dc_curve_for=>k_is)
  (case dk_curve_for=>k_is)
  (case da_l_cell=>k_is)
  (case dl_l_cell=>k_is)
  (case dc_l_cell=>k_is)
  (case dk_l_cell=>k_is)
  (case da_l_draws=>k_is)
  (case dl_l_draws=>k_is)
  (case dc_l_draws=>k_is)
  (case dk_l_draws=>k_is)
  (case da_l_whole=>k_is)
  (case dl_l_whole=>k_is)
  (case dc_l_whole=>k_is)
  (case dk_l_whole=>k_is)
  (case da_l_code=>k_is)
  (case dl_l_code=>k_is)
  (case dc_l_code=>k_is)
  (case dk_l_code=>k_is)
  (case da_l_value=>k_is)
  (case dl_l_value=>k_is)
  (case dc_l_value=>k_is)
  (case dk_l_value=>k_is)
  (case da_l_polynomial=>k_is)
  (case dl_l_polynomial=>k_is)
  (case dc_l_polynomial=>k_is)
  (case dk_l_polynomial=>k_is)
  (case da_l_row=>k_is)
  (case dl_l_row=>k_is)
  (case dc_l_row=>k_is)
  (case dk_l_row=>k_is)
  (case da_l_rank=>k_is)
  (case dl_l_rank=>k_is)
  (case dc_l_rank=>k_is)
  (case dk_l_rank=>k_is)
  (case da_l_powers=>k_is)
  (case dl_l_powers=>k_is)
  (case dc_l_powers=>k_is)
  (case dk_l_powers=>k_is)
  (case da_l_choose=>k_is)
  (case dl_l_choose=>k_is)
  (case dc_l_choose=>k_is)
  (case dk_l_choose=>k_is)
  (case da_l_passes=>k_is)
  (case dl_l_passes=>k_is)
  (case dc_l_passes=>k_is)
  (case dk_l_passes=>k_is)
  (case da_l_asked=>k_is)
  (case dl_l_asked=>k_is)
  (case dc_l_asked=>k_is)
  (case dk_l_asked=>k_is)
  (case da_l_has_curve=>k_is)
  (case dl_l_has_curve=>k_is)
  (case dc_l_has_curve=>k_is)
  (case dk_l_has_curve=>k_is)
  (case da_l_word=>k_is)
  (case dl_l_word=>k_is)
  (case dc_l_word=>k_is)
  (case dk_l_word=>k_is)
  (case da_l_told=>k_is)
  (case dl_l_told=>k_is)
  (case dc_l_told=>k_is)
  (case dk_l_told=>k_is)
  (case da_l_is_curve=>k_is)
  (case dl_l_is_curve=>k_is)
  (case dc_l_is_curve=>k_is)
  (case dk_l_is_curve=>k_is)
  (case da_l_size=>k_is)
  (case dl_l_size=>k_is)
  (case dc_l_size=>k_is)
  (case dk_l_size=>k_is)
  (case xi_NoCurve=>with_unfolding_all rfl)
  (case k_NoCurve_TooFew=>rfl)
  (case k_NoCurve_NoCurve=>rfl)
  (case k_NoCurve_NoPaper=>rfl)
  (case k_NoCurve_NoPlace=>rfl)
  (case k_NoCurve_NoNumber=>rfl)
  (case k_NoCurve_Heard=>rfl)
  (case k_NoCurve_NotHeard=>rfl)
  (case k_NoCurve_NothingLeft=>rfl)
  (case k_NoCurve_NoText=>rfl)
  (case k_NoCurve_NoRow=>rfl)
  (case v_NoCurve=>rfl)
  (case s_NoCurve=>rfl)
  (case e1_NoCurve=>k_is)
  (case e2_NoCurve=>k_is)
  (case e3_NoCurve=>k_is)
  (case e4_NoCurve=>k_is)
  (case e5_NoCurve=>k_is)
  (case e6_NoCurve=>rfl)
  (case sb=>k_is)
  (case al=>k_is)
  (case ll=>k_is)
  (case cl=>k_is)
  (case kl=>k_is)
  (case z_len=>k_is)
  (case z_range=>k_is)
  (case z_list=>k_is)
  (case z_tuple=>k_is)
  (case z_min=>k_is)
  (case z_max=>k_is)
  (case z_int=>k_is)
  (case z_bool=>k_is)
  (case z_isinstance=>k_is)
  (case z_zip=>k_is)
  (case z_enumerate=>k_is)
  (case z_sum=>k_is)
  (case z_dict=>k_is)
  (case z_ValueError=>k_is)
#print axioms PySem.Challenge.cw_slipcurve_k11_whole_least_curves_holds
end