import PyProof.Rows.All
import Wide.All
import OpenK.AllK
import Wide.FinOn
import Lean
import PyProof.EqAt
import PyProof.EqKinds
import PyProof.Rows.MinMaxN
import PyProof.ListMulRoad
import KE.KDictSum
import KE.KSortTup
import PyProof.Walk
import PyProof.Rows.SortRuns
import PyProof.CollectWalk
import PyProof.Rows.SetFrom
import KE.KUnpackStar
import KE.KIntText
import PyProof.CallStr
import PyProof.Rows.ChunkEnd
import PyProof.Rows.Range3
import PyProof.Rows.SeqGen
import PyProof.ConsumeWalk
import PyProof.ListRange
import PyProof.NeKinds
import PyProof.TupleCall
import PySem.Challenge.RW_slipcurve_k01_what_is_a_code
local macro_rules | `(tactic| trivial)=>`(tactic| first | exact .inl rfl | exact .inr rfl | assumption)
set_option Elab.async false
set_option linter.all false
set_option maxRecDepth 100000
namespace L2
open PySem PySem.Spec PyProof.Rows
abbrev Key:=Sum Int Str
def zgN:Key→Value→Bool
 | .inl k,v=>Value.isInt k v
 | .inr x,v=>Value.isStrOf x v
def zhU (w:World):Key→Int
 | .inl k=>hashInt k
 | .inr x=>hashStr w x
theorem zJ:∀ {k:Key} {v:Value},zgN k v=true→(∃ i t,k=Sum.inl i∧v=Value.int i t)∨(∃ x t,k=Sum.inr x∧v=Value.str x t)
 | .inl i,v,h=>by
  obtain⟨t,e⟩:=Value.isInt_shape (k:=i) (v:=v) h
  exact .inl ⟨i,t,rfl,e⟩
 | .inr x,v,h=>by
  obtain⟨t,e⟩:=Value.isStrOf_shape (x:=x) (v:=v) h
  exact .inr ⟨x,t,rfl,e⟩
theorem zgU (a b:Int):decide ((Sum.inl a:Key)=Sum.inl b)=(a == b):=by
 by_cases e:a=b
 ·subst e; simp
 ·have h:¬ (Sum.inl a:Key)=Sum.inl b:=fun q=>e (Sum.inl.inj q)
  rw [decide_eq_false h]
  exact (beq_eq_false_iff_ne.mpr e).symm
theorem zgV (a b:Str):decide ((Sum.inr a:Key)=Sum.inr b)=decide (a=b):=by
 by_cases e:a=b
 ·subst e; simp
 ·have h:¬ (Sum.inr a:Key)=Sum.inr b:=fun q=>e (Sum.inr.inj q)
  rw [decide_eq_false h,decide_eq_false e]
theorem zgW (a:Int) (b:Str):decide ((Sum.inl a:Key)=Sum.inr b)=false:=decide_eq_false (fun q=>nomatch q)
theorem zgX (a:Str) (b:Int):decide ((Sum.inr a:Key)=Sum.inl b)=false:=decide_eq_false (fun q=>nomatch q)
def zek (prog:Program) (w:World):PySem.KeyKind prog w Key where
 is:=zgN
 hash:=zhU w
 inj:=fun v a b ha hb=>by
  rcases zJ ha with ⟨i,t,rfl,rfl⟩ | ⟨x,t,rfl,rfl⟩
  ·rcases zJ hb with ⟨j,u,rfl,e⟩ | ⟨y,u,rfl,e⟩
   ·injection e with e1 _; rw [e1]
   ·exact nomatch e
  ·rcases zJ hb with ⟨j,u,rfl,e⟩ | ⟨y,u,rfl,e⟩
   ·exact nomatch e
   ·injection e with e1 _; rw [e1]
 byValue:=fun k v h=>by
  rcases zJ h with ⟨i,t,rfl,rfl⟩ | ⟨x,t,rfl,rfl⟩ <;> rfl
 pyHash:=fun hv h=>by
  rcases zJ hv with ⟨i,t,rfl,rfl⟩ | ⟨x,t,rfl,rfl⟩
  ·exact wpAny_pyHash_int h
  ·exact wpAny_pyHash_str h
 eqBool:=fun hu hv h=>by
  rcases zJ hu with ⟨i,t,rfl,rfl⟩ | ⟨x,t,rfl,rfl⟩
  ·rcases zJ hv with ⟨j,u,rfl,rfl⟩ | ⟨y,u,rfl,rfl⟩
   ·rw [zgU] at h; exact wpAny_eqBool_int h
   ·rw [zgW] at h; exact SeqAt.EqAt.int_str i t y u _ _ _ _ h
  ·rcases zJ hv with ⟨j,u,rfl,rfl⟩ | ⟨y,u,rfl,rfl⟩
   ·rw [zgX] at h; exact SeqAt.EqAt.str_int x t j u _ _ _ _ h
   ·rw [zgV] at h; exact wpAny_eqBool_str h
 «strs»:=fun k x t v h=>by
  rcases zJ h with ⟨i,u,rfl,e⟩ | ⟨y,u,rfl,e⟩
  ·exact nomatch e
  ·injection e with e1 _
   subst e1
   cases v <;> rfl
end L2
namespace L2
open PySem PySem.Spec PyProof.Rows
inductive V where
 | non | bl (b:Bool) | int (i:Int) | str (x:Str) | byt (b:Array UInt8) | flt (b:UInt64) | ref (a:Addr) | ty (n:String)
 deriving DecidableEq
def RelV:V→Value→Prop
 | .non,u=>u=Value.none
 | .bl b,u=>u=Value.bool b
 | .int i,u=>∃ t,u=Value.int i t
 | .str x,u=>∃ t,u=Value.str x t
 | .byt b,u=>∃ t,u=Value.bytes b t
 | .flt b,u=>∃ t,u=Value.float b t
 | .ref a,u=>u=Value.ref a
 | .ty n,u=>u=Value.type n
abbrev zt:List V→List Value→Prop:=Paired RelV
theorem zt.length {xs:List V} {us:List Value} (r:zt xs us):xs.length=us.length:=Paired.length r
theorem zt.get:∀ {xs:List V} {us:List Value} {i:Nat} {x:V},zt xs us→xs[i]? = some x→∃ u,us[i]? = some u∧RelV x u
 | _,_,_,_,.nil,e=>by simp at e
 | _,_,0,_,.cons r _,e=>by simp at e; subst e; exact⟨_,rfl,r⟩
 | _,_,i+1,x,.cons _ t,e=>by
  obtain⟨u,h1,h2⟩:=zt.get (i:=i) (x:=x) t (by simpa using e)
  exact⟨u,by simpa using h1,h2⟩
theorem zt.append:∀ {xs ys:List V} {us ws:List Value},zt xs us→zt ys ws→zt (xs++ys) (us++ws)
 | _,_,_,_,.nil,s=>s
 | _,_,_,_,.cons r t,s=>.cons r (zt.append t s)
theorem zt.take:∀ {xs:List V} {us:List Value} (n:Nat),zt xs us→zt (xs.take n) (us.take n)
 | _,_,0,_=>.nil
 | _,_,_+1,.nil=>.nil
 | _,_,n+1,.cons r t=>.cons r (zt.take n t)
theorem zt.drop:∀ {xs:List V} {us:List Value} (n:Nat),zt xs us→zt (xs.drop n) (us.drop n)
 | _,_,0,r=>r
 | _,_,_+1,.nil=>.nil
 | _,_,n+1,.cons _ t=>zt.drop n t
def zgY:Option V→Option Value→Prop
 | some v,some u=>RelV v u
 | none,none=>True
 | _,_=>False
def KV {κ:Type}:List (κ×V)→List (κ×Value)→Prop:=Paired fun (p:κ×V) (q:κ×Value)=>p.1=q.1∧RelV p.2 q.2
def kV:Key→V
 | .inl i=>.int i
 | .inr x=>.str x
inductive HO where
 | lst (xs:List V)
 | tup (xs:List V)
 | dK (kvs:List (Key×V)) | dT (kvs:List (List Key×V))
 | set (S:Int→Bool) (n:Nat)
 | ins (C dx:Addr) (fs:List (Str×V))
 | own (x:Addr)
 | xd (fs:List (Str×V))
 | met (f x:Addr)
 | rng (lo hi:Int)
 | frz (o:Obj) (u:HO)
 | tbl (ps:Array Value)
 | ext (φ:Heap→Prop)
abbrev Hp:=Addr→Option HO
def upd (H:Hp) (a:Addr) (o:HO):Hp:=fun b=>if b=a then some o else H b
theorem zc {H:Hp} {a:Addr} {o:HO}:upd H a o a=some o:=by unfold upd; rw [if_pos rfl]
theorem zm {H:Hp} {a b:Addr} {o:HO} (h:b≠a):upd H a o b=H b:=by unfold upd; rw [if_neg h]
theorem zv {H:Hp} {a b:Addr} {o:HO} (h:H a=some o) (h':H b=none):a≠b:=by
 intro e; subst e; rw [h] at h'; cases h'
section
variable (P:Program) (w:World)
def zS (H:Hp) (h:Heap) (a:Addr):HO→Prop
 | .lst xs=>xs.length≤sizeLine∧∃ (its:List Value) (n:Nat),zt xs its∧h.get? a=some { cls:=.type "list",data:=.seq its.toArray n }
 | .tup xs=>xs.length≤sizeLine∧∃ its:List Value,zt xs its∧IsTup h a its.toArray
 | .dK kvs=>kvs.length≤sizeLine∧(a == sysModules)=false∧∃ vs,KV kvs vs∧h.DictOf (zek P w) a vs
 | .dT kvs=>kvs.length≤sizeLine∧(a == sysModules)=false∧∃ xs:List (List Key×Addr×Value),
   Paired (fun (p:List Key×V) (q:List Key×Addr×Value)=>p.1=q.1∧H q.2.1=some (.tup (p.1.map kV))∧RelV p.2 q.2.2) kvs xs ∧
   ∃ o es ep,h.get? a=some o∧o.ExactDict∧o.data = .dict es ep∧es.toList=xs.map (entryOfKey (tupleKind (zek P w)))∧(xs.map (·.1)).Nodup
 | .set S n=>h.SetOf (intKind P w) a S n
 | .ins C dx fs=>H dx=some (.own a)∧fs.length≤1000∧dx≠a∧h.get? a=some (PySem.W.instObj C dx) ∧
   ∃ mA,h.Ns1 dx mA∧(∀ f,zgY (fs.lookup f) (mA f))∧PySem.Within mA (fs.map (·.1))
 | .own _=>∃ o,h.get? a=some o
 | .xd fs=>∃ mA,h.Ns1 a mA∧∀ f,zgY (fs.lookup f) (mA f)
 | .rng lo hi=>∃ t u v,h.get? a=some { cls:=.type "range",data:=.fields #[.int lo t,.int hi u,.int 1 v] }
 | .frz o u=>h.get? a=some o∧zS H h a u
 | .tbl ps=>h.get? a=some { cls:=.none,data:=.fields ps }
 | .met f x=>h.get? a=some (PySem.W.methodObj (.ref f) (.ref x))
 | .ext φ=>φ h∧(∃ o,h.get? a=some o)∧∀ h1 h2:Heap,φ h1→(∀ o,h1.get? a=some o→h2.get? a=some o)→φ h2
def HOk (H:Hp) (h:Heap):Prop:=∀ a o,H a=some o→zS P w H h a o
end
section
variable {P:Program} {w:World} {H H':Hp} {h h':Heap} {a:Addr} {o:HO}
theorem zS.lt (x:zS P w H h a o):a < h.objs.size:=by
 cases o with
 | lst xs=>obtain⟨_,_,_,_,e⟩:=x; exact Heap.lt_size e
 | tup xs=>obtain⟨_,_,_,p⟩:=x; exact p.lt
 | dK kvs=>obtain⟨_,_,_,_,o,_,_,e,_⟩:=x; exact Heap.lt_size e
 | dT kvs=>obtain⟨_,_,_,_,o,_,_,e,_⟩:=x; exact Heap.lt_size e
 | set S n=>obtain⟨o,_,_,_,e,_⟩:=x; exact Heap.lt_size e
 | ins C dx fs=>obtain⟨_,_,_,e,_⟩:=x; exact Heap.lt_size e
 | own y=>obtain⟨_,e⟩:=x; exact Heap.lt_size e
 | xd fs=>obtain⟨_,⟨_,_,_,e,_⟩,_⟩:=x; exact Heap.lt_size e
 | rng lo hi=>obtain⟨_,_,_,e⟩:=x; exact Heap.lt_size e
 | frz ob u=>obtain⟨e,_⟩:=x; exact Heap.lt_size e
 | tbl ps=>exact Heap.lt_size (show h.get? a=some _ from x)
 | met f y=>exact Heap.lt_size (show h.get? a=some _ from x)
 | ext φ=>obtain⟨_,⟨_,e⟩,_⟩:=x; exact Heap.lt_size e
theorem Paired.mapP {α β:Type} {F G:α→β→Prop}:∀ {l₁:List α} {l₂:List β},Paired F l₁ l₂→(∀ a b,F a b→G a b)→Paired G l₁ l₂
 | _,_,.nil,_=>.nil
 | _,_,.cons r t,f=>.cons (f _ _ r) (Paired.mapP t f)
theorem zS.stay (x:zS P w H h a o) (k:∀ b u,(b=a∨H b=some (.own a))→h.get? b=some u→h'.get? b=some u)
  (ho:∀ b,H b=some (.own a)→H' b=some (.own a)) (ht:∀ b xs,H b=some (.tup xs)→H' b=some (.tup xs)):zS P w H' h' a o:=by
 induction o with
 | lst xs=>obtain⟨z,its,n,r,e⟩:=x; exact⟨z,its,n,r,k _ _ (.inl rfl) e⟩
 | tup xs=>obtain⟨z,its,r,ob,e,c⟩:=x; exact⟨z,its,r,ob,k _ _ (.inl rfl) e,c⟩
 | dK kvs=>obtain⟨z,y,vs,r,ob,es,ep,e,c⟩:=x; exact⟨z,y,vs,r,ob,es,ep,k _ _ (.inl rfl) e,c⟩
 | dT kvs =>
  obtain⟨z,y,xs,r,ob,es,ep,e,c⟩:=x
  exact⟨z,y,xs,Paired.mapP r fun p q z=>⟨z.1,ht _ _ z.2.1,z.2.2⟩,ob,es,ep,k _ _ (.inl rfl) e,c⟩
 | set S n=>obtain⟨ob,es,ep,t,e,c⟩:=x; exact⟨ob,es,ep,t,k _ _ (.inl rfl) e,c⟩
 | ins C dx fs =>
  obtain⟨d,z,ne,e,mA,⟨od,es,ep,e2,c⟩,r⟩:=x
  exact⟨ho _ d,z,ne,k _ _ (.inl rfl) e,mA,⟨od,es,ep,k _ _ (.inr d) e2,c⟩,r⟩
 | own y=>obtain⟨ob,e⟩:=x; exact⟨ob,k _ _ (.inl rfl) e⟩
 | xd fs=>obtain⟨mA,⟨od,es,ep,e,c⟩,r⟩:=x; exact⟨mA,⟨od,es,ep,k _ _ (.inl rfl) e,c⟩,r⟩
 | rng lo hi=>obtain⟨t,u,v,e⟩:=x; exact⟨t,u,v,k _ _ (.inl rfl) e⟩
 | frz ob u ih=>obtain⟨e,q⟩:=x; exact⟨k _ _ (.inl rfl) e,ih q⟩
 | tbl ps =>
  have e:h.get? a=some { cls:=.none,data:=.fields ps }:=x
  show h'.get? a=some { cls:=.none,data:=.fields ps }
  exact k a _ (.inl rfl) e
 | met f y =>
  have e:h.get? a=some (PySem.W.methodObj (.ref f) (.ref y)):=x
  show h'.get? a=some (PySem.W.methodObj (.ref f) (.ref y))
  exact k a _ (.inl rfl) e
 | ext φ=>obtain⟨p,⟨o,e⟩,st⟩:=x; exact⟨st _ _ p fun o q=>k _ _ (.inl rfl) q,⟨o,k _ _ (.inl rfl) e⟩,st⟩
theorem HOk.lt (x:HOk P w H h) (e:H a=some o):a < h.objs.size:=(x a o e).lt
theorem HOk.fresh (x:HOk P w H h) (e:h.objs.size≤a):H a=none:=by
 cases q:H a with
 | none=>rfl
 | some u=>exact absurd (Nat.lt_of_lt_of_le (x.lt q) e) (Nat.lt_irrefl _)
theorem HOk.kept (x:HOk P w H h) (k:∀ b u,h.get? b=some u→h'.get? b=some u):HOk P w H h':=fun a o e =>
 (x a o e).stay (fun b u _ q=>k b u q) (fun _ q=>q) fun _ _ q=>q
theorem HOk.laid (x:HOk P w H h) (k:∀ b u,h.get? b=some u→h'.get? b=some u) (hp:h.objs.size≤a) (new:zS P w (upd H a o) h' a o):HOk P w (upd H a o) h':=fun b u e=>by
 have hn:=x.fresh hp
 by_cases hb:b=a
 ·subst hb; rw [zc] at e; cases e; exact new
 ·rw [zm hb] at e
  exact (x b u e).stay (fun c v _ q=>k c v q) (fun c q=>by rw [zm (zv q hn)]; exact q) fun c xs q=>by rw [zm (zv q hn)]; exact q
end
def Rd (H:Hp) (a:Addr) (u:HO):Prop:=H a=some u∨∃ o,H a=some (.frz o u)
theorem Rd.ok {P:Program} {w:World} {H:Hp} {h:Heap} {a:Addr} {u:HO} (r:Rd H a u) (x:HOk P w H h):zS P w H h a u:=by
 rcases r with r | ⟨o,r⟩
 ·exact x a u r
 ·obtain⟨_,q⟩:=x a _ r
  exact q
def Mut:Option HO→Prop
 | some (.lst _)=>True
 | some (.dK _)=>True
 | some (.dT _)=>True
 | some (.set _ _)=>True
 | some (.ins _ _ _)=>True
 | some (.ext _)=>True
 | _=>False
section
variable {P:Program} {w:World} {H:Hp} {h h':Heap} {x e:Addr} {o':HO}
theorem HOk.write (ok:HOk P w H h) (mu:Mut (H x)) (he:e=x∨H e=some (.own x)) (k:∀ b u,b≠e→h.get? b=some u→h'.get? b=some u) (heo:∃ u,h'.get? e=some u)
  (new:zS P w (upd H x o') h' x o'):HOk P w (upd H x o') h':=fun b u q=>by
 have nown:∀ c y,H c=some (.own y)→c≠x:=fun c y r z=>by subst z; rw [r] at mu; exact mu
 have ntup:∀ c xs,H c=some (.tup xs)→c≠x:=fun c xs r z=>by subst z; rw [r] at mu; exact mu
 by_cases hb:b=x
 ·subst hb; rw [zc] at q; cases q; exact new
 ·rw [zm hb] at q
  by_cases hbe:b=e
  ·have q':H b=some (.own x):=by
    rcases he with z | z
    ·exact absurd (hbe.trans z) hb
    ·rw [hbe]; exact z
   rw [q] at q'; cases q'
   obtain⟨v,hv⟩:=heo
   exact⟨v,by rw [hbe]; exact hv⟩
  ·refine (ok b u q).stay (fun c v hc r=>k c v ?_ r) (fun c r=>by rw [zm (nown c b r)]; exact r) fun c xs r=>by rw [zm (ntup c xs r)]; exact r
   rcases hc with rfl | hc
   ·exact hbe
   ·rintro rfl
    rcases he with z | z
    ·exact nown c b hc z
    ·rw [hc] at z; cases z; exact hb rfl
end
structure Un (fs ex:List Addr) (H H':Hp) (h h':Heap):Prop where
 keep:∀ b o,h.get? b=some o→H b=none→b∉fs→b∉ex→h'.get? b=some o
 slot:∀ b o,h.get? b=some o→H b=none→b∈fs→b∉ex→∃ sl,h'.get? b=some { o with slots:=sl }
 free:∀ b o,h.get? b=some o→H b=none→b∉ex→H' b=none
 there:∀ b o,h.get? b=some o→b∉ex→∃ o',h'.get? b=some o'
 tups:∀ b xs,H b=some (.tup xs)→H' b=some (.tup xs)
 frzs:∀ b o u,H b=some (.frz o u)→H' b=some (.frz o u)
 tbls:∀ b ps,H b=some (.tbl ps)→∃ more,H' b=some (.tbl (ps++more))
section
variable {fs fs' ex ex':List Addr} {H H1 H2:Hp} {h h1 h2 h':Heap} {a x e:Addr} {o:HO}
theorem Un.any (u:Un fs ex H H1 h h1) {b:Addr} {ob:Obj} (q:h.get? b=some ob) (n:H b=none) (hx:b∉ex):∃ sl,h1.get? b=some { ob with slots:=sl }:=by
 by_cases hb:b∈fs
 ·exact u.slot b ob q n hb hx
 ·exact⟨ob.slots,u.keep b ob q n hb hx⟩
theorem Un.kept (k:∀ b u,h.get? b=some u→h'.get? b=some u):Un fs ex H H h h' :=
 ⟨fun b ob q _ _ _=>k b ob q,fun b ob q _ _ _=>⟨ob.slots,k b ob q⟩,fun _ _ _ n _=>n,fun b ob q _=>⟨ob,k b ob q⟩,fun _ _ q=>q,fun _ _ _ q=>q,fun _ ps q=>⟨#[],by rw [q]; simp⟩⟩
theorem Un.refl:Un fs ex H H h h:=Un.kept fun _ _ q=>q
theorem Un.laid (k:∀ b u,h.get? b=some u→h'.get? b=some u) (hp:h.objs.size≤a) (hn:H a=none):Un fs ex H (upd H a o) h h' where
 keep:=fun b u q _ _ _=>k b u q
 slot:=fun b u q _ _ _=>⟨u.slots,k b u q⟩
 free:=fun b u q n _=>by rw [zm (Nat.ne_of_lt (Nat.lt_of_lt_of_le (Heap.lt_size q) hp))]; exact n
 there:=fun b u q _=>⟨u,k b u q⟩
 tups:=fun b xs q=>by rw [zm (zv q hn)]; exact q
 frzs:=fun b u xs q=>by rw [zm (zv q hn)]; exact q
 tbls:=fun b ps q=>⟨#[],by rw [zm (zv q hn),q]; simp⟩
theorem Un.write (mu:Mut (H x)) (he:e=x∨H e=some (.own x)) (k:∀ b u,b≠e→h.get? b=some u→h'.get? b=some u) (heo:∃ u,h'.get? e=some u):Un fs ex H (upd H x o) h h':=by
 have hx:∀ b,H b=none→b≠x:=fun b n z=>by subst z; rw [n] at mu; exact mu
 have hb:∀ b,H b=none→b≠e:=fun b n z=>by
  subst z
  rcases he with r | r
  ·exact hx b n r
  ·rw [n] at r; cases r
 have hm:∀ b u,H b=some u→¬ Mut (some u)→b≠x:=fun b u q nm z=>by subst z; rw [q] at mu; exact nm mu
 refine⟨fun b u q n _ _=>k b u (hb b n) q,fun b u q n _ _=>⟨u.slots,k b u (hb b n) q⟩,fun b u q n _=>by rw [zm (hx b n)]; exact n,fun b u q _=>?_,
  fun b xs q=>by rw [zm (hm b _ q fun z=>z)]; exact q,fun b u xs q=>by rw [zm (hm b _ q fun z=>z)]; exact q,fun b ps q=>⟨#[],by rw [zm (hm b _ q fun z=>z),q]; simp⟩⟩
 by_cases hbe:b=e
 ·subst hbe; exact heo
 ·exact⟨u,k b u hbe q⟩
end
def trk (h:Heap) (H:Hp):List Addr:=(List.range h.objs.size).filter fun a=>(H a).isSome
def zc3 (h:Heap) (H:Hp):Heap:=PySem.W.hideAll h (trk h H)
theorem zeO (h:Heap) (H:Hp):(zc3 h H).objs.size=h.objs.size:=PySem.W.hideAll_size _ _
theorem zfs {h:Heap} {H:Hp} {b:Addr} {o:Obj} (e:h.get? b=some o) (n:H b=none):(zc3 h H).get? b=some o :=
 PySem.W.hideAll_get _ e fun hm=>by
  have q:(H b).isSome=true:=(List.mem_filter.mp hm).2
  rw [n] at q; simp at q
theorem zgf {h:Heap} {H:Hp} {b:Addr} {o:Obj} (e:(zc3 h H).get? b=some o):h.get? b=some o∧H b=none:=by
 have e':h.get? b=some o:=PySem.W.of_hideAll (trk h H) e
 refine⟨e',?_⟩
 cases q:H b with
 | none=>rfl
 | some x =>
  have hm:b∈trk h H:=List.mem_filter.mpr ⟨List.mem_range.mpr (Heap.lt_size e'),by simp [q]⟩
  have z:(zc3 h H).get? b=none:=PySem.W.hideAll_none (trk h H) hm
  rw [z] at e; cases e
end L2
namespace L2
open PySem PySem.Spec PyProof.Rows
structure Mod (K:PySem.W.Frag) (mg:Str→Option Value) (base:Heap):Prop where
 kin:K.In base
 glob:base.Ns mainGlobals mg
 blt:∃ mb,base.Ns builtinsNs mb∧∀ x:Str,x≠"__name__"→mb x=bootBuiltins x
 nolimit:base.NoLimit
structure Cx where
 prog:Program
 w:World
 K:PySem.W.Frag
 mg:Str→Option Value
 base:Heap
 A:Around
 N:List Str
 s₀:Shared
 H₀:Hp
 env:Env
 outer:List Env
 stack:List Env
 ex:List Addr
 fn:Str→Bool
 calm:Bool
 pn:List (Addr×Obj)
 xe:Value→Shared→Prop
def frs (l:List Env):List Addr:=l.filterMap (·.frame)
abbrev Cx.fs (X:Cx):List Addr:=frs X.outer
def Vis (sc:Scope) (x:Str):Prop:=sc.names.lookup x=some .local∨sc.names.lookup x=some .cell∨sc.names.lookup x=some .free
def Loc (sc:Scope) (x:Str):Prop:=sc.names.lookup x=some .local∨sc.names.lookup x=some .cell
def Look (env:Env) (h:Heap) (m:Str→Option Value) (x:Str) (u:Value):Prop :=
 (env.kindOf x=some .local∧m x=some u)∨((env.kindOf x=some .cell∨env.kindOf x=some .free)∧∃ c,env.cells.lookup x=some c∧h.IsCell c (some u))
structure Cx.Ok (X:Cx):Prop where
 mod:Mod X.K X.mg X.base
 kind:X.env.scope.kind = .function
 glob:X.env.globals=mainGlobals
 blt:X.env.builtins=builtinsNs
 above:X.s₀.heap.objs.size≤X.env.locals
 inj:∀ x y c,X.env.cells.lookup x=some c→X.env.cells.lookup y=some c→x=y
 has:∀ x,(X.env.kindOf x=some .cell∨X.env.kindOf x=some .free)→∃ c,X.env.cells.lookup x=some c
 cab:∀ x c,X.fn x=true→X.env.cells.lookup x=some c→X.s₀.heap.objs.size≤c
 hd:X.calm=true→X.A.handled=none
 frames:X.A.frames=some X.stack
 stk:X.stack=X.outer∨(X.stack=X.env :: X.outer∧X.env.frame=some X.env.locals)
 exf:∀ b∈X.ex,b≠X.env.locals∧∀ x c,X.env.cells.lookup x=some c→c≠b
 bs:∀ b o,X.base.get? b=some o→X.s₀.heap.get? b=some o∧X.H₀ b=none
 bsz:X.base.objs.size≤X.s₀.heap.objs.size
 noex:∀ b o,X.base.get? b=some o→b∉X.ex
 exfs:∀ b∈X.ex,b∉X.fs
 funs:X.s₀.heap.FunFrames X.base X.outer
 frf:∀ b∈X.fs,X.H₀ b=none
structure Inv (X:Cx) (pins:List (Addr×Obj)) (σ:List (Option V)) (H:Hp) (s:Shared):Prop where
 ok:X.Ok
 os:s.os=X.s₀.os
 bare:AllBare s.gens
 base:Un X.fs X.ex X.H₀ H X.s₀.heap s.heap
 loc:∃ m,s.heap.Ns X.env.locals m∧∀ (i:Nat) (x:Str) (v:V),X.N[i]? = some x→σ[i]? = some (some v)→Vis X.env.scope x→∃ u,RelV v u∧Look X.env s.heap m x u
 cell:∀ x c,X.env.cells.lookup x=some c→∃ v,s.heap.IsCell c v
 free:H X.env.locals=none
 freeC:∀ x c,X.env.cells.lookup x=some c→H c=none
 pin:∀ p∈X.pn++pins,s.heap.get? p.1=some p.2∧H p.1=none∧p.1≠X.env.locals∧p.1∉X.fs∧∀ v,p.2.data≠.cell v
 hok:HOk X.prog X.w H s.heap
 len:σ.length=X.N.length
section
variable {X:Cx} {pins:List (Addr×Obj)} {σ:List (Option V)} {H H':Hp} {s:Shared} {h':Heap}
theorem Cx.Ok.nofr (ok:X.Ok) {b:Addr} {o:Obj} (e:X.base.get? b=some o):b∉X.fs:=fun hb=>by
 have:=(ok.funs.mem hb).1
 rw [e] at this; cases this
theorem Inv.bs (I:Inv X pins σ H s):∀ b o,X.base.get? b=some o→s.heap.get? b=some o∧H b=none:=fun b o e =>
 ⟨I.base.keep b o (I.ok.bs b o e).1 (I.ok.bs b o e).2 (I.ok.nofr e) (I.ok.noex b o e),I.base.free b o (I.ok.bs b o e).1 (I.ok.bs b o e).2 (I.ok.noex b o e)⟩
theorem Inv.bk (I:Inv X pins σ H s):∀ b o,X.base.get? b=some o→s.heap.get? b=some o:=fun b o e=>(I.bs b o e).1
theorem Inv.mod (I:Inv X pins σ H s):Mod X.K X.mg X.base:=I.ok.mod
theorem Inv.kIn (I:Inv X pins σ H s):X.K.In s.heap:=I.ok.mod.kin.keeps I.bk
theorem Inv.lt (I:Inv X pins σ H s):X.env.locals < s.heap.objs.size:=let ⟨_,hn,_⟩:=I.loc; hn.lt
theorem Inv.sz (I:Inv X pins σ H s):X.s₀.heap.objs.size≤s.heap.objs.size:=Nat.le_trans I.ok.above (Nat.le_of_lt I.lt)
theorem Inv.nofs (I:Inv X pins σ H s) {a:Addr} (h:s.heap.objs.size≤a):a∉X.fs:=fun hb=>by
 obtain⟨_,o,ho,_⟩:=I.ok.funs.mem hb
 exact absurd (Nat.lt_of_lt_of_le (Heap.lt_size ho) (Nat.le_trans I.sz h)) (Nat.lt_irrefl _)
theorem Inv.cne (I:Inv X pins σ H s):∀ x c,X.env.cells.lookup x=some c→c≠X.env.locals:=fun x c e z=>by
 obtain⟨v,o,ho,hd⟩:=I.cell x c e
 obtain⟨m,⟨o',es,ep,ho',hd',_⟩,_⟩:=I.loc
 rw [z,ho'] at ho; cases ho; rw [hd'] at hd; cases hd
theorem Inv.funs (I:Inv X pins σ H s):s.heap.FunFrames X.base X.outer:=by
 have all:∀ (l:List Env),(∀ b∈frs l,b∈X.fs)→X.s₀.heap.FunFrames X.base l→s.heap.FunFrames X.base l:=by
  intro l
  induction l with
  | nil=>intro _ _; trivial
  | cons env r ih =>
   intro hs hl
   obtain⟨hk,⟨L,o,hf,hn,ho,hd⟩,hr⟩:=hl
   have hL:L∈X.fs:=hs L (by unfold frs; rw [List.filterMap_cons,hf]; exact List.mem_cons_self)
   obtain⟨sl,e⟩:=I.base.slot L o ho (I.ok.frf L hL) hL fun z=>I.ok.exfs L z hL
   exact⟨hk,⟨L,_,hf,hn,e,hd⟩,ih (fun b hb=>hs b (by unfold frs; rw [List.filterMap_cons,hf]; exact List.mem_cons_of_mem _ hb)) hr⟩
 exact all X.outer (fun _ hb=>hb) I.ok.funs
theorem Inv.stack (I:Inv X pins σ H s):s.heap.FunFrames X.base X.stack:=by
 rcases I.ok.stk with e | ⟨e,hf⟩
 ·rw [e]; exact I.funs
 ·rw [e]
  obtain⟨m,hn,_⟩:=I.loc
  refine .cons (by rw [I.ok.kind]; decide) hf hn ?_ I.funs
  exact Heap.get?_none_of_le (Nat.le_trans I.ok.bsz I.ok.above)
theorem Inv.stkSub (I:Inv X pins σ H s):∀ b∈frs X.stack,b∈X.env.locals :: X.fs:=fun b hb=>by
 rcases I.ok.stk with e | ⟨e,hf⟩
 ·rw [e] at hb; exact List.mem_cons_of_mem _ hb
 ·rw [e] at hb
  unfold frs at hb
  rw [List.filterMap_cons,hf] at hb
  exact hb
theorem Inv.stkFree (I:Inv X pins σ H s):∀ b∈frs X.stack,H b=none:=fun b hb=>by
 rcases List.mem_cons.mp (I.stkSub b hb) with e | hb
 ·rw [e]; exact I.free
 ·obtain⟨_,o,ho,_⟩:=I.ok.funs.mem hb
  exact I.base.free b o ho (I.ok.frf b hb) fun z=>I.ok.exfs b z hb
theorem Inv.step {g':Array GenState} {t':Nat} {d':Drawn} {ch:List Addr} (I:Inv X pins σ H s)
  (hch:∀ b∈ch,(b∈X.ex∨X.s₀.heap.objs.size≤b)∧b≠X.env.locals∧(∀ x c,X.env.cells.lookup x=some c→c≠b)∧∀ p∈X.pn++pins,p.1≠b)
  (keep:∀ b o,b≠X.env.locals→b∉X.fs→b∉ch→s.heap.get? b=some o→H b=none→h'.get? b=some o)
  (slot:∀ b o,b≠X.env.locals→b∈X.fs→b∉ch→s.heap.get? b=some o→H b=none→∃ sl,h'.get? b=some { o with slots:=sl }) (free:∀ b o,b∉ch→s.heap.get? b=some o→H b=none→H' b=none)
  (there:∀ b o,b∉ch→s.heap.get? b=some o→∃ o',h'.get? b=some o')
  (tups:∀ b xs,H b=some (.tup xs)→H' b=some (.tup xs)) (frzs:∀ b o u,H b=some (.frz o u)→H' b=some (.frz o u)) (tbls:∀ b ps,H b=some (.tbl ps)→∃ more,H' b=some (.tbl (ps++more)))
  (ns:∀ m,s.heap.Ns X.env.locals m→h'.Ns X.env.locals m) (hok:HOk X.prog X.w H' h') (hg:AllBare g') :
  Inv X pins σ H' { s with heap:=h',gens:=g',drawn:=d',toks:=t' }:=by
 have neL:∀ b o,X.s₀.heap.get? b=some o→b≠X.env.locals:=fun b o e=>Nat.ne_of_lt (Nat.lt_of_lt_of_le (Heap.lt_size e) I.ok.above)
 have neC:∀ b o,X.s₀.heap.get? b=some o→b∉X.ex→b∉ch:=fun b o e hx hb=>by
  rcases (hch b hb).1 with z | z
  ·exact hx z
  ·exact absurd (Nat.lt_of_lt_of_le (Heap.lt_size e) z) (Nat.lt_irrefl _)
 have cellK:∀ x c,X.env.cells.lookup x=some c→∀ v,s.heap.IsCell c v→h'.IsCell c v:=fun x c e v ⟨o,ho,hd⟩=>by
  have nch:c∉ch:=fun z=>(hch c z).2.2.1 x c e rfl
  by_cases hc:c∈X.fs
  ·obtain⟨sl,q⟩:=slot c o (I.cne x c e) hc nch ho (I.freeC x c e)
   exact⟨_,q,hd⟩
  ·exact⟨o,keep c o (I.cne x c e) hc nch ho (I.freeC x c e),hd⟩
 refine⟨I.ok,I.os,hg,⟨fun b o e n hb hx=>?_,fun b o e n hb hx=>?_,fun b o e n hx=>?_,fun b o e hx=>?_,fun b xs e=>tups b xs (I.base.tups b xs e),fun b o xs e=>frzs b o xs (I.base.frzs b o xs e),fun b ps e=>?_⟩,?_,fun x c e=>?_,?_,fun x c e=>?_,fun p hp=>?_,hok,I.len⟩
 ·exact keep b o (neL b o e) hb (neC b o e hx) (I.base.keep b o e n hb hx) (I.base.free b o e n hx)
 ·obtain⟨sl,e1⟩:=I.base.slot b o e n hb hx
  obtain⟨sl',e2⟩:=slot b _ (neL b o e) hb (neC b o e hx) e1 (I.base.free b o e n hx)
  exact⟨sl',e2⟩
 ·obtain⟨o',e1⟩:=I.base.there b o e hx
  exact free b o' (neC b o e hx) e1 (I.base.free b o e n hx)
 ·obtain⟨o',e1⟩:=I.base.there b o e hx
  exact there b o' (neC b o e hx) e1
 ·obtain⟨m1,e1⟩:=I.base.tbls b ps e
  obtain⟨m2,e2⟩:=tbls b _ e1
  exact⟨m1++m2,by rw [e2,Array.append_assoc]⟩
 ·obtain⟨m,hn,hl⟩:=I.loc
  refine⟨m,ns m hn,fun i x v e1 e2 e3=>?_⟩
  obtain⟨u,r,l⟩:=hl i x v e1 e2 e3
  refine⟨u,r,?_⟩
  rcases l with l | ⟨k,c,e,z⟩
  ·exact .inl l
  ·exact .inr ⟨k,c,e,cellK x c e _ z⟩
 ·obtain⟨v,z⟩:=I.cell x c e
  exact⟨v,cellK x c e v z⟩
 ·obtain⟨m,⟨o,_,_,ho,_⟩,_⟩:=I.loc
  exact free _ o (fun z=>(hch _ z).2.1 rfl) ho I.free
 ·obtain⟨v,o,ho,hd⟩:=I.cell x c e
  exact free c o (fun z=>(hch c z).2.2.1 x c e rfl) ho (I.freeC x c e)
 ·obtain⟨e,n,ne,nf,d⟩:=I.pin p hp
  have nch:p.1∉ch:=fun z=>(hch p.1 z).2.2.2 p hp rfl
  exact⟨keep p.1 p.2 ne nf nch e n,free p.1 p.2 nch e n,ne,nf,d⟩
theorem Inv.un {t':Nat} (I:Inv X pins σ H s) (u:Un X.fs [] H H' s.heap h') (hok:HOk X.prog X.w H' h'):Inv X pins σ H' { s with heap:=h',toks:=t' }:=by
 obtain⟨m,⟨o,es,ep,ho,r⟩,_⟩:=id I.loc
 obtain⟨sl,hL⟩:=u.any ho I.free (by simp)
 exact I.step (g':=s.gens) (d':=s.drawn) (ch:=[]) (fun _ z=>nomatch z) (fun b o _ hb _ e n=>u.keep b o e n hb (by simp)) (fun b o _ hb _ e n=>u.slot b o e n hb (by simp)) (fun b o _ e n=>u.free b o e n (by simp)) (fun b o _ e=>u.there b o e (by simp)) u.tups u.frzs u.tbls (fun m' hm=>by
  obtain⟨o',es',ep',ho',r'⟩:=hm
  rw [ho] at ho'; cases ho'
  exact⟨_,es',ep',hL,r'⟩) hok I.bare
theorem Inv.call {g':Array GenState} {t':Nat} {d':Drawn} {ch:List Addr} (I:Inv X pins σ H s) (u:Un (frs X.stack) ch H H' s.heap h') (hok:HOk X.prog X.w H' h') (hg:AllBare g')
  (hch:∀ b∈ch,(b∈X.ex∨X.s₀.heap.objs.size≤b)∧b≠X.env.locals∧(∀ x c,X.env.cells.lookup x=some c→c≠b)∧∀ p∈X.pn++pins,p.1≠b) :
  Inv X pins σ H' { s with heap:=h',gens:=g',drawn:=d',toks:=t' }:=by
 obtain⟨m,⟨o,es,ep,ho,r⟩,_⟩:=id I.loc
 obtain⟨sl,hL⟩:=u.any ho I.free fun z=>(hch _ z).2.1 rfl
 exact I.step (ch:=ch) hch (fun b o hL hb hc e n=>u.keep b o e n (fun z=>(List.mem_cons.mp (I.stkSub b z)).elim hL hb) hc) (fun b o _ _ hc e n=>u.any e n hc) (fun b o hc e n=>u.free b o e n hc) (fun b o hc e=>u.there b o e hc) u.tups u.frzs u.tbls (fun m' hm=>by
  obtain⟨o',es',ep',ho',r'⟩:=hm
  rw [ho] at ho'; cases ho'
  exact⟨_,es',ep',hL,r'⟩) hok hg
theorem Inv.turned {t':Nat} {it:Addr} (I:Inv X pins σ H s) (k:∀ b o,b≠it→s.heap.get? b=some o→h'.get? b=some o) (hn:H it=none) (hL:it≠X.env.locals)
  (h1:it∈X.ex∨X.s₀.heap.objs.size≤it) (h2:∀ x c,X.env.cells.lookup x=some c→c≠it) (h3:∀ p∈X.pn++pins,p.1≠it):Inv X pins σ H { s with heap:=h',toks:=t' }:=by
 have nit:∀ b u,H b=some u→b≠it:=fun b u e z=>by rw [z,hn] at e; cases e
 refine I.step (g':=s.gens) (d':=s.drawn) (ch:=[it]) (fun b hb=>?_) (fun b o _ _ hc e _=>k b o (fun z=>hc (by simp [z])) e) (fun b o _ _ hc e _=>⟨o.slots,k b o (fun z=>hc (by simp [z])) e⟩) (fun _ _ _ _ n=>n)
  (fun b o hc e=>⟨o,k b o (fun z=>hc (by simp [z])) e⟩) (fun _ _ e=>e) (fun _ _ _ e=>e) (fun b ps e=>⟨#[],by rw [e]; simp⟩) (fun m hm=>?_) (fun b u e=>?_) I.bare
 ·have e:b=it:=by simpa using hb
  subst e
  exact⟨h1,hL,h2,h3⟩
 ·obtain⟨o,es,ep,ho,r⟩:=hm
  exact⟨o,es,ep,k _ o (Ne.symm hL) ho,r⟩
 ·refine (I.hok b u e).stay (fun c v hc q=>k c v ?_ q) (fun _ q=>q) fun _ _ q=>q
  rcases hc with z | z
  ·rw [z]; exact nit b u e
  ·exact nit c _ z
theorem Inv.tok (I:Inv X pins σ H s) (t:Nat):Inv X pins σ H { s with toks:=t }:=I.un (h':=s.heap) (t':=t) Un.refl I.hok
theorem Inv.kept {t':Nat} (I:Inv X pins σ H s) (k:∀ b u,s.heap.get? b=some u→h'.get? b=some u):Inv X pins σ H { s with heap:=h',toks:=t' }:=I.un (Un.kept k) (I.hok.kept k)
theorem Inv.laid {a:Addr} {o:HO} {t':Nat} (I:Inv X pins σ H s) (k:∀ b u,s.heap.get? b=some u→h'.get? b=some u) (hp:s.heap.objs.size≤a) (new:zS X.prog X.w (upd H a o) h' a o) :
  Inv X pins σ (upd H a o) { s with heap:=h',toks:=t' }:=I.un (Un.laid k hp (I.hok.fresh hp)) (I.hok.laid k hp new)
theorem Inv.write {x e:Addr} {o:HO} {t':Nat} (I:Inv X pins σ H s) (mu:Mut (H x)) (he:e=x∨H e=some (.own x)) (k:∀ b u,b≠e→s.heap.get? b=some u→h'.get? b=some u) (heo:∃ u,h'.get? e=some u)
  (new:zS X.prog X.w (upd H x o) h' x o):Inv X pins σ (upd H x o) { s with heap:=h',toks:=t' }:=I.un (Un.write mu he k heo) (I.hok.write mu he k heo new)
theorem Inv.weak {σ':List (Option V)} (I:Inv X pins σ H s) (hl:σ'.length=σ.length) (w:∀ (i:Nat) v,σ'[i]? = some (some v)→σ[i]? = some (some v)):Inv X pins σ' H s :=
 ⟨I.ok,I.os,I.bare,I.base,let ⟨m,hn,hl'⟩:=I.loc; ⟨m,hn,fun i x v e1 e2 e3=>hl' i x v e1 (w i v e2) e3⟩,I.cell,I.free,I.freeC,I.pin,I.hok,hl.trans I.len⟩
theorem Inv.pins_of {pins':List (Addr×Obj)} (I:Inv X pins σ H s) (h:∀ p∈pins',s.heap.get? p.1=some p.2∧H p.1=none∧p.1≠X.env.locals∧p.1∉X.fs∧∀ v,p.2.data≠.cell v):Inv X pins' σ H s :=
 ⟨I.ok,I.os,I.bare,I.base,I.loc,I.cell,I.free,I.freeC,fun p hp=>(List.mem_append.mp hp).elim (fun z=>I.pin p (List.mem_append_left _ z)) (h p),I.hok,I.len⟩
theorem zds {N:List Str} (hN:N.Nodup) {i j:Nat} {x:Str} (a:N[i]? = some x) (b:N[j]? = some x):i=j:=by
 obtain⟨h1,e1⟩:=List.getElem?_eq_some_iff.mp a
 obtain⟨h2,e2⟩:=List.getElem?_eq_some_iff.mp b
 exact (List.getElem_inj hN).mp (e1.trans e2.symm)
theorem zeP {M:Model} {A:Around} {E:Value→Shared→Prop} {i:Nat} {x:Str} {v:V} {u:Value} {Q:Unit→Shared→Prop} (I:Inv X pins σ H s) (hN:X.N.Nodup) (hi:X.N[i]? = some x) (hx:Loc X.env.scope x) (r:RelV v u)
  (h:∀ s',Inv X pins (σ.set i (some v)) H s'→(∃ a,Heap.SameBut a s.heap s'.heap∧(a=X.env.locals∨X.env.cells.lookup x=some a))→Q () s') (hf:X.fn x=true∨X.env.scope.names.lookup x=some .local:=by first | exact .inl rfl | exact .inr rfl | assumption):wpAny M A (storeName X.env x u) Q E s:=by
 obtain⟨m,hn,hl⟩:=id I.loc
 have hcls:(X.env.scope.kind == .class || (X.env.scope.kind == .module && X.env.locals != X.env.globals))=false:=by rw [I.ok.kind]; rfl
 have hiσ:i < σ.length:=by rw [I.len]; exact (List.getElem?_eq_some_iff.mp hi).1
 have cne:=I.cne
 have tracked:∀ {a:Addr} {h':Heap},(∃ o,s.heap.get? a=some o∧H a=none)→Heap.SameBut a s.heap h'→HOk X.prog X.w H h':=fun {a h'} ha hs b ob e=>by
  obtain⟨_,_,hfree⟩:=ha
  refine (I.hok b ob e).stay (fun c w' hc q=>(hs.2 c ?_).trans q) (fun _ q=>q) fun _ _ q=>q
  rintro rfl
  rcases hc with rfl | hc
  ·rw [hfree] at e; cases e
  ·rw [hfree] at hc; cases hc
 rcases hx with hk | hk
 ·refine wpAny_storeName_local hk hn (fun h' hn' hs=>?_) hcls
  obtain⟨oL,_,_,hoL,_⟩:=id hn
  refine h _ ⟨I.ok,I.os,I.bare,⟨fun b o e n hb hx=>?_,fun b o e n hb hx=>?_,I.base.free,fun b o e hx=>?_,I.base.tups,I.base.frzs,I.base.tbls⟩,⟨_,hn',fun j y v' e1 e2 e3=>?_⟩,fun y c e=>?_,I.free,I.freeC,fun p hp=>?_,tracked ⟨oL,hoL,I.free⟩ hs,by simpa using I.len⟩ ⟨_,hs,.inl rfl⟩
  ·exact (hs.2 b (Nat.ne_of_lt (Nat.lt_of_lt_of_le (Heap.lt_size e) I.ok.above))).trans (I.base.keep b o e n hb hx)
  ·obtain⟨sl,e1⟩:=I.base.slot b o e n hb hx
   exact⟨sl,(hs.2 b (Nat.ne_of_lt (Nat.lt_of_lt_of_le (Heap.lt_size e) I.ok.above))).trans e1⟩
  ·obtain⟨o',e1⟩:=I.base.there b o e hx
   exact⟨o',(hs.2 b (Nat.ne_of_lt (Nat.lt_of_lt_of_le (Heap.lt_size e) I.ok.above))).trans e1⟩
  ·by_cases hj:j=i
   ·subst hj
    rw [hi] at e1; cases e1
    rw [List.getElem?_set_self hiσ] at e2
    cases e2
    exact⟨u,r,.inl ⟨hk,by simp⟩⟩
   ·rw [List.getElem?_set_ne (Ne.symm hj)] at e2
    obtain⟨u',r',q⟩:=hl j y v' e1 e2 e3
    refine⟨u',r',?_⟩
    rcases q with ⟨k,e⟩ | ⟨k,c,e,z⟩
    ·refine .inl ⟨k,?_⟩
     have:y≠x:=fun e=>hj (zds hN e1 (e ▸ hi))
     simp [this,e]
    ·exact .inr ⟨k,c,e,z.sameBut hs (cne y c e)⟩
  ·obtain⟨w',z⟩:=I.cell y c e
   exact⟨w',z.sameBut hs (cne y c e)⟩
  ·obtain⟨e,n,ne,nf,d⟩:=I.pin p hp
   exact⟨(hs.2 p.1 ne).trans e,n,ne,nf,d⟩
 ·have hfn:X.fn x=true:=by
   rcases hf with z | z
   ·exact z
   ·rw [z] at hk; cases hk
  obtain⟨c,hc⟩:=I.ok.has x (.inl hk)
  obtain⟨w',z⟩:=I.cell x c hc
  refine wpAny_storeName_cell I.ok.kind hk hc z (fun h' hc' hs=>?_)
  obtain⟨oc,hoc,hocd⟩:=id z
  refine h { s with heap:=h' } ⟨I.ok,I.os,I.bare,⟨fun b o e n hb hx=>?_,fun b o e n hb hx=>?_,I.base.free,fun b o e hx=>?_,I.base.tups,I.base.frzs,I.base.tbls⟩,⟨m,hn.sameBut hs (Ne.symm (cne x c hc)),fun j y v' e1 e2 e3=>?_⟩,fun y c' e=>?_,I.free,I.freeC,fun p hp=>?_,tracked ⟨oc,hoc,I.freeC x c hc⟩ hs,by simpa using I.len⟩ ⟨c,hs,.inr hc⟩
  ·exact (hs.2 b (Nat.ne_of_lt (Nat.lt_of_lt_of_le (Heap.lt_size e) (I.ok.cab x c hfn hc)))).trans (I.base.keep b o e n hb hx)
  ·obtain⟨sl,e1⟩:=I.base.slot b o e n hb hx
   exact⟨sl,(hs.2 b (Nat.ne_of_lt (Nat.lt_of_lt_of_le (Heap.lt_size e) (I.ok.cab x c hfn hc)))).trans e1⟩
  ·obtain⟨o',e1⟩:=I.base.there b o e hx
   exact⟨o',(hs.2 b (Nat.ne_of_lt (Nat.lt_of_lt_of_le (Heap.lt_size e) (I.ok.cab x c hfn hc)))).trans e1⟩
  ·by_cases hj:j=i
   ·subst hj
    rw [hi] at e1; cases e1
    rw [List.getElem?_set_self hiσ] at e2
    cases e2
    exact⟨u,r,.inr ⟨.inl hk,c,hc,hc'⟩⟩
   ·rw [List.getElem?_set_ne (Ne.symm hj)] at e2
    obtain⟨u',r',q⟩:=hl j y v' e1 e2 e3
    refine⟨u',r',?_⟩
    rcases q with q | ⟨k,c',e,z'⟩
    ·exact .inl q
    ·refine .inr ⟨k,c',e,z'.sameBut hs ?_⟩
     rintro rfl
     exact hj (zds hN e1 (I.ok.inj _ _ _ e hc ▸ hi))
  ·by_cases hcc:c'=c
   ·subst hcc; exact⟨_,hc'⟩
   ·obtain⟨w2,z2⟩:=I.cell y c' e
    exact⟨w2,z2.sameBut hs hcc⟩
  ·obtain⟨e,n,ne,nf,d⟩:=I.pin p hp
   refine⟨(hs.2 p.1 ?_).trans e,n,ne,nf,d⟩
   intro q
   rw [q,hoc] at e
   have q':oc=p.2:=Option.some.inj e
   exact d w' (by rw [← q']; exact hocd)
theorem zdt {M:Model} {A:Around} {E:Value→Shared→Prop} {i:Nat} {x:Str} {v:V} {u:Value} {Q:Unit→Shared→Prop} (I:Inv X pins σ H s) (hN:X.N.Nodup) (hi:X.N[i]? = some x) (hx:Loc X.env.scope x) (r:RelV v u)
  (h:∀ s',Inv X pins (σ.set i (some v)) H s'→Q () s') (hf:X.fn x=true∨X.env.scope.names.lookup x=some .local:=by first | exact .inl rfl | exact .inr rfl | assumption):wpAny M A (storeName X.env x u) Q E s :=
 zeP I hN hi hx r (fun s' I' _=>h s' I') hf
theorem Inv.call' {s':Shared} {ch:List Addr} (I:Inv X pins σ H s) (ho:s'.os=s.os) (u:Un (frs X.stack) ch H H' s.heap s'.heap) (hok:HOk X.prog X.w H' s'.heap) (hg:AllBare s'.gens)
  (hch:∀ b∈ch,(b∈X.ex∨X.s₀.heap.objs.size≤b)∧b≠X.env.locals∧(∀ x c,X.env.cells.lookup x=some c→c≠b)∧∀ p∈X.pn++pins,p.1≠b):Inv X pins σ H' s':=by
 obtain⟨h',g',d',t',o'⟩:=s'
 have e:o'=s.os:=ho
 subst e
 exact I.call (g':=g') (t':=t') (d':=d') u hok hg hch
end
abbrev XK:=Value→Option Addr→Hp→Prop
abbrev St:=List (Option V)
abbrev VK:=V→Hp→Prop
abbrev TE:=St→Hp→VK→Prop
abbrev TT:=St→Hp→(Bool→Hp→Prop)→Prop
abbrev TA:=St→Hp→(List V→Hp→Prop)→Prop
structure Ends where
 nx:St→Hp→Prop
 rt:VK
 bk:St→Hp→Prop:=fun _ _=>False
 ct:St→Hp→Prop:=fun _ _=>False
abbrev TS:=Ends→St→Hp→Prop
def EP (X:Cx) (pins:List (Addr×Obj)) (σ:St) (Q:VK) (u:Value) (s':Shared):Prop:=∃ v H',Inv X pins σ H' s'∧RelV v u∧Q v H'
def TP (X:Cx) (pins:List (Addr×Obj)) (σ:St) (Q:Bool→Hp→Prop) (b:Bool) (s':Shared):Prop:=∃ H',Inv X pins σ H' s'∧Q b H'
def AP (X:Cx) (pins:List (Addr×Obj)) (σ:St) (Q:List V→Hp→Prop) (us:List Value) (s':Shared):Prop:=∃ vs H',Inv X pins σ H' s'∧zt vs us∧Q vs H'
def SP (X:Cx) (pins:List (Addr×Obj)) (D:Ends) (f:Flow) (s':Shared):Prop :=
 match f with
 | .next=>∃ σ' H',Inv X pins σ' H' s'∧D.nx σ' H'
 | .brk=>∃ σ' H',Inv X pins σ' H' s'∧D.bk σ' H'
 | .cont=>∃ σ' H',Inv X pins σ' H' s'∧D.ct σ' H'
 | .ret u=>∃ v σ' H',Inv X pins σ' H' s'∧RelV v u∧D.rt v H'
def PE (X:Cx) (e:Expr) (t:TE):Prop :=
 ∀ (pins:List (Addr×Obj)) (s:Shared) (σ:St) (H:Hp) (Q:VK),Inv X pins σ H s→t σ H Q→wpAny (model X.prog X.w) X.A (eval e X.env) (EP X pins σ Q) X.xe s
def PT (X:Cx) (e:Expr) (t:TT):Prop :=
 ∀ (pins:List (Addr×Obj)) (s:Shared) (σ:St) (H:Hp) (Q:Bool→Hp→Prop),Inv X pins σ H s→t σ H Q→wpAny (model X.prog X.w) X.A (isTrue e X.env (eval e X.env)) (TP X pins σ Q) X.xe s
def PW (X:Cx) (e:Expr) (t:TT):Prop :=
 ∀ (whole:Sem Value) (pins:List (Addr×Obj)) (s:Shared) (σ:St) (H:Hp) (Q:Bool→Hp→Prop),Inv X pins σ H s→t σ H Q→wpAny (model X.prog X.w) X.A (isTrue e X.env whole) (TP X pins σ Q) X.xe s
theorem PW.pt {X:Cx} {e:Expr} {t:TT} (h:PW X e t):PT X e t:=h _
def PA (X:Cx) (es:List Expr) (t:TA):Prop :=
 ∀ (pos:Pos) (pins:List (Addr×Obj)) (s:Shared) (σ:St) (H:Hp) (Q:List V→Hp→Prop),Inv X pins σ H s→t σ H Q→wpAny (model X.prog X.w) X.A (spliced (backTo pos (starEach es X.env))) (AP X pins σ Q) X.xe s
def PS (X:Cx) (st:Stmt) (t:TS):Prop :=
 ∀ (pins:List (Addr×Obj)) (s:Shared) (σ:St) (H:Hp) (D:Ends),Inv X pins σ H s→t D σ H→wpAny (model X.prog X.w) X.A (exec st X.env) (SP X pins D) X.xe s
def PSs (X:Cx) (st:List Stmt) (t:TS):Prop :=
 ∀ (pins:List (Addr×Obj)) (s:Shared) (σ:St) (H:Hp) (D:Ends),Inv X pins σ H s→t D σ H→wpAny (model X.prog X.w) X.A (execs st X.env) (SP X pins D) X.xe s
theorem thn {α:Type} {t:Sem α} {Q Q':α→Shared→Prop} {M:Model} {A:Around} {E:Value→Shared→Prop} {s:Shared} (h:wpAny M A t Q E s) (hQ:∀ a s,Q a s→Q' a s):wpAny M A t Q' E s:=wpAny_mono h hQ fun _ _ x=>x
end L2
namespace L2
open PySem PySem.Spec PyProof.Rows
section
variable {X:Cx}
def zhr (i:Nat):TE:=fun σ H Q=>∃ v,σ[i]? = some (some v)∧Q v H
def tC (v:V):TE:=fun _ H Q=>Q v H
theorem zgZ {i:Nat} {x:Str} {pos:Pos} (hN:X.N[i]? = some x) (hv:Vis X.env.scope x) (hd:(x == ("__debug__" : Str))=false:=by decide) (hcd:(x == ("__classdict__" : Str))=false:=by decide):PE X (.Name x pos) (zhr i):=by
 intro pins s σ H Q I h
 obtain⟨v,e,h⟩:=h
 obtain⟨m,hn,hl⟩:=I.loc
 obtain⟨u,r,l⟩:=hl i x v hN e hv
 have fin:EP X pins σ Q u s:=⟨v,H,I,r,h⟩
 rcases l with ⟨hk,hm⟩ | ⟨hk,c,hc,hcell⟩
 ·exact wpAny_Name (wpAny_loadName_local I.ok.kind hk hn hm fin) hd
 ·rcases hk with hk | hk
  ·exact wpAny_Name (wpAny_loadName_cell I.ok.kind hk hc hcell fin) hd
  ·exact wpAny_Name (wpAny_loadName_free I.ok.kind hk hc hcell fin hcd) hd
theorem zb {i j pos}:PE X (.Constant (.int i) j pos) (tC (.int i)):=fun _ _ _ H _ I h=>wpAny_Constant_int ⟨.int i,H,I.tok _,⟨_,rfl⟩,h⟩
theorem zav {b j pos}:PE X (.Constant (.bool b) j pos) (tC (.bl b)):=fun _ _ _ H _ I h=>Constant_bool ⟨.bl b,H,I,rfl,h⟩
theorem zg0 {j pos}:PE X (.Constant .none j pos) (tC .non):=fun _ _ _ H _ I h=>Constant_none ⟨.non,H,I,rfl,h⟩
theorem zft {x j pos}:PE X (.Constant (.str x) j pos) (tC (.str x)):=fun _ _ _ H _ I h=>Calls.Constant_str ⟨.str x,H,I.tok _,⟨_,rfl⟩,h⟩
def Gl (X:Cx) (x:Str):Prop:=X.env.kindOf x=some .globalImplicit
theorem zel {E:Value→Shared→Prop} {pins:List (Addr×Obj)} {s:Shared} {σ:St} {H:Hp} {x:Str} {u:Value} {pos:Pos} {Q:Value→Shared→Prop} (I:Inv X pins σ H s) (hg:Gl X x) (hm:X.mg x=some u) (h:Q u s)
  (hd:(x == ("__debug__" : Str))=false:=by decide):wpAny (model X.prog X.w) X.A (eval (.Name x pos) X.env) Q E s :=
 Calls.Name_function_global I.ok.kind hg (Calls.loadGlobal_global (by rw [I.ok.glob]; exact I.mod.glob.keeps I.bk) hm h) hd
theorem zbk {E:Value→Shared→Prop} {pins:List (Addr×Obj)} {s:Shared} {σ:St} {H:Hp} {x:Str} {u:Value} {pos:Pos} {Q:Value→Shared→Prop} (I:Inv X pins σ H s) (hg:Gl X x) (hm:X.mg x=none) (hv:bootBuiltins x=some u) (h:Q u s)
  (hn:x≠"__name__":=by decide) (hd:(x == ("__debug__" : Str))=false:=by decide):wpAny (model X.prog X.w) X.A (eval (.Name x pos) X.env) Q E s:=by
 obtain⟨mb,h1,h2⟩:=I.mod.blt
 exact Calls.Name_function_global I.ok.kind hg (Calls.loadGlobal_builtin (by rw [I.ok.glob]; exact I.mod.glob.keeps I.bk) hm (by rw [I.ok.blt]; exact h1.keeps I.bk) ((h2 x hn).trans hv) h) hd
theorem zb4 {x:Str} {v:V} {u:Value} {pos:Pos} (hg:Gl X x) (hm:X.mg x=some u) (r:RelV v u) (hd:(x == ("__debug__" : Str))=false:=by decide):PE X (.Name x pos) (tC v) :=
 fun _ _ _ H _ I h=>zel I hg hm ⟨v,H,I,r,h⟩ hd
theorem zax {x:Str} {v:V} {u:Value} {pos:Pos} (hg:Gl X x) (hm:X.mg x=none) (hv:bootBuiltins x=some u) (r:RelV v u) (hn:x≠"__name__":=by decide) (hd:(x == ("__debug__" : Str))=false:=by decide):PE X (.Name x pos) (tC v) :=
 fun _ _ _ H _ I h=>zbk I hg hm hv ⟨v,H,I,r,h⟩ hn hd
variable {a b:Expr} {ta tb:TE} {pos:Pos}
def tB (t:TE):TT:=fun σ H Q=>t σ H fun x H1=>∃ c,x = .bl c∧Q c H1
theorem zat {e:Expr} {t:TE} (h:PE X e t) (he:∀ whole,isTrue e X.env whole=(do let v ← whole; standAt e.pos; holding [v] (truthy v)):=by intro _; rfl):PT X e (tB t):=by
 intro pins s σ H Q I hw
 refine isTrue_plain (thn (h pins s σ H _ I hw) fun v s1 ⟨x,H1,I1,r1,q1⟩=>?_) (he _)
 obtain⟨d,rfl,q⟩:=q1
 cases r1
 exact wpAny_truthy_bool ⟨H1,I1,q⟩
variable {tA tB':TT} {rest:List Expr}
def zhV (t u:TT):TT:=fun σ H Q=>t σ H fun c H1=>if c=true then u σ H1 Q else Q false H1
def tOr (t u:TT):TT:=fun σ H Q=>t σ H fun c H1=>if c=true then Q true H1 else u σ H1 Q
def zhW (t:TT):TT:=fun σ H Q=>t σ H fun c H1=>Q (!c) H1
theorem zgg (ha:PT X a tA):PW X (.BoolOp .And [a] pos) tA:=by
 intro wh pins s σ H Q I h
 refine isTrue_and (thn (ha pins s σ H Q I h) fun c s1 e=>?_)
 cases c with
 | true=>exact isTrue_and_nil e
 | false=>exact e
theorem zaI (ha:PT X a tA):PW X (.BoolOp .Or [a] pos) tA:=by
 intro wh pins s σ H Q I h
 refine isTrue_or (thn (ha pins s σ H Q I h) fun c s1 e=>?_)
 cases c with
 | false=>exact isTrue_or_nil e
 | true=>exact e
theorem zg1 (ha:PT X a tA) (hb:PW X (.BoolOp .And (b :: rest) pos) tB'):PW X (.BoolOp .And (a :: b :: rest) pos) (zhV tA tB'):=by
 intro wh pins s σ H Q I h
 refine isTrue_and (thn (ha pins s σ H _ I h) fun c s1 ⟨H1,I1,q1⟩=>?_)
 cases c with
 | true=>exact hb wh pins s1 σ H1 Q I1 q1
 | false=>exact⟨H1,I1,q1⟩
theorem zaF (ha:PT X a tA) (hb:PW X (.BoolOp .Or (b :: rest) pos) tB'):PW X (.BoolOp .Or (a :: b :: rest) pos) (tOr tA tB'):=by
 intro wh pins s σ H Q I h
 refine isTrue_or (thn (ha pins s σ H _ I h) fun c s1 ⟨H1,I1,q1⟩=>?_)
 cases c with
 | true=>exact⟨H1,I1,q1⟩
 | false=>exact hb wh pins s1 σ H1 Q I1 q1
theorem zU (ha:PT X a tA):PT X (.UnaryOp .Not a pos) (zhW tA):=by
 intro pins s σ H Q I h
 exact isTrue_not (ha pins s σ H (fun c H1=>Q (!c) H1) I h)
def zhs (ta tb:TE):TE:=fun σ H Q=>ta σ H fun x H1=>∃ c,x = .bl c∧if c=true then tb σ H1 Q else Q (.bl false) H1
def zht (ta:TE):TE:=fun σ H Q=>ta σ H fun x H1=>∃ c,x = .bl c∧Q (.bl (!c)) H1
theorem zdT {op} {t:TE} (h:PE X a t):PE X (.BoolOp op [a] pos) t:=fun pins s σ H Q I hw=>BoolOp_one (h pins s σ H Q I hw)
theorem zdU (ha:PE X a ta) (hb:PE X (.BoolOp .And (b :: rest) pos) tb):PE X (.BoolOp .And (a :: b :: rest) pos) (zhs ta tb):=by
 intro pins s σ H Q I h
 refine BoolOp_and (thn (ha pins s σ H _ I h) fun v s1 ⟨x,H1,I1,r1,q1⟩=>?_)
 obtain⟨c,rfl,q1⟩:=q1
 cases r1
 refine wpAny_truthy_bool ?_
 cases c with
 | true=>exact hb pins s1 σ H1 Q I1 q1
 | false=>exact⟨.bl false,H1,I1,rfl,q1⟩
theorem zfu (ha:PE X a ta):PE X (.UnaryOp .Not a pos) (zht ta):=by
 intro pins s σ H Q I h
 refine UnaryOp_ (thn (ha pins s σ H _ I h) fun v s1 ⟨x,H1,I1,r1,q1⟩=>?_)
 obtain⟨c,rfl,q1⟩:=q1
 cases r1
 exact not_of (wpAny_truthy_bool ⟨.bl (!c),H1,I1,rfl,q1⟩)
end
end L2
namespace L2
open PySem PySem.Spec PyProof.Rows
def SqL (K:PySem.W.Frag) (H:Hp) (a:Addr) (xs:List V):Prop :=
 Rd H a (.lst xs) ∨
  ∃ (o:Obj) (its:Array Value) (n:Nat),K.lookup a=some o∧o.cls = .type "list"∧o.dict=none∧o.data = .seq its n∧its.size≤sizeLine∧zt xs its.toList
def SqT (K:PySem.W.Frag) (H:Hp) (a:Addr) (xs:List V):Prop :=
 Rd H a (.tup xs) ∨
  ∃ (o:Obj) (its:Array Value) (n:Nat),K.lookup a=some o∧o.cls = .type "tuple"∧o.data = .seq its n∧its.size≤sizeLine∧zt xs its.toList
def zhX:Value→Option V
 | .none=>some .non
 | .bool b=>some (.bl b)
 | .int i _=>some (.int i)
 | .str x _=>some (.str x)
 | .bytes b _=>some (.byt b)
 | .float b _=>some (.flt b)
 | .ref a=>some (.ref a)
 | .type n=>some (.ty n)
 | _=>none
theorem RelV.abs {x:V} {u:Value} (r:RelV x u):zhX u=some x:=by
 cases x with
 | non=>cases r; rfl
 | bl _=>cases r; rfl
 | int _=>obtain⟨t,rfl⟩:=r; rfl
 | str _=>obtain⟨t,rfl⟩:=r; rfl
 | byt _=>obtain⟨t,rfl⟩:=r; rfl
 | flt _=>obtain⟨t,rfl⟩:=r; rfl
 | ref _=>cases r; rfl
 | ty _=>cases r; rfl
theorem RelV.inj {x y:V} {u:Value} (r:RelV x u) (q:RelV y u):x=y:=Option.some.inj (r.abs.symm.trans q.abs)
theorem zt.inj:∀ {xs ys:List V} {us:List Value},zt xs us→zt ys us→xs=ys
 | _,_,_,.nil,.nil=>rfl
 | _,_,_,.cons r t,.cons r' t'=>by rw [r.inj r',zt.inj t t']
section
variable {X:Cx} {pins:List (Addr×Obj)} {σ:St} {H:Hp} {s:Shared} {a:Addr} {xs ys:List V}
theorem SqL.of {K:PySem.W.Frag} (h:H a=some (.lst xs)):SqL K H a xs:=.inl (.inl h)
theorem SqT.of {K:PySem.W.Frag} (h:H a=some (.tup xs)):SqT K H a xs:=.inl (.inl h)
theorem Inv.list (I:Inv X pins σ H s) (h:SqL X.K H a xs):∃ its:List Value,zt xs its∧PlainL s.heap a its.toArray∧xs.length≤sizeLine:=by
 rcases h with h | ⟨o,its,n,hk,hc,hd,hs,hz,r⟩
 ·obtain⟨z,its,n,r,e⟩:=h.ok I.hok
  exact⟨its,r,⟨_,n,e,rfl,rfl,rfl⟩,z⟩
 ·refine⟨its.toList,r,⟨o,n,I.kIn a o hk,hc,hd,by simpa using hs⟩,?_⟩
  have e:=r.length
  simp only [Array.length_toList] at e
  omega
theorem Inv.tuple (I:Inv X pins σ H s) (h:SqT X.K H a xs):∃ its:List Value,zt xs its∧IsTup s.heap a its.toArray∧xs.length≤sizeLine:=by
 rcases h with h | ⟨o,its,n,hk,hc,hs,hz,r⟩
 ·obtain⟨z,its,r,p⟩:=h.ok I.hok
  exact⟨its,r,p,z⟩
 ·refine⟨its.toList,r,⟨o,I.kIn a o hk,hc,n,by simpa using hs⟩,?_⟩
  have e:=r.length
  simp only [Array.length_toList] at e
  omega
theorem Inv.list_inj (I:Inv X pins σ H s) (h:SqL X.K H a xs) (h':SqL X.K H a ys):xs=ys:=by
 obtain⟨its,r,⟨o,n,e,_,_,d⟩,_⟩:=I.list h
 obtain⟨its',r',⟨o',n',e',_,_,d'⟩,_⟩:=I.list h'
 rw [e] at e'; cases e'
 rw [d] at d'
 injection d' with d1 _
 have:its=its':=by simpa using congrArg Array.toList d1
 subst this
 exact r.inj r'
theorem Inv.tuple_inj (I:Inv X pins σ H s) (h:SqT X.K H a xs) (h':SqT X.K H a ys):xs=ys:=by
 obtain⟨its,r,⟨o,e,_,n,d⟩,_⟩:=I.tuple h
 obtain⟨its',r',⟨o',e',_,n',d'⟩,_⟩:=I.tuple h'
 rw [e] at e'; cases e'
 rw [d] at d'
 injection d' with d1 _
 have:its=its':=by simpa using congrArg Array.toList d1
 subst this
 exact r.inj r'
end
abbrev Cx.wish (X:Cx) (E:Value→Shared→Prop):Cx:={ X with xe:=E }
abbrev Cx.nox (X:Cx):Cx:=X.wish fun _ _=>False
theorem Cx.Ok.wish {X:Cx} (ok:X.Ok) (E:Value→Shared→Prop):(X.wish E).Ok :=
 ⟨ok.mod,ok.kind,ok.glob,ok.blt,ok.above,ok.inj,ok.has,ok.cab,ok.hd,ok.frames,ok.stk,ok.exf,ok.bs,ok.bsz,ok.noex,ok.exfs,ok.funs,ok.frf⟩
theorem Cx.Ok.unwish {X:Cx} {E:Value→Shared→Prop} (ok:(X.wish E).Ok):X.Ok :=
 ⟨ok.mod,ok.kind,ok.glob,ok.blt,ok.above,ok.inj,ok.has,ok.cab,ok.hd,ok.frames,ok.stk,ok.exf,ok.bs,ok.bsz,ok.noex,ok.exfs,ok.funs,ok.frf⟩
section
variable {X:Cx} {pins:List (Addr×Obj)} {σ:St} {H:Hp} {s:Shared} {E:Value→Shared→Prop}
theorem Inv.wish (I:Inv X pins σ H s) (E:Value→Shared→Prop):Inv (X.wish E) pins σ H s:=⟨I.ok.wish E,I.os,I.bare,I.base,I.loc,I.cell,I.free,I.freeC,I.pin,I.hok,I.len⟩
theorem Inv.unwish (I:Inv (X.wish E) pins σ H s):Inv X pins σ H s:=⟨I.ok.unwish,I.os,I.bare,I.base,I.loc,I.cell,I.free,I.freeC,I.pin,I.hok,I.len⟩
theorem SP.unwish {D:Ends} {f:Flow} {s':Shared} (h:SP (X.wish E) pins D f s'):SP X pins D f s':=by
 cases f with
 | next=>obtain⟨σ',H',I,q⟩:=h; exact⟨σ',H',I.unwish,q⟩
 | brk=>obtain⟨σ',H',I,q⟩:=h; exact⟨σ',H',I.unwish,q⟩
 | cont=>obtain⟨σ',H',I,q⟩:=h; exact⟨σ',H',I.unwish,q⟩
 | ret u=>obtain⟨v,σ',H',I,r,q⟩:=h; exact⟨v,σ',H',I.unwish,r,q⟩
theorem PSs.nox {st:List Stmt} {t:TS} (h:PSs X.nox st t):PSs X st t:=fun pins s σ H D I hw =>
 wpAny_mono (h pins s σ H D (I.wish _) hw) (fun _ _ q=>q.unwish) fun _ _ z=>False.elim z
end
section
variable {X:Cx} {st:Stmt} {rest:List Stmt} {t u:TS} {e:Expr} {te:TE} {pos:Pos}
def zhu:TS:=fun D σ H=>D.nx σ H
def zhv (t u:TS):TS:=fun D σ H=>t { D with nx:=u D } σ H
theorem zK:PSs X [] zhu:=fun _ _ σ H _ I h=>wpAny_execs_nil ⟨σ,H,I,h⟩
theorem zf (h1:PS X st t) (h2:PSs X rest u):PSs X (st :: rest) (zhv t u):=by
 intro pins s σ H D I h
 refine wpAny_execs_cons (thn (h1 pins s σ H { D with nx:=u D } I h) fun f s1 q=>?_)
 cases f with
 | next =>
  obtain⟨σ',H',I',q⟩:=q
  exact h2 pins s1 σ' H' D I' q
 | ret v=>exact q
 | brk=>exact q
 | cont=>exact q
theorem zk (h1:PS X st t):PSs X [st] t:=by
 intro pins s σ H D I h
 refine wpAny_execs_cons (thn (h1 pins s σ H D I h) fun f s1 q=>?_)
 cases f with
 | next=>exact wpAny_execs_nil q
 | ret v=>exact q
 | brk=>exact q
 | cont=>exact q
theorem Inv.quiet {pins:List (Addr×Obj)} {σ:St} {H:Hp} {s:Shared} (I:Inv X pins σ H s):interactive X.env=false:=by simp [interactive,I.ok.kind]
def zhw (te:TE):TS:=fun D σ H=>te σ H fun _ H1=>D.nx σ H1
theorem zgh (he:PE X e te) (hs:swapsWith e none pos.line X.env=pure false:=by rfl):PS X (.Expr e pos) (zhw te):=by
 intro pins s σ H D I h
 exact wpAny_Expr_any (thn (he pins s σ H _ I h) fun v s1 ⟨x,H1,I1,r1,q1⟩=>⟨σ,H1,I1,q1⟩) I.quiet hs
def zhY (te:TE):TS:=fun D σ H=>te σ H D.rt
theorem zy (he:PE X e te):PS X (.Return (some e) pos) (zhY te):=by
 intro pins s σ H D I h
 exact wpAny_Return_some (thn (he pins s σ H _ I h) fun v s1 ⟨x,H1,I1,r1,q1⟩=>⟨x,σ,H1,I1,r1,q1⟩)
def zhZ (c:TT) (t u:TS):TS:=fun D σ H=>c σ H fun b H1=>if b=true then t D σ H1 else u D σ H1
theorem zan {c:Expr} {a b:List Stmt} {tc:TT} (hc:PT X c tc) (ha:PSs X a t) (hb:PSs X b u):PS X (.If c a b pos) (zhZ tc t u):=by
 intro pins s σ H D I h
 refine wpAny_If (thn (hc pins s σ H _ I h) fun d s1 ⟨H1,I1,q1⟩=>?_)
 cases d with
 | true=>exact ha pins s1 σ H1 D I1 q1
 | false=>exact hb pins s1 σ H1 D I1 q1
end
abbrev TG:=V→St→Hp→(St→Hp→Prop)→Prop
abbrev TGs:=List V→St→Hp→(St→Hp→Prop)→Prop
def PG (X:Cx) (target:Expr) (t:TG):Prop :=
 ∀ (pins:List (Addr×Obj)) (s:Shared) (σ:St) (H:Hp) (v:V) (u:Value) (Q:St→Hp→Prop),Inv X pins σ H s→RelV v u→t v σ H Q →
  wpAny (model X.prog X.w) X.A (assign target X.env u) (fun _ s'=>∃ σ' H',Inv X pins σ' H' s'∧Q σ' H') X.xe s
def PGs (X:Cx) (ts:List Expr) (t:TGs):Prop :=
 ∀ (pins:List (Addr×Obj)) (s:Shared) (σ:St) (H:Hp) (vs:List V) (us:List Value) (Q:St→Hp→Prop),Inv X pins σ H s→zt vs us→t vs σ H Q →
  wpAny (model X.prog X.w) X.A (assignInOrder ((assignEach ts X.env).map (·.2)) us) (fun _ s'=>∃ σ' H',Inv X pins σ' H' s'∧Q σ' H') X.xe s
section
variable {X:Cx} {pos:Pos}
def zci (i:Nat):TG:=fun v σ H Q=>Q (σ.set i (some v)) H
theorem zL {i:Nat} {x:Str} (hN:X.N.Nodup) (hi:X.N[i]? = some x) (hx:Loc X.env.scope x) (hf:X.fn x=true∨X.env.scope.names.lookup x=some .local:=by first | exact .inl rfl | exact .inr rfl | assumption):PG X (.Name x pos) (zci i):=by
 intro pins s σ H v u Q I r h
 exact wpAny_assign_Name (zdt I hN hi hx r (fun s' I'=>⟨_,H,I',h⟩) hf)
def zh0:TGs:=fun vs σ H Q=>vs = []∧Q σ H
def zhx (t:TG) (u:TGs):TGs:=fun vs σ H Q=>∃ v r,vs=v :: r∧t v σ H fun σ' H'=>u r σ' H' Q
theorem zc4:PGs X [] zh0:=by
 intro pins s σ H vs us Q I r h
 obtain⟨e,h⟩:=h
 subst e
 cases r
 exact assignInOrder_nil ⟨σ,H,I,h⟩
theorem zaf {e:Expr} {es:List Expr} {t:TG} {u:TGs} (h1:PG X e t) (h2:PGs X es u)
  (hs:(assignEach (e :: es) X.env).map (·.2)=assign e X.env :: (assignEach es X.env).map (·.2):=by rfl):PGs X (e :: es) (zhx t u):=by
 intro pins s σ H vs us Q I r h
 obtain⟨v,vr,e1,h⟩:=h
 subst e1
 cases r with
 | cons r rr =>
  rw [hs]
  refine assignInOrder_cons (thn (h1 pins s σ H _ _ _ I r h) fun _ s1 ⟨σ1,H1,I1,q1⟩=>?_)
  exact h2 pins s1 σ1 H1 _ _ Q I1 rr q1
def zh1 (K:PySem.W.Frag) (n:Nat) (t:TGs):TG:=fun v σ H Q=>∃ a xs,v = .ref a∧SqT K H a xs∧xs.length=n∧t xs σ H Q
theorem zdV {es:List Expr} {k:Nat} {t:TGs} {n:Nat} (hc:X.calm=true) (h:PGs X es t)
  (hn:(assignEach es X.env).length=n:=by rfl) (hst:(assignEach es X.env).findIdx? (·.1)=none:=by rfl):PG X (.Tuple es k pos) (zh1 X.K n t):=by
 intro pins s σ H v u Q I r hw
 obtain⟨a,xs,e1,hq,hl,hw⟩:=hw
 subst e1
 cases r
 obtain⟨its,rv,ht,hz⟩:=I.tuple hq
 refine assign_Tuple_tuple (I.ok.hd hc) ht (by simp [hn,← hl,rv.length]) hst fun h' hx=>?_
 have I1:Inv X pins σ H { s with heap:=h' }:=I.kept (t':=s.toks) fun b o e=>hx b o (Nat.ne_of_lt (Heap.lt_size e)) e
 exact h pins _ σ H xs _ Q I1 (by simpa using rv) hw
def zgi (te:TE) (g:TG):TS:=fun D σ H=>te σ H fun x H1=>g x σ H1 D.nx
theorem zdW {tg e:Expr} {te:TE} {g:TG} (he:PE X e te) (hg:PG X tg g) (hs:swapsWithSole [tg] e pos.line X.env=pure false:=by rfl) (hw:swappedStores [tg] e X.env=pure none:=by rfl)
  (h1:(assignEach [tg] X.env).map (·.2) = [assign tg X.env]:=by rfl):PS X (.Assign [tg] e pos) (zgi te g):=by
 intro pins s σ H D I h
 refine wpAny_Assign_stores (thn (he pins s σ H _ I h) fun v s1 ⟨x,H1,I1,r1,q1⟩=>?_) hs hw
 rw [h1]
 exact thn (hg pins s1 σ H1 x v _ I1 r1 q1) fun _ s2 q=>q
theorem zA {i:Nat} {x:Str} {e:Expr} {te:TE} {pos':Pos} (hN:X.N.Nodup) (hi:X.N[i]? = some x) (hx:Loc X.env.scope x) (he:PE X e te) (hs:swapsWith e (some (.Name x pos')) pos.line X.env=pure false:=by rfl) (hf:X.fn x=true∨X.env.scope.names.lookup x=some .local:=by first | exact .inl rfl | exact .inr rfl | assumption) :
  PS X (.Assign [.Name x pos'] e pos) (zgi te (zci i)):=by
 intro pins s σ H D I h
 refine wpAny_Assign_Name (thn (he pins s σ H _ I h) fun v s1 ⟨y,H1,I1,r1,q1⟩=>?_) hs
 exact zdt I1 hN hi hx r1 (fun s2 I2=>⟨_,H1,I2,q1⟩) hf
end
section
variable {X:Cx} {pos:Pos}
end
structure It where
 go:Nat→Hp→Prop
 yld:Nat→Hp→V→Hp→Prop
 stop:Nat→Hp→Prop
def zbs (X:Cx) (pins:List (Addr×Obj)) (H:Hp) (b:Addr):Prop :=
 H b=none∧b≠X.env.locals∧b∉X.fs∧(b∈X.ex∨X.s₀.heap.objs.size≤b)∧(∀ x c,X.env.cells.lookup x=some c→c≠b)∧∀ p∈X.pn++pins,p.1≠b
theorem Inv.fpOk {X:Cx} {pins:List (Addr×Obj)} {σ:St} {H H':Hp} {s:Shared} {b:Addr} (I:Inv X pins σ H s) (hb:s.heap.objs.size≤b) (hn:H' b=none):zbs X pins H' b:=by
 refine⟨hn,Nat.ne_of_gt (Nat.lt_of_lt_of_le I.lt hb),I.nofs hb,.inr (Nat.le_trans I.sz hb),fun x c e z=>?_,fun p hp z=>?_⟩
 ·obtain⟨v,q⟩:=I.cell x c e
  exact absurd (Nat.lt_of_lt_of_le q.lt (by rw [z]; exact hb)) (Nat.lt_irrefl _)
 ·exact absurd (Nat.lt_of_lt_of_le (Heap.lt_size (I.pin p hp).1) (by rw [z]; exact hb)) (Nat.lt_irrefl _)
structure Turn (P:Program) (w:World) (K:PySem.W.Frag) (tg:Expr) (J:It) (fp:List Addr) (it:Addr) (tn:Nat→Heap→Prop):Prop where
 mem:it∈fp
 obj:∀ i h,tn i h→∀ b∈fp,∃ o,h.get? b=some o∧∀ v,o.data≠.cell v
 keep:∀ i h h',tn i h→(∀ b∈fp,∀ o,h.get? b=some o→h'.get? b=some o)→tn i h'
 item:∀ (X:Cx),X.prog=P→X.w=w→X.K=K→X.calm=true→∀ (i:Nat) (pins:List (Addr×Obj)) (s:Shared) (σ:St) (H:Hp) (E:Value→Shared→Prop),Inv X pins σ H s→(∀ b∈fp,zbs X pins H b)→tn i s.heap→J.go i H →
  wpAny (model P w) X.A (pyNext (.ref it)) (fun r s1=>∃ u,r=some u ∧
   wpAny (model P w) X.A (letOwnedTupleGo tg (.ref it) u) (fun _ s2=>∃ x H',Inv X pins σ H' s2∧RelV x u∧J.yld i H x H'∧tn (i+1) s2.heap∧∀ b∈fp,H' b=none) E s1) E s
 done:∀ (X:Cx),X.prog=P→X.w=w→X.K=K→X.calm=true→∀ (i:Nat) (pins:List (Addr×Obj)) (s:Shared) (σ:St) (H:Hp) (E:Value→Shared→Prop),Inv X pins σ H s→(∀ b∈fp,zbs X pins H b)→tn i s.heap→J.stop i H →
  wpAny (model P w) X.A (pyNext (.ref it)) (fun r s1=>r=none∧Inv X pins σ H s1) E s
 self:∀ (A:Around) (i:Nat) (s:Shared) (Q:Value→Shared→Prop) (E:Value→Shared→Prop),tn i s.heap→Q (.ref it) s→wpAny (model P w) A (pyIter (.ref it)) Q E s
abbrev TI:=St→Hp→(It→Hp→Prop)→Prop
def PIE (X:Cx) (pins:List (Addr×Obj)) (σ:St) (tg:Expr) (R:It→Hp→Prop) (itv:Value) (s2:Shared):Prop :=
 ∃ (it:Addr) (fp:List Addr) (tn:Nat→Heap→Prop) (J:It) (H':Hp),itv = .ref it∧Inv X pins σ H' s2∧Turn X.prog X.w X.K tg J fp it tn∧tn 0 s2.heap∧(∀ b∈fp,zbs X pins H' b)∧R J H'
def PI (X:Cx) (tg iter:Expr) (wi:TI):Prop :=
 ∀ (pins:List (Addr×Obj)) (s:Shared) (σ:St) (H:Hp) (R:It→Hp→Prop),Inv X pins σ H s→wi σ H R →
  wpAny (model X.prog X.w) X.A (eval iter X.env) (fun v s1=>wpAny (model X.prog X.w) X.A (pyIter v) (PIE X pins σ tg R) X.xe s1) X.xe s
theorem zfv {M:Model} {A:Around} {E:Value→Shared→Prop} {s:Shared} {tg:Expr} {it:Addr} {u:Value} {o:Obj} {n:String} {vs:Array Value} {Q:Unit→Shared→Prop} (ho:s.heap.get? it=some o) (hc:o.cls = .type n) (hd:o.data = .fields vs)
  (hn:["enumerate","zip","dict_itemiterator","dict_reverseitemiterator","odict_iterator","itertools.zip_longest","itertools.pairwise"].contains n=false) (hQ:Q () s):wpAny M A (letOwnedTupleGo tg (.ref it) u) Q E s:=by
 unfold letOwnedTupleGo
 cases tg <;> first
  | exact wpAny_pure hQ
  | (cases u <;> first
    | exact wpAny_pure hQ
    | (refine wpAny_bind (wpAny_load ho ?_)
       rw [hc,hd]
       show wpAny M A (if (["enumerate","zip","dict_itemiterator","dict_reverseitemiterator","odict_iterator","itertools.zip_longest","itertools.pairwise"].contains n && vs[0]? == some (rawInt _))=true then _ else _) Q E s
       rw [if_neg (by intro h; rw [hn,Bool.false_and] at h; cases h)]
       exact wpAny_pure hQ))
def Itl (K:PySem.W.Frag) (a:Addr):It :=
 ⟨fun i H=>∃ xs x,SqL K H a xs∧xs[i]? = some x,fun i H x H'=>H'=H∧∀ xs,SqL K H a xs→xs[i]? = some x,fun i H=>∃ xs,SqL K H a xs∧xs.length≤i⟩
def Itt (K:PySem.W.Frag) (a:Addr):It :=
 ⟨fun i H=>∃ xs x,SqT K H a xs∧xs[i]? = some x,fun i H x H'=>H'=H∧∀ xs,SqT K H a xs→xs[i]? = some x,fun i H=>∃ xs,SqT K H a xs∧xs.length≤i⟩
def Itr (lo:Int) (n:Nat):It:=⟨fun i _=>i < n,fun i H x H'=>H'=H∧x = .int (lo+i),fun i _=>n≤i⟩
theorem zeQ {P:Program} {w:World} {K:PySem.W.Frag} {tg:Expr} (a it:Addr):Turn P w K tg (Itl K a) [it] it (fun i h=>h.IsListIter it a i) where
 mem:=by simp
 obj:=fun i h st b hb=>by
  have e:b=it:=by simpa using hb
  subst e
  obtain⟨o,e,c,d⟩:=st
  exact⟨o,e,fun v z=>by rw [d] at z; cases z⟩
 keep:=fun i h h' st k=>st.at fun o e=>k it (by simp) o e
 item:=by
  intro X hP hw hK hc i pins s σ H E I hf st hg
  subst hP hw hK
  obtain⟨xs,x,hq,hx⟩:=hg
  obtain⟨its,rv,p,hz⟩:=I.list hq
  obtain⟨u,hu,ru⟩:=rv.get hx
  obtain⟨f0,f1,f2,f3,f4,f5⟩:=hf it (by simp)
  refine wpAny_pyNext_list_item st p.isList (x:=u) (by simpa using hu) fun h' st' sb=>?_
  have I1:Inv X pins σ H { s with heap:=h' }:=I.turned (t':=s.toks) (fun b o hb e=>(sb.2 b hb).trans e) f0 f1 f3 f4 f5
  obtain⟨o,e,c,d⟩:=id st'
  exact⟨u,rfl,zfv (s:={ s with heap:=h' }) e c d (by decide) ⟨x,H,I1,ru,⟨rfl,fun ys hy=>by rw [I.list_inj hy hq]; exact hx⟩,st',fun b hb=>(hf b hb).1⟩⟩
 done:=by
  intro X hP hw hK hc i pins s σ H E I hf st hg
  subst hP hw hK
  obtain⟨xs,hq,hx⟩:=hg
  obtain⟨its,rv,p,hz⟩:=I.list hq
  obtain⟨f0,f1,f2,f3,f4,f5⟩:=hf it (by simp)
  have hl:=rv.length
  exact wpAny_pyNext_list_end (I.ok.hd hc) st p.isList (by simp; omega) fun h' eb=>⟨rfl,I.turned (t':=s.toks) (fun b o hb e=>eb b o hb e) f0 f1 f3 f4 f5⟩
 self:=fun _ _ _ _ _ st h=>wpAny_pyIter_listiter st h
theorem zdX {P:Program} {w:World} {K:PySem.W.Frag} {tg:Expr} (a it:Addr):Turn P w K tg (Itt K a) [it] it (fun i h=>h.IsTupleIter it a i) where
 mem:=by simp
 obj:=fun i h st b hb=>by
  have e:b=it:=by simpa using hb
  subst e
  obtain⟨o,e,c,d⟩:=st
  exact⟨o,e,fun v z=>by rw [d] at z; cases z⟩
 keep:=fun i h h' st k=>st.at fun o e=>k it (by simp) o e
 item:=by
  intro X hP hw hK hc i pins s σ H E I hf st hg
  subst hP hw hK
  obtain⟨xs,x,hq,hx⟩:=hg
  obtain⟨its,rv,p,hz⟩:=I.tuple hq
  obtain⟨u,hu,ru⟩:=rv.get hx
  obtain⟨f0,f1,f2,f3,f4,f5⟩:=hf it (by simp)
  refine wpAny_pyNext_tuple_item st (show s.heap.IsTuple a its.toArray from p) (x:=u) (by simpa using hu) fun h' st' sb=>?_
  have I1:Inv X pins σ H { s with heap:=h' }:=I.turned (t':=s.toks) (fun b o hb e=>(sb.2 b hb).trans e) f0 f1 f3 f4 f5
  obtain⟨o,e,c,d⟩:=id st'
  exact⟨u,rfl,zfv (s:={ s with heap:=h' }) e c d (by decide) ⟨x,H,I1,ru,⟨rfl,fun ys hy=>by rw [I.tuple_inj hy hq]; exact hx⟩,st',fun b hb=>(hf b hb).1⟩⟩
 done:=by
  intro X hP hw hK hc i pins s σ H E I hf st hg
  subst hP hw hK
  obtain⟨xs,hq,hx⟩:=hg
  obtain⟨its,rv,p,hz⟩:=I.tuple hq
  obtain⟨f0,f1,f2,f3,f4,f5⟩:=hf it (by simp)
  have hl:=rv.length
  exact wpAny_pyNext_tuple_end (I.ok.hd hc) st (show s.heap.IsTuple a its.toArray from p) (by simp; omega) fun h' eb=>⟨rfl,I.turned (t':=s.toks) (fun b o hb e=>eb b o hb e) f0 f1 f3 f4 f5⟩
 self:=fun _ _ _ _ _ st h=>wpAny_pyIter_tupleiter st h
theorem zdY {P:Program} {w:World} {K:PySem.W.Frag} {tg:Expr} (it:Addr) (lo:Int) (n:Nat):Turn P w K tg (Itr lo n) [it] it (fun i h=>IsRangeIter h it (lo+(i:Nat)*1) ((n:Int) - (i:Nat)) 1) where
 mem:=by simp
 obj:=fun i h st b hb=>by
  have e:b=it:=by simpa using hb
  subst e
  exact⟨_,st,fun v z=>by
   have z':Data.fields _=Data.cell v:=z
   cases z'⟩
 keep:=fun i h h' st k=>k it (by simp) _ st
 item:=by
  intro X hP hw hK hc i pins s σ H E I hf st hg
  subst hP hw hK
  obtain⟨f0,f1,f2,f3,f4,f5⟩:=hf it (by simp)
  have W:=Walks.range (prog:=X.prog) (w:=X.w) (I.ok.hd hc) it lo 1 n
  refine W.item i s _ _ hg st fun v h' tk hv st' kk=>?_
  obtain⟨t,rfl⟩:=hv
  have I1:Inv X pins σ H { s with heap:=h',toks:=tk }:=I.turned (fun b o hb e=>kk b o (by simpa using hb) e) f0 f1 f3 f4 f5
  refine⟨_,rfl,zfv (s:={ s with heap:=h',toks:=tk }) (n:="range_iterator") st' rfl rfl (by decide) ⟨.int (lo+i),H,I1,⟨t,?_⟩,⟨rfl,rfl⟩,st',fun b hb=>(hf b hb).1⟩⟩
  rw [Int.mul_one]
 done:=by
  intro X hP hw hK hc i pins s σ H E I hf st hg
  subst hP hw hK
  obtain⟨f0,f1,f2,f3,f4,f5⟩:=hf it (by simp)
  exact wpAny_pyNext_range_end (I.ok.hd hc) st (by have:n≤i:=hg; omega) fun h' eb=>⟨rfl,I.turned (t':=s.toks) (fun b o hb e=>eb b o hb e) f0 f1 f3 f4 f5⟩
 self:=fun _ _ _ _ _ st h=>wpAny_pyIter_rangeiter st h
end L2
namespace L2
open PySem PySem.Spec PyProof.Rows
section
variable {X:Cx} {tg:Expr}
def zhy (K:PySem.W.Frag) (tl:TE):TI:=fun σ H R=>tl σ H fun x H1=>∃ a,x = .ref a∧(∃ xs,SqL K H1 a xs)∧R (Itl K a) H1
def zh2 (K:PySem.W.Frag) (tl:TE):TI:=fun σ H R=>tl σ H fun x H1=>∃ a,x = .ref a∧(∃ xs,SqT K H1 a xs)∧R (Itt K a) H1
theorem zgj {l:Expr} {tl:TE} (hl:PE X l tl):PI X tg l (zhy X.K tl):=by
 intro pins s σ H R I h
 refine thn (hl pins s σ H _ I h) fun v s1 ⟨x,H1,I1,r1,q1⟩=>?_
 obtain⟨a,e,⟨xs,hq⟩,q⟩:=q1
 subst e
 cases r1
 obtain⟨its,rv,p,hz⟩:=I1.list hq
 refine wpAny_pyIter_list p.isList ?_
 refine⟨s1.heap.objs.size,[s1.heap.objs.size],_,_,H1,rfl,I1.kept (t':=s1.toks) fun b o e=>Heap.get?_push_of_some _ e,zeQ a _,⟨_,Heap.get?_push_size _ rfl,rfl,rfl⟩,fun b hb=>?_,q⟩
 have e:b=s1.heap.objs.size:=by simpa using hb
 subst e
 exact I1.fpOk (Nat.le_refl _) (I1.hok.fresh (Nat.le_refl _))
theorem zfw {l:Expr} {tl:TE} (hl:PE X l tl):PI X tg l (zh2 X.K tl):=by
 intro pins s σ H R I h
 refine thn (hl pins s σ H _ I h) fun v s1 ⟨x,H1,I1,r1,q1⟩=>?_
 obtain⟨a,e,⟨xs,hq⟩,q⟩:=q1
 subst e
 cases r1
 obtain⟨its,rv,p,hz⟩:=I1.tuple hq
 refine wpAny_pyIter_tuple (show s1.heap.IsTuple a its.toArray from p) ?_
 refine⟨s1.heap.objs.size,[s1.heap.objs.size],_,_,H1,rfl,I1.kept (t':=s1.toks) fun b o e=>Heap.get?_push_of_some _ e,zdX a _,⟨_,Heap.get?_push_size _ rfl,rfl,rfl⟩,fun b hb=>?_,q⟩
 have e:b=s1.heap.objs.size:=by simpa using hb
 subst e
 exact I1.fpOk (Nat.le_refl _) (I1.hok.fresh (Nat.le_refl _))
theorem zdu {pins:List (Addr×Obj)} {σ:St} {H:Hp} {s:Shared} {R:It→Hp→Prop} {E:Value→Shared→Prop} {lo hi:Int} {t u v:Tok} {tk:Nat} (I:Inv X pins σ H s) (h1:-(2 ^ 62)≤lo) (h2:lo < 2 ^ 62) (h3:-(2 ^ 62)≤hi) (h4:hi < 2 ^ 62)
  (q:R (Itr lo (hi - lo).toNat) H):wpAny (model X.prog X.w) X.A (pyIter (.ref s.heap.objs.size)) (PIE X pins σ tg R) E { s with heap:=s.heap.push { cls:=.type "range",data:=.fields #[.int lo t,.int hi u,.int 1 v] },toks:=tk }:=by
 refine wpAny_pyIter_range (IsRange.new ..) (small_one h1 h2 h3 h4) ?_
 have I1:Inv X pins σ H { s with heap:=s.heap.push { cls:=.type "range",data:=.fields #[.int lo t,.int hi u,.int 1 v] },toks:=tk }:=I.kept fun b o e=>Heap.get?_push_of_some _ e
 refine⟨(s.heap.push { cls:=.type "range",data:=.fields #[.int lo t,.int hi u,.int 1 v] }).objs.size,[(s.heap.push { cls:=.type "range",data:=.fields #[.int lo t,.int hi u,.int 1 v] }).objs.size],_,_,H,rfl,
  I1.kept (t':=tk) fun b o e=>Heap.get?_push_of_some _ e,zdY _ lo (hi - lo).toNat,?_,fun b hb=>?_,q⟩
 ·have e1:lo+((0:Nat):Int)*1=lo:=by simp
  have e2:(((hi - lo).toNat:Nat):Int) - ((0:Nat):Int)=Builtin.Range.rangeSize lo hi 1:=by rw [rangeSize_one]; split <;> omega
  show IsRangeIter _ _ (lo+((0:Nat):Int)*1) ((((hi - lo).toNat:Nat):Int) - ((0:Nat):Int)) 1
  rw [e1,e2]
  exact Heap.get?_push_size _ rfl
 ·have e:b=(s.heap.push { cls:=.type "range",data:=.fields #[.int lo t,.int hi u,.int 1 v] }).objs.size:=by simpa using hb
  subst e
  exact I1.fpOk (Nat.le_refl _) (I1.hok.fresh (Nat.le_refl _))
def zhz (ta:TA):TI:=fun σ H R=>ta σ H fun vs H1=>∃ j:Int,vs = [.int j]∧-(2 ^ 62)≤j∧j < 2 ^ 62∧R (Itr 0 j.toNat) H1
def zhA (ta:TA):TI:=fun σ H R=>ta σ H fun vs H1=>∃ i j:Int,vs = [.int i,.int j]∧(-(2 ^ 62)≤i∧i < 2 ^ 62∧-(2 ^ 62)≤j∧j < 2 ^ 62)∧R (Itr i (j - i).toNat) H1
theorem zbO {a:Expr} {ta:TA} {p pos:Pos} (hg:Gl X "range") (hm:X.mg "range" = none) (ha:PA X [a] ta) (hs:starEach [a] X.env = [(false,eval a X.env)]:=by rfl):PI X tg (.Call (.Name "range" p) [a] [] pos) (zhz ta):=by
 intro pins s σ H R I h
 refine Call_ (zbk I hg hm boot_range (PyProof.Rows.callWith_type1 (thn (ha pos pins s σ H _ I h) fun us s1 ⟨vs,H1,I1,r1,q1⟩=>?_) hs rfl))
 obtain⟨j,e,q1,q2,q⟩:=q1
 subst e
 cases r1 with
 | cons r rr =>
  cases rr
  obtain⟨t,rfl⟩:=r
  exact call_range_1 (zdu I1 (by omega) (by omega) q1 q2 (by simpa using q))
theorem zcK {a b:Expr} {ta:TA} {p pos:Pos} (hg:Gl X "range") (hm:X.mg "range" = none) (ha:PA X [a,b] ta) (hs:starEach [a,b] X.env = [(false,eval a X.env),(false,eval b X.env)]:=by rfl) (hs2:starEach [b] X.env = [(false,eval b X.env)]:=by rfl) :
  PI X tg (.Call (.Name "range" p) [a,b] [] pos) (zhA ta):=by
 intro pins s σ H R I h
 refine Call_ (zbk I hg hm boot_range (PyProof.Rows.callWith_type1 (thn (ha pos pins s σ H _ I h) fun us s1 ⟨vs,H1,I1,r1,q1⟩=>?_) (by rw [hs,hs2]) (by rw [hs2]; rfl)))
 obtain⟨i,j,e,⟨q1,q2,q3,q4⟩,q⟩:=q1
 subst e
 cases r1 with
 | cons r rr =>
  cases rr with
  | cons r' rr =>
   cases rr
   obtain⟨t,rfl⟩:=r
   obtain⟨t',rfl⟩:=r'
   exact call_range_2 (zdu I1 q1 q2 q3 q4 q)
def zh3 (wi:TI) (g:TG) (tb:TS):TS:=fun D σ H=>wi σ H fun J H1=>∃ W:Nat→Nat→St→Hp→Prop,(∃ m,W 0 m σ H1)∧∀ i m σ H,W i m σ H →
 (J.stop i H∧D.nx σ H)∨(J.go i H∧∃ N:St→Hp→Prop,(∀ σ' H',N σ' H'→∃ m',m' < m∧W (i+1) m' σ' H')∧∀ x H',J.yld i H x H'→g x σ H' fun σ2 H2=>tb { D with nx:=N,ct:=N,bk:=D.nx } σ2 H2)
def za3 (fp:List Addr) (h:Heap):List (Addr×Obj):=fp.filterMap fun b=>(h.get? b).map fun o=>(b,o)
theorem zaP {fp:List Addr} {h:Heap} {b:Addr} {o:Obj} (hb:b∈fp) (e:h.get? b=some o):(b,o)∈za3 fp h:=List.mem_filterMap.mpr ⟨b,hb,by rw [e]; rfl⟩
theorem zcL {fp:List Addr} {h:Heap} {p:Addr×Obj} (hp:p∈za3 fp h):p.1∈fp∧h.get? p.1=some p.2:=by
 obtain⟨b,hb,e⟩:=List.mem_filterMap.mp hp
 cases q:h.get? b with
 | none=>rw [q] at e; cases e
 | some o =>
  rw [q] at e
  have e':(b,o)=p:=Option.some.inj e
  subst e'
  exact⟨hb,q⟩
theorem Inv.pinned {pins:List (Addr×Obj)} {σ:St} {H:Hp} {s:Shared} {fp:List Addr} (I:Inv X pins σ H s) (hf:∀ b∈fp,zbs X pins H b) (ho:∀ b∈fp,∃ o,s.heap.get? b=some o∧∀ v,o.data≠.cell v):Inv X (pins++za3 fp s.heap) σ H s :=
 I.pins_of fun p hp=>(List.mem_append.mp hp).elim (fun z=>I.pin p (List.mem_append_right _ z)) fun z=>by
  obtain⟨hb,e⟩:=zcL z
  obtain⟨f0,f1,f2,_⟩:=hf p.1 hb
  obtain⟨o,e',d⟩:=ho p.1 hb
  rw [e] at e'; cases e'
  exact⟨e,f0,f1,f2,d⟩
theorem Inv.unpinned {pins pl:List (Addr×Obj)} {σ:St} {H:Hp} {s:Shared} (I:Inv X (pins++pl) σ H s):Inv X pins σ H s:=I.pins_of fun p hp=>I.pin p (List.mem_append_right _ (List.mem_append_left _ hp))
theorem zdZ {iter:Expr} {body:List Stmt} {wi:TI} {g:TG} {tb:TS} {pos:Pos} (hp:PassesOwn (model X.prog X.w) X.A X.env X.xe) (hc:X.calm=true) (hi:PI X tg iter wi) (hg:PG X tg g) (hb:PSs X body tb)
  (hs:∀ x,foldedSetIterable iter X.env x=pure x:=by intro _; rfl):PS X (.For tg iter body [] pos) (zh3 wi g tb):=by
 intro pins s σ H D I h
 refine wpAny_For (thn (hi pins s σ H _ I h) fun v s1 h1=>thn h1 fun itv s2 h2=>?_) hs
 obtain⟨it,fp,tn,J,H2,e,I2,T,st2,f2,W,⟨m0,w0⟩,turn⟩:=h2
 subst e
 have stat:∀ {H':Hp},(∀ b∈fp,H' b=none)→∀ b∈fp,zbs X pins H' b:=fun hn b hb=>⟨hn b hb,(f2 b hb).2⟩
 refine codeAny_forLoop_any (fun n s'=>∃ i σ' H',Inv X pins σ' H' s'∧tn i s'.heap∧(∀ b∈fp,H' b=none)∧W i n σ' H') ?_ m0 ⟨0,σ,H2,I2,st2,fun b hb=>(f2 b hb).1,w0⟩
 rintro n s3 ⟨i,σ3,H3,I3,st3,fr3,w3⟩
 rcases turn i n σ3 H3 w3 with ⟨stop,qn⟩ | ⟨go,N,hN,step⟩
 ·refine wpAny_passesOwn hp (thn (T.done X rfl rfl rfl hc i pins s3 σ3 H3 X.xe I3 (stat fr3) st3 stop) fun r s4 ⟨hr,I4⟩=>?_)
  subst hr
  exact wpAny_execs_nil ⟨σ3,H3,I4,qn⟩
 ·refine wpAny_passesOwn hp (thn (T.item X rfl rfl rfl hc i pins s3 σ3 H3 X.xe I3 (stat fr3) st3 go) fun r s4 ⟨u,hr,h4⟩=>?_)
  subst hr
  refine wpAny_passesOwn hp (thn h4 fun _ s5 ⟨x,H5,I5,r5,y5,st5,fr5⟩=>?_)
  have I5':=I5.pinned (stat fr5) (T.obj _ _ st5)
  refine wpAny_passesOwn hp (thn (hg _ s5 σ3 H5 x u _ I5' r5 (step x H5 y5)) fun _ s6 ⟨σ6,H6,I6,q6⟩=>?_)
  refine wpAny_passesOwn hp (thn (hb _ s6 σ6 H6 _ I6 q6) fun f s7 q7=>?_)
  have again:∀ {σ7:St} {H7:Hp},Inv X (pins++za3 fp s5.heap) σ7 H7 s7→N σ7 H7→∃ m,m < n∧∃ i σ' H',Inv X pins σ' H' s7∧tn i s7.heap∧(∀ b∈fp,H' b=none)∧W i m σ' H':=fun {σ7 H7} I7 n7=>by
   obtain⟨m',hm,w7⟩:=hN σ7 H7 n7
   refine⟨m',hm,i+1,σ7,H7,I7.unpinned,T.keep _ _ _ st5 fun b hb o e=>(I7.pin (b,o) (List.mem_append_right _ (List.mem_append_right _ (zaP hb e)))).1,fun b hb=>?_,w7⟩
   obtain⟨o,e,d⟩:=T.obj _ _ st5 b hb
   exact (I7.pin (b,o) (List.mem_append_right _ (List.mem_append_right _ (zaP hb e)))).2.1
  cases f with
  | next=>obtain⟨σ7,H7,I7,n7⟩:=q7; exact again I7 n7
  | cont=>obtain⟨σ7,H7,I7,n7⟩:=q7; exact again I7 n7
  | brk=>obtain⟨σ7,H7,I7,q7⟩:=q7; exact⟨σ7,H7,I7.unpinned,q7⟩
  | ret v=>obtain⟨x7,σ7,H7,I7,r7,q7⟩:=q7; exact⟨x7,σ7,H7,I7.unpinned,r7,q7⟩
end
theorem zfx {K:PySem.W.Frag} {a:Addr} {xs:List V} {g:TG} {tb:TS} {D:Ends} {σ:St} {H:Hp} (Pv:Nat→St→Hp→Prop) (h0:Pv 0 σ H) (hl:∀ i σ H,i≤xs.length→Pv i σ H→SqL K H a xs)
  (hs:∀ i x σ H,xs[i]? = some x→Pv i σ H→g x σ H fun σ2 H2=>tb { D with nx:=Pv (i+1),ct:=Pv (i+1),bk:=D.nx } σ2 H2) (hd:∀ σ H,Pv xs.length σ H→D.nx σ H) :
  ∃ W:Nat→Nat→St→Hp→Prop,(∃ m,W 0 m σ H)∧∀ i m σ H,W i m σ H →
   ((Itl K a).stop i H∧D.nx σ H)∨((Itl K a).go i H∧∃ N:St→Hp→Prop,(∀ σ' H',N σ' H'→∃ m',m' < m∧W (i+1) m' σ' H')∧∀ x H',(Itl K a).yld i H x H'→g x σ H' fun σ2 H2=>tb { D with nx:=N,ct:=N,bk:=D.nx } σ2 H2):=by
 refine⟨fun i m σ H=>m=xs.length - i∧i≤xs.length∧Pv i σ H,⟨xs.length,by simp,Nat.zero_le _,h0⟩,?_⟩
 rintro i m σ H ⟨rfl,hi,p⟩
 have q:=hl i σ H hi p
 by_cases hlt:i < xs.length
 ·refine .inr ⟨⟨xs,xs[i],q,by simp [hlt]⟩,Pv (i+1),fun σ' H' p'=>⟨xs.length - (i+1),by omega,rfl,hlt,p'⟩,fun x H' y=>?_⟩
  obtain⟨e,y⟩:=y
  subst e
  exact hs i x σ _ (y xs q) p
 ·have e:i=xs.length:=by omega
  subst e
  exact .inl ⟨⟨xs,q,Nat.le_refl _⟩,hd σ H p⟩
theorem zcM {lo:Int} {n:Nat} {g:TG} {tb:TS} {D:Ends} {σ:St} {H:Hp} (Pv:Nat→St→Hp→Prop) (h0:Pv 0 σ H)
  (hs:∀ i σ H,i < n→Pv i σ H→g (.int (lo+i)) σ H fun σ2 H2=>tb { D with nx:=Pv (i+1),ct:=Pv (i+1),bk:=D.nx } σ2 H2) (hd:∀ σ H,Pv n σ H→D.nx σ H) :
  ∃ W:Nat→Nat→St→Hp→Prop,(∃ m,W 0 m σ H)∧∀ i m σ H,W i m σ H →
   ((Itr lo n).stop i H∧D.nx σ H)∨((Itr lo n).go i H∧∃ N:St→Hp→Prop,(∀ σ' H',N σ' H'→∃ m',m' < m∧W (i+1) m' σ' H')∧∀ x H',(Itr lo n).yld i H x H'→g x σ H' fun σ2 H2=>tb { D with nx:=N,ct:=N,bk:=D.nx } σ2 H2):=by
 refine⟨fun i m σ H=>m=n - i∧i≤n∧Pv i σ H,⟨n,by simp,Nat.zero_le _,h0⟩,?_⟩
 rintro i m σ H ⟨rfl,hi,p⟩
 by_cases hlt:i < n
 ·refine .inr ⟨hlt,Pv (i+1),fun σ' H' p'=>⟨n - (i+1),by omega,rfl,hlt,p'⟩,fun x H' y=>?_⟩
  obtain⟨e,y⟩:=y
  subst e y
  exact hs i σ _ hlt p
 ·have e:i=n:=by omega
  subst e
  exact .inl ⟨Nat.le_refl _,hd σ H p⟩
end L2
namespace L2
open PySem PySem.Spec PyProof.Rows
abbrev R2:=V→V→Hp→VK→Prop
def OpR (X:Cx) (f:Value→Value→Sem Value) (r:R2):Prop :=
 ∀ (pins:List (Addr×Obj)) (s:Shared) (σ:St) (H:Hp) (x y:V) (v u:Value) (Q:VK),Inv X pins σ H s→RelV x v→RelV y u→r x y H Q →
  wpAny (model X.prog X.w) X.A (f v u) (EP X pins σ Q) X.xe s
def UnR (X:Cx) (f:Value→Sem Value) (r:V→Hp→VK→Prop):Prop :=
 ∀ (pins:List (Addr×Obj)) (s:Shared) (σ:St) (H:Hp) (x:V) (v:Value) (Q:VK),Inv X pins σ H s→RelV x v→r x H Q →
  wpAny (model X.prog X.w) X.A (f v) (EP X pins σ Q) X.xe s
def zaB (X:Cx) (f:Value) (r:List V→Hp→VK→Prop):Prop :=
 ∀ (pins:List (Addr×Obj)) (s:Shared) (σ:St) (H:Hp) (xs:List V) (us:List Value) (Q:VK),Inv X pins σ H s→zt xs us→r xs H Q →
  wpAny (model X.prog X.w) X.A (call f us) (EP X pins σ Q) X.xe s
def tOp (r:R2) (ta tb:TE):TE:=fun σ H Q=>ta σ H fun x H1=>tb σ H1 fun y H2=>r x y H2 Q
def tUn (r:V→Hp→VK→Prop) (ta:TE):TE:=fun σ H Q=>ta σ H fun x H1=>r x H1 Q
def rI (C:Int→Int→Prop) (g:Int→Int→V):R2:=fun x y H Q=>∃ i j,x = .int i∧y = .int j∧C i j∧Q (g i j) H
def rI0 (g:Int→Int→V):R2:=fun x y H Q=>∃ i j,x = .int i∧y = .int j∧Q (g i j) H
def rU (g:Int→V):V→Hp→VK→Prop:=fun x H Q=>∃ i,x = .int i∧Q (g i) H
section
variable {X:Cx} {a b c:Expr} {ta tb tc:TE} {pos:Pos}
theorem zg2 (ha:PE X a ta) (hb:PE X b tb) {pins:List (Addr×Obj)} {s:Shared} {σ:St} {H:Hp} {R:V→V→Hp→Prop} (I:Inv X pins σ H s)
  (h:ta σ H fun x H1=>tb σ H1 fun y H2=>R x y H2) {Q:Value→Shared→Prop} {f:Value→Value→Sem Value}
  (hf:∀ v u s2 x y H2,Inv X pins σ H2 s2→RelV x v→RelV y u→R x y H2→wpAny (model X.prog X.w) X.A (f v u) Q X.xe s2) :
  wpAny (model X.prog X.w) X.A (eval a X.env) (fun v s₁=>wpAny (model X.prog X.w) X.A (eval b X.env) (fun u s₂=>wpAny (model X.prog X.w) X.A (f v u) Q X.xe s₂) X.xe s₁) X.xe s:=by
 refine thn (ha pins s σ H _ I h) fun v s1 ⟨x,H1,I1,r1,q1⟩=>?_
 refine thn (hb pins s1 σ H1 _ I1 q1) fun u s2 ⟨y,H2,I2,r2,q2⟩=>?_
 exact hf v u s2 x y H2 I2 r1 r2 q2
theorem zg {op:Operator} {r:R2} (ho:OpR X (binaryOp op) r) (ha:PE X a ta) (hb:PE X b tb):PE X (.BinOp a op b pos) (tOp r ta tb):=by
 intro pins s σ H Q I h
 exact wpAny_BinOp (zg2 ha hb I h fun v u s2 x y H2 I2 rx ry q=>ho pins s2 σ H2 x y v u Q I2 rx ry q)
theorem zfy {op:UnaryOp} {r:V→Hp→VK→Prop} (ho:UnR X (unaryOp op) r) (ha:PE X a ta):PE X (.UnaryOp op a pos) (tUn r ta):=by
 intro pins s σ H Q I h
 exact UnaryOp_ (thn (ha pins s σ H _ I h) fun v s1 ⟨x,H1,I1,r1,q1⟩=>ho pins s1 σ H1 x v Q I1 r1 q1)
theorem opI {f:Value→Value→Sem Value} {C:Int→Int→Prop} {g:Int→Int→Int}
  (rule:∀ (i j:Int) (t u:Tok) (s:Shared) (Q:Value→Shared→Prop) (E:Value→Shared→Prop),C i j→Q (.int (g i j) s.toks) { s with toks:=s.toks+1 }→wpAny (model X.prog X.w) X.A (f (.int i t) (.int j u)) Q E s) :
  OpR X f (rI C fun i j=>.int (g i j)):=by
 intro pins s σ H x y v u Q I rx ry h
 obtain⟨i,j,rfl,rfl,hc,q⟩:=h
 obtain⟨t,rfl⟩:=rx
 obtain⟨t',rfl⟩:=ry
 exact rule i j t t' s _ _ hc ⟨.int (g i j),H,I.tok _,⟨_,rfl⟩,q⟩
theorem zhB {f:Value→Value→Sem Value} {g:Int→Int→Int}
  (rule:∀ (i j:Int) (t u:Tok) (s:Shared) (Q:Value→Shared→Prop) (E:Value→Shared→Prop),Q (.int (g i j) s.toks) { s with toks:=s.toks+1 }→wpAny (model X.prog X.w) X.A (f (.int i t) (.int j u)) Q E s) :
  OpR X f (rI0 fun i j=>.int (g i j)):=by
 intro pins s σ H x y v u Q I rx ry h
 obtain⟨i,j,rfl,rfl,q⟩:=h
 obtain⟨t,rfl⟩:=rx
 obtain⟨t',rfl⟩:=ry
 exact rule i j t t' s _ _ ⟨.int (g i j),H,I.tok _,⟨_,rfl⟩,q⟩
theorem zgk {f:Value→Value→Sem Value} {g:Int→Int→Bool}
  (rule:∀ (i j:Int) (t u:Tok) (s:Shared) (Q:Value→Shared→Prop) (E:Value→Shared→Prop),Q (.bool (g i j)) s→wpAny (model X.prog X.w) X.A (f (.int i t) (.int j u)) Q E s) :
  OpR X f (rI0 fun i j=>.bl (g i j)):=by
 intro pins s σ H x y v u Q I rx ry h
 obtain⟨i,j,rfl,rfl,q⟩:=h
 obtain⟨t,rfl⟩:=rx
 obtain⟨t',rfl⟩:=ry
 exact rule i j t t' s _ _ ⟨.bl (g i j),H,I,rfl,q⟩
def zh4 (i j:Int):Prop:=0 < j∧j < 1073741824
def zh5 (i j:Int):Prop:=0≤j∧j≤1000000∧i.natAbs < 2 ^ 64
def zg3 (i j:Int):Prop:=(-(2 ^ 64) < i∧i < 2 ^ 64)∨(-(2 ^ 64) < j∧j < 2 ^ 64)
theorem zg3.ok {i j:Int} (h:zg3 i j):IntMulOk i j:=by
 rcases h with ⟨h1,h2⟩ | ⟨h1,h2⟩
 ·exact .of_left (intBits_le_64 h1 h2)
 ·exact .of_right (intBits_le_64 h1 h2)
theorem zQ:OpR X (binaryOp .Add) (rI0 fun i j=>.int (i+j)):=zhB fun _ _ _ _ _ _ _ q=>add_int q
theorem zd0:OpR X (binaryOp .Sub) (rI0 fun i j=>.int (i - j)):=zhB fun _ _ _ _ _ _ _ q=>sub_int q
theorem zag:OpR X (binaryOp .Mult) (rI zg3 fun i j=>.int (i*j)):=opI fun _ _ _ _ _ _ _ hc q=>mul_int q hc.ok
theorem zgl:OpR X (binaryOp .FloorDiv) (rI zh4 fun i j=>.int (i / j)):=opI fun i j _ _ _ _ _ hc q=>by
 have h1:(0:Int) < j:=hc.1
 have h2:j < 1073741824:=hc.2
 exact floordiv_int (by omega) (by rw [Int.fdiv_eq_ediv_of_nonneg i (by omega)]; exact q) (.inl (PyProof.noPylong_small (by omega)))
theorem zE:OpR X (binaryOp .Mod) (rI (fun _ j=>0 < j) fun i j=>.int (i % j)):=opI fun i j _ _ _ _ _ hc q=>by
 have h1:(0:Int) < j:=hc
 exact mod_int' (by omega) (by rw [Int.fmod_eq_emod_of_nonneg i (by omega)]; exact q)
theorem zfz:OpR X (binaryOp .Pow) (rI zh5 fun i j=>.int (i ^ j.toNat)):=opI fun _ _ _ _ _ _ _ hc q=>pow_int_small hc.1 hc.2.1 hc.2.2 q
theorem unI {f:Value→Sem Value} {g:Int→Int}
  (rule:∀ (i:Int) (t:Tok) (s:Shared) (Q:Value→Shared→Prop) (E:Value→Shared→Prop),Q (.int (g i) s.toks) { s with toks:=s.toks+1 }→wpAny (model X.prog X.w) X.A (f (.int i t)) Q E s) :
  UnR X f (rU fun i=>.int (g i)):=by
 intro pins s σ H x v Q I rx h
 obtain⟨i,rfl,q⟩:=h
 obtain⟨t,rfl⟩:=rx
 exact rule i t s _ _ ⟨.int (g i),H,I.tok _,⟨_,rfl⟩,q⟩
theorem zd1:UnR X (unaryOp .USub) (rU fun i=>.int (-i)):=unI fun _ _ _ _ _ q=>neg_int q
end
def zhC:V→V→Bool
 | .non,.non=>true | .non,.int _=>true | .int _,.non=>true | .non,.bl _=>true | .bl _,.non=>true | .non,.str _=>true | .str _,.non=>true
 | .int _,.int _=>true | .bl _,.bl _=>true | .str _,.str _=>true | .byt _,.byt _=>true
 | .int _,.str _=>true | .str _,.int _=>true | .bl _,.str _=>true | .str _,.bl _=>true
 | _,_=>false
def rEq:R2:=fun x y H Q=>zhC x y=true∧Q (.bl (decide (x=y))) H
def rNe:R2:=fun x y H Q=>zhC x y=true∧Q (.bl (!decide (x=y))) H
theorem zem {i j:Int}:decide (V.int i=V.int j)=(i == j):=by
 rw [Bool.eq_iff_iff]
 simp
theorem zfA {i j:Bool}:decide (V.bl i=V.bl j)=(i == j):=by
 rw [Bool.eq_iff_iff]
 simp
theorem zen {i j:Str}:decide (V.str i=V.str j)=(i == j):=by
 rw [Bool.eq_iff_iff]
 simp
theorem zeo {i j:Array UInt8}:decide (V.byt i=V.byt j)=(i.toList == j.toList):=by
 rw [Bool.eq_iff_iff]
 cases i
 cases j
 simp
section
variable {X:Cx} {a b c:Expr} {ta tb tc:TE} {pos:Pos}
theorem zu {pins:List (Addr×Obj)} {σ:St} {H:Hp} {s:Shared} {Q:VK} {k k':Bool} (I:Inv X pins σ H s) (q:Q (.bl k) H) (e:k=k'):EP X pins σ Q (.bool k') s:=by
 subst e
 exact⟨.bl k,H,I,rfl,q⟩
theorem zfB:OpR X (compareOp .Eq) rEq:=by
 intro pins s σ H x y v u Q I rx ry h
 obtain⟨hs,q⟩:=h
 cases x with
 | non =>
  cases rx
  cases y with
  | non=>cases ry; exact PySem.EqNone.eq_none_none (zu I q (by simp))
  | bl j=>cases ry; exact PySem.EqNone.eq_none_bool (zu I q (by simp))
  | int j=>obtain⟨t',rfl⟩:=ry; exact PySem.EqNone.eq_none_int (zu I q (by simp))
  | str j=>obtain⟨t',rfl⟩:=ry; exact PySem.EqNone.eq_none_str (zu I q (by simp))
  | _=>exact absurd (show false=true from hs) Bool.false_ne_true
 | bl i =>
  cases rx
  cases y with
  | non=>cases ry; exact PySem.EqNone.eq_bool_none (zu I q (by simp))
  | bl j=>cases ry; exact eq_bool (zu I q zfA)
  | str j=>obtain⟨t',rfl⟩:=ry; exact PySem.EqMixed.eq_bool_str (zu I q (by simp))
  | _=>exact absurd (show false=true from hs) Bool.false_ne_true
 | int i =>
  obtain⟨t,rfl⟩:=rx
  cases y with
  | non=>cases ry; exact PySem.EqNone.eq_int_none (zu I q (by simp))
  | int j=>obtain⟨t',rfl⟩:=ry; exact eq_int (zu I q zem)
  | str j=>obtain⟨t',rfl⟩:=ry; exact PySem.EqMixed.eq_int_str (zu I q (by simp))
  | _=>exact absurd (show false=true from hs) Bool.false_ne_true
 | str i =>
  obtain⟨t,rfl⟩:=rx
  cases y with
  | non=>cases ry; exact PySem.EqNone.eq_str_none (zu I q (by simp))
  | bl j=>cases ry; exact PySem.EqMixed.eq_str_bool (zu I q (by simp))
  | int j=>obtain⟨t',rfl⟩:=ry; exact PySem.EqMixed.eq_str_int (zu I q (by simp))
  | str j=>obtain⟨t',rfl⟩:=ry; exact eq_str (zu I q zen)
  | _=>exact absurd (show false=true from hs) Bool.false_ne_true
 | byt i =>
  obtain⟨t,rfl⟩:=rx
  cases y with
  | byt j=>obtain⟨t',rfl⟩:=ry; exact PySem.W.eq_bytes (zu I q zeo)
  | _=>exact absurd (show false=true from hs) Bool.false_ne_true
 | _=>cases y <;> exact absurd (show false=true from hs) Bool.false_ne_true
theorem zdv:OpR X (compareOp .NotEq) rNe:=by
 intro pins s σ H x y v u Q I rx ry h
 obtain⟨hs,q⟩:=h
 cases x with
 | non =>
  cases rx
  cases y with
  | non=>cases ry; exact PySem.EqNone.ne_none_none (zu I q (by simp))
  | bl j=>cases ry; exact PySem.EqNone.ne_none_bool (zu I q (by simp))
  | int j=>obtain⟨t',rfl⟩:=ry; exact PySem.EqNone.ne_none_int (zu I q (by simp))
  | str j=>obtain⟨t',rfl⟩:=ry; exact PySem.EqNone.ne_none_str (zu I q (by simp))
  | _=>exact absurd (show false=true from hs) Bool.false_ne_true
 | bl i =>
  cases rx
  cases y with
  | non=>cases ry; exact PySem.EqNone.ne_bool_none (zu I q (by simp))
  | bl j=>cases ry; exact ne_bool (zu I q (congrArg not zfA))
  | str j=>obtain⟨t',rfl⟩:=ry; exact PySem.EqMixed.ne_bool_str (zu I q (by simp))
  | _=>exact absurd (show false=true from hs) Bool.false_ne_true
 | int i =>
  obtain⟨t,rfl⟩:=rx
  cases y with
  | non=>cases ry; exact PySem.EqNone.ne_int_none (zu I q (by simp))
  | int j=>obtain⟨t',rfl⟩:=ry; exact ne_int (zu I q (congrArg not zem))
  | str j=>obtain⟨t',rfl⟩:=ry; exact PySem.EqMixed.ne_int_str (zu I q (by simp))
  | _=>exact absurd (show false=true from hs) Bool.false_ne_true
 | str i =>
  obtain⟨t,rfl⟩:=rx
  cases y with
  | non=>cases ry; exact PySem.EqNone.ne_str_none (zu I q (by simp))
  | bl j=>cases ry; exact PySem.EqMixed.ne_str_bool (zu I q (by simp))
  | int j=>obtain⟨t',rfl⟩:=ry; exact PySem.EqMixed.ne_str_int (zu I q (by simp))
  | str j=>obtain⟨t',rfl⟩:=ry; exact ne_str (zu I q (congrArg not zen))
  | _=>exact absurd (show false=true from hs) Bool.false_ne_true
 | byt i =>
  obtain⟨t,rfl⟩:=rx
  cases y with
  | byt j=>obtain⟨t',rfl⟩:=ry; exact PySem.W.ne_bytes (zu I q (congrArg not zeo))
  | _=>exact absurd (show false=true from hs) Bool.false_ne_true
 | _=>cases y <;> exact absurd (show false=true from hs) Bool.false_ne_true
theorem zbV:OpR X (compareOp .Lt) (rI0 fun i j=>.bl (decide (i < j))):=zgk fun _ _ _ _ _ _ _ q=>lt_int q
theorem za4:OpR X (compareOp .LtE) (rI0 fun i j=>.bl (decide (i≤j))):=zgk fun _ _ _ _ _ _ _ q=>le_int q
theorem zhD:OpR X (compareOp .Gt) (rI0 fun i j=>.bl (decide (j < i))):=zgk fun _ _ _ _ _ _ _ q=>gt_int q
theorem zhE:OpR X (compareOp .GtE) (rI0 fun i j=>.bl (decide (j≤i))):=zgk fun _ _ _ _ _ _ _ q=>ge_int q
theorem zX (b:Expr) {op:CmpOp} (h:op≠.In:=by decide) (h2:op≠.NotIn:=by decide):behindInMarks op b=false:=by
 have e1:(op == CmpOp.In)=false:=by cases op <;> first | rfl | exact absurd rfl h
 have e2:(op == CmpOp.NotIn)=false:=by cases op <;> first | rfl | exact absurd rfl h2
 cases b <;> simp [behindInMarks,e1,e2]
theorem zc5 {op:CmpOp} {r:R2} (ho:OpR X (compareOp op) r) (ha:PE X a ta) (hb:PE X b tb) (hm:behindInMarks op b=false):PE X (.Compare a [op] [b] pos) (tOp r ta tb):=by
 intro pins s σ H Q I h
 exact wpAny_Compare1 (zg2 ha hb I h fun v u s2 x y H2 I2 rx ry q=>ho pins s2 σ H2 x y v u Q I2 rx ry q) hm
def zgO (t:TE):TT:=fun σ H Q=>t σ H fun x H'=>∃ k,x = .bl k∧Q k H'
theorem zV {op:CmpOp} {r:R2} (ho:OpR X (compareOp op) r) (ha:PE X a ta) (hb:PE X b tb) (hm:behindInMarks op b=false):PT X (.Compare a [op] [b] pos) (zgO (tOp r ta tb)):=by
 intro pins s σ H Q I h
 refine wpAny_isTrue_Compare1 (thn (ha pins s σ H _ I h) fun v s1 ⟨x,H1,I1,r1,q1⟩=>thn (hb pins s1 σ H1 _ I1 q1) fun u s2 ⟨y,H2,I2,r2,q2⟩ =>
  thn (ho pins s2 σ H2 x y v u _ I2 r1 r2 q2) fun c s3 ⟨z,H3,I3,r3,k,e,q3⟩=>?_) hm
 subst e
 cases r3
 exact wpAny_truthy_bool ⟨H3,I3,q3⟩
def zfC (r r':R2) (ta tb tc:TE):TE:=fun σ H Q=>ta σ H fun x H1=>tb σ H1 fun y H2=>r x y H2 fun z H3=>∃ k,z = .bl k ∧
 (if k=true then tc σ H3 fun w' H4=>r' y w' H4 Q else Q (.bl false) H3)
theorem zfD {op op':CmpOp} {r r':R2} (ho:OpR X (compareOp op) r) (ho':OpR X (compareOp op') r') (ha:PE X a ta) (hb:PE X b tb) (hc:PE X c tc)
  (hm:lastMarks [op,op'] [b,c]=false:=by with_unfolding_all rfl):PE X (.Compare a [op,op'] [b,c] pos) (zfC r r' ta tb tc):=by
 intro pins s σ H Q I h
 refine Compare_chain (thn (ha pins s σ H _ I h) fun v s1 ⟨x,H1,I1,r1,q1⟩=>chain_link (thn (hb pins s1 σ H1 _ I1 q1) fun u s2 ⟨y,H2,I2,r2,q2⟩ =>
  thn (ho pins s2 σ H2 x y v u _ I2 r1 r2 q2) fun d s3 ⟨z,H3,I3,r3,k,e,q3⟩=>?_)) hm
 subst e
 cases r3
 refine wpAny_truthy_bool ?_
 cases k with
 | false=>exact ite_ff ⟨.bl false,H3,I3,rfl,q3⟩
 | true=>exact ite_tt (chain_last (thn (hc pins s3 σ H3 _ I3 q3) fun w' s4 ⟨z',H4,I4,r4,q4⟩=>ho' pins s4 σ H4 y z' u w' Q I4 r2 r4 q4))
theorem zaC {op op':CmpOp} {r r':R2} (ho:OpR X (compareOp op) r) (ho':OpR X (compareOp op') r') (ha:PE X a ta) (hb:PE X b tb) (hc:PE X c tc)
  (hm:lastMarks [op,op'] [b,c]=false:=by with_unfolding_all rfl):PT X (.Compare a [op,op'] [b,c] pos) (zgO (zfC r r' ta tb tc)):=by
 intro pins s σ H Q I h
 refine isTrue_chain (thn (ha pins s σ H _ I h) fun v s1 ⟨x,H1,I1,r1,q1⟩=>test_link (thn (hb pins s1 σ H1 _ I1 q1) fun u s2 ⟨y,H2,I2,r2,q2⟩ =>
  thn (ho pins s2 σ H2 x y v u _ I2 r1 r2 q2) fun d s3 ⟨z,H3,I3,r3,k,e,q3⟩=>?_)) hm
 subst e
 cases r3
 refine wpAny_truthy_bool ?_
 cases k with
 | false =>
  obtain⟨k',e',q'⟩:=q3
  cases e'
  exact ite_ff ⟨H3,I3,q'⟩
 | true =>
  refine ite_tt (test_last (thn (hc pins s3 σ H3 _ I3 q3) fun w' s4 ⟨z',H4,I4,r4,q4⟩=>thn (ho' pins s4 σ H4 y z' u w' _ I4 r2 r4 q4) fun d' s5 ⟨z2,H5,I5,r5,k2,e2,q5⟩=>?_))
  subst e2
  cases r5
  exact wpAny_truthy_bool ⟨H5,I5,q5⟩
theorem zd2:(sizeLine:Nat) < 2 ^ 63:=by rw [sizeLine_eq]; decide
theorem vals1 {x:V} {us:List Value} (r:zt [x] us):∃ u,us = [u]∧RelV x u:=by
 cases r with
 | cons r1 r2=>cases r2; exact⟨_,rfl,r1⟩
theorem vals2 {x y:V} {us:List Value} (r:zt [x,y] us):∃ u w',us = [u,w']∧RelV x u∧RelV y w':=by
 cases r with
 | cons r1 r2 =>
  cases r2 with
  | cons r3 r4=>cases r4; exact⟨_,_,rfl,r1,r3⟩
theorem zcN (hc:X.calm=true):zaB X (.builtin "min") (fun xs H Q=>∃ i j,xs = [.int i,.int j]∧Q (.int (if j < i then j else i)) H):=by
 intro pins s σ H xs us Q I r h
 obtain⟨i,j,rfl,q⟩:=h
 obtain⟨u,w',rfl,⟨t,rfl⟩,⟨t',rfl⟩⟩:=vals2 r
 refine min_two_ints (I.ok.hd hc) fun h' tk k=>⟨_,H,I.kept k,?_,q⟩
 by_cases hj:j < i
 ·rw [if_pos hj,if_pos hj]; exact⟨_,rfl⟩
 ·rw [if_neg hj,if_neg hj]; exact⟨_,rfl⟩
end
end L2
namespace L2
open PySem PySem.Spec PyProof.Rows
structure ObjM (h:Heap) (x dx C:Addr) (mA:Str→Option Value):Prop where
 obj:h.get? x=some (PySem.W.instObj C dx)
 ns:h.Ns1 dx mA
 ne:dx≠x
theorem zeR {h:Heap} {dx:Addr} {mA:Str→Option Value} (n:h.Ns1 dx mA):∃ od,h.get? dx=some od∧∀ name,PySem.W.lookIn name od=some (mA name):=by
 obtain⟨o,es,ep,ho,hd,hk,_,hm⟩:=n
 refine⟨o,ho,fun name=>?_⟩
 have e:=hm name
 unfold nsFind findBy at e
 rw [← Array.find?_toList] at e
 unfold PySem.W.lookIn
 rw [hd]
 dsimp only
 split
 ·rename_i y q
  rw [q] at e
  exact congrArg some e
 ·rename_i q
  rw [q] at e
  have a:es.toList.any (·.refKey)=false:=by
   rw [List.any_eq_false]
   intro y hy
   obtain⟨z,t,hkey⟩:=hk y (Array.mem_toList_iff.mp hy)
   simp [DictEntry.refKey,hkey]
  have a':¬ es.toList.any (·.refKey)=true:=by rw [a]; exact Bool.false_ne_true
  rw [if_neg a']
  exact congrArg some e
theorem ObjM.look {h:Heap} {x dx C:Addr} {mA:Str→Option Value} (I:ObjM h x dx C mA):∃ od,PySem.W.InstAt h x (PySem.W.instObj C dx) C (some od)∧∀ name,PySem.W.lookIn name od=some (mA name) :=
 let ⟨od,ho,hl⟩:=zeR I.ns
 ⟨od,⟨I.obj,rfl,rfl,ho⟩,hl⟩
section
variable {prog:Program} {w:World} {A:Around} {E:Value→Shared→Prop} {s:Shared} {K:PySem.W.Frag} {x dx C f:Addr} {mA:Str→Option Value} {name:Str} {v:Value}
end
section
variable {P:Program} {w:World} {H H':Hp} {h h':Heap} {a C dx:Addr} {fs fs':List (Str×V)}
theorem zgm (hok:HOk P w H h) (e:H a=some (.ins C dx fs)):∃ mA,ObjM h a dx C mA∧(∀ f,zgY (fs.lookup f) (mA f))∧PySem.Within mA (fs.map (·.1))∧fs.length≤1000∧H dx=some (.own a):=by
 obtain⟨d,z,ne,ob,mA,n,r,q⟩:=(show zS P w H h a (.ins C dx fs) from hok a _ e)
 exact⟨mA,⟨ob,n,ne⟩,r,q,z,d⟩
end
structure Cls (K:PySem.W.Frag) (C:Addr):Prop where
 pg:PySem.W.plainGet K C Str.empty=true
 hd:PySem.W.hasDictIn K C=true
 po:PySem.W.plainOver K C=true
 sa:PySem.W.findIn K (.ref C) "__setattr__" = some (some (.builtin "object.__setattr__"))
theorem Cls.get {K:PySem.W.Frag} {C:Addr} (c:Cls K C) (f:Str):PySem.W.plainGet K C f=true:=c.pg
section
variable {X:Cx} {pins:List (Addr×Obj)} {σ:St} {H:Hp} {s:Shared} {a C dx:Addr} {fs:List (Str×V)} {f:Str} {v:V} {A:Around} {E:Value→Shared→Prop}
end
section
variable {X:Cx} {o e value:Expr} {f:Str} {pos pos' tpos:Pos} {ta tv:TE}
end
section
variable {X:Cx} {pins:List (Addr×Obj)} {σ:St} {H:Hp} {s:Shared} {A:Around} {E:Value→Shared→Prop} {Q:Value→Shared→Prop} {c:Value} {b:Bool}
inductive TyOf (K:PySem.W.Frag) (H:Hp):V→Value→Prop where
 | non:TyOf K H .non (.type "NoneType")
 | bl (x:Bool):TyOf K H (.bl x) (.type "bool")
 | int (i:Int):TyOf K H (.int i) (.type "int")
 | str (x:Str):TyOf K H (.str x) (.type "str")
 | flt (x:UInt64):TyOf K H (.flt x) (.type "float")
 | lst {a:Addr} {xs:List V} (e:H a=some (.lst xs)):TyOf K H (.ref a) (.type "list")
 | frz {a:Addr} {o:Obj} {xs:List V} (e:H a=some (.frz o (.lst xs))):TyOf K H (.ref a) (.type "list")
 | tup {a:Addr} {xs:List V} (e:H a=some (.tup xs)):TyOf K H (.ref a) (.type "tuple")
 | dK {a:Addr} {kvs:List (Key×V)} (e:H a=some (.dK kvs)):TyOf K H (.ref a) (.type "dict")
 | dT {a:Addr} {kvs:List (List Key×V)} (e:H a=some (.dT kvs)):TyOf K H (.ref a) (.type "dict")
 | ins {a C dx:Addr} {fs:List (Str×V)} (e:H a=some (.ins C dx fs)) (cl:Cls K C) (ha:PySem.W.findIn K (.ref C) "__class__" = some (some (.builtin "object.__class__")))
   (hn:PySem.W.specialIn K (.builtin "object.__class__") "__get__" = some (some (.builtin "getset_descriptor.__get__"))) (htk:PySem.W.takesIn K (.builtin "object.__class__")=some true)
   (hm:PySem.W.mroIn K C (.type "object")=some true):TyOf K H (.ref a) (.ref C)
theorem zeS {x:V} {u t:Value} (I:Inv X pins σ H s) (rx:RelV x u) (ty:TyOf X.K H x t) (e:PySem.W.kitOne X.K t c=some b) (h:∀ tk,Q (.bool b) { s with toks:=tk }) :
  wpAny (model X.prog X.w) A (call (.builtin "isinstance") [u,c]) Q E s:=by
 cases ty with
 | non=>cases (show u=Value.none from rx); exact PySem.W.kia_one PySem.W.kitx_none I.kIn True.intro e (fun z=>nomatch z) h
 | bl y=>cases (show u=Value.bool y from rx); exact PySem.W.kia_one PySem.W.kitx_bool I.kIn True.intro e (fun z=>nomatch z) h
 | int i=>obtain⟨t,q⟩:=(show ∃ t,u=Value.int i t from rx); cases q; exact PySem.W.kia_one PySem.W.kitx_int I.kIn True.intro e (fun z=>nomatch z) h
 | str y=>obtain⟨t,q⟩:=(show ∃ t,u=Value.str y t from rx); cases q; exact PySem.W.kia_one PySem.W.kitx_str I.kIn True.intro e (fun z=>nomatch z) h
 | flt y=>obtain⟨t,q⟩:=(show ∃ t,u=Value.float y t from rx); cases q; exact PySem.W.kia_one PySem.W.kitx_float I.kIn True.intro e (fun z=>nomatch z) h
 | @lst a xs ea =>
  cases (show u=Value.ref a from rx)
  obtain⟨_,_,n,_,h1⟩:=(show zS X.prog X.w H s.heap a (.lst xs) from I.hok a _ ea)
  exact PySem.W.kia_one PySem.W.kitx_list I.kIn ⟨_,h1,rfl⟩ e (fun z=>nomatch z) h
 | @frz a ob xs ea =>
  cases (show u=Value.ref a from rx)
  obtain⟨_,_,_,n,_,h1⟩:=(show zS X.prog X.w H s.heap a (.frz ob (.lst xs)) from I.hok a _ ea)
  exact PySem.W.kia_one PySem.W.kitx_list I.kIn ⟨_,h1,rfl⟩ e (fun z=>nomatch z) h
 | @tup a xs ea =>
  cases (show u=Value.ref a from rx)
  obtain⟨_,_,_,p⟩:=(show zS X.prog X.w H s.heap a (.tup xs) from I.hok a _ ea)
  obtain⟨o,h1,h2,_⟩:=p
  exact PySem.W.kia_one PySem.W.kitx_tuple I.kIn ⟨o,h1,h2⟩ e (fun z=>nomatch z) h
 | @dK a kvs ea =>
  cases (show u=Value.ref a from rx)
  obtain⟨_,_,vs,_,p⟩:=(show zS X.prog X.w H s.heap a (.dK kvs) from I.hok a _ ea)
  obtain⟨o,es,ep,h1,h2,_⟩:=p
  exact PySem.W.kia_one PySem.W.kitx_dict I.kIn ⟨o,h1,h2.1⟩ e (fun z=>nomatch z) h
 | @dT a kvs ea =>
  cases (show u=Value.ref a from rx)
  obtain⟨_,_,xs,_,o,es,ep,h1,h2,_⟩:=(show zS X.prog X.w H s.heap a (.dT kvs) from I.hok a _ ea)
  exact PySem.W.kia_one PySem.W.kitx_dict I.kIn ⟨o,h1,h2.1⟩ e (fun z=>nomatch z) h
 | @ins a C dx fs ea cl ha hn htk hm =>
  cases (show u=Value.ref a from rx)
  obtain⟨mA,O,_⟩:=zgm I.hok ea
  obtain⟨od,J,_⟩:=O.look
  exact PySem.W.kia_one (PySem.W.kitx_own (cl.get _) cl.hd ha hn htk hm) I.kIn J e (fun z=>nomatch z) h
end
end L2
namespace L2
open PySem PySem.Spec PyProof.Rows
structure Room (k:Nat) (A:Around):Prop where
 hd:A.handled=none
 dp:A.depth+3*k+5 < recursionLimit
 un:A.units+16*k+200 < cLine
theorem Room.mono {j k:Nat} {A:Around} (r:Room k A) (h:j≤k):Room j A:=⟨r.hd,by have:=r.dp; omega,by have:=r.un; omega⟩
theorem Room.deeper {k:Nat} {A:Around} (r:Room (k+1) A) (env:Env):Room k (A.deeper env) :=
 ⟨r.hd,by have:=r.dp; show A.depth+1+3*k+5 < _; omega,by have:=r.un; show A.units+3+16*k+200 < _; omega⟩
theorem Room.depth {k:Nat} {A:Around} (r:Room k A):A.depth < recursionLimit:=by have:=r.dp; omega
theorem Room.units {k:Nat} {A:Around} (r:Room k A):A.units+64 < cLine:=by have:=r.un; omega
def zh6:TA:=fun _ H Q=>Q [] H
def zgP (ta:TE) (tr:TA):TA:=fun σ H Q=>ta σ H fun x H1=>tr σ H1 fun xs H2=>Q (x :: xs) H2
section
variable {X:Cx} {e:Expr} {es:List Expr} {te:TE} {t:TA} {pos:Pos}
theorem zd:PA X [] zh6:=fun _ _ _ _ H Q I h=>Calls.spliced_nil ⟨[],H,I,.nil,h⟩
theorem za (ha:PE X e te) (hr:PA X es t) (hs:starEach (e :: es) X.env=(false,eval e X.env) :: starEach es X.env:=by rfl):PA X (e :: es) (zgP te t):=by
 intro pos pins s σ H Q I h
 rw [hs]
 show wpAny _ _ (spliced ((false,eval e X.env) :: backTo pos (starEach es X.env))) _ _ s
 refine Calls.spliced_cons (thn (ha pins s σ H _ I h) fun u s1 ⟨x,H1,I1,r1,q1⟩=>?_)
 exact thn (hr pos pins s1 σ H1 _ I1 q1) fun us s2 ⟨xs,H2,I2,r2,q2⟩=>⟨x :: xs,H2,I2,.cons r1 r2,q2⟩
def zh7 (t:TA):TE:=fun σ H Q=>t σ H fun xs H1=>xs.length≤sizeLine∧∀ p,H1 p=none→Q (.ref p) (upd H1 p (.tup xs))
def zgn (t:TA):TE:=fun σ H Q=>t σ H fun xs H1=>xs.length≤sizeLine∧∀ p,H1 p=none→Q (.ref p) (upd H1 p (.lst xs))
theorem zN {x1} (h:PA X es t):PE X (.Tuple es x1 pos) (zh7 t):=by
 intro pins s σ H Q I hq
 refine wpAny_Tuple_spliced (thn (h pos pins s σ H _ I hq) fun us s1 ⟨xs,H1,I1,r,z,q⟩=>⟨by rw [← r.length]; exact z,?_⟩)
 have hf:H1 s1.heap.objs.size=none:=I1.hok.fresh (Nat.le_refl _)
 refine⟨.ref s1.heap.objs.size,upd H1 s1.heap.objs.size (.tup xs),I1.laid (t':=s1.toks) (fun b u e=>Heap.get?_push_of_some _ e) (Nat.le_refl _) ?_,rfl,q _ hf⟩
 exact⟨z,us,r,⟨_,Heap.get?_push_size _ rfl,rfl,_,rfl⟩⟩
theorem zY (h:PA X es t):PE X (.List es pos) (zgn t):=by
 intro pins s σ H Q I hq
 refine wpAny_List_spliced (thn (h pos pins s σ H _ I hq) fun us s1 ⟨xs,H1,I1,r,z,q⟩=>⟨by rw [← r.length]; exact z,?_⟩)
 have hf:H1 s1.heap.objs.size=none:=I1.hok.fresh (Nat.le_refl _)
 refine⟨.ref s1.heap.objs.size,upd H1 s1.heap.objs.size (.lst xs),I1.laid (t':=s1.toks) (fun b u e=>Heap.get?_push_of_some _ e) (Nat.le_refl _) ?_,rfl,q _ hf⟩
 exact⟨z,us,0,r,Heap.get?_push_size _ rfl⟩
end
abbrev Sp:=List V→Hp→VK→XK→Prop
abbrev CXT:=List Env→Hp→Shared→XK→Value→Shared→Prop
structure Env0 (P:Program) (w:World) (K:PySem.W.Frag) (mg:Str→Option Value) (base:Heap) (A:Around) (outer:List Env) (s:Shared) (H:Hp):Prop where
 frames:A.frames=some outer
 mod:Mod K mg base
 bs:∀ b o,base.get? b=some o→s.heap.get? b=some o∧H b=none
 bsz:base.objs.size≤s.heap.objs.size
 funs:s.heap.FunFrames base outer
 frf:∀ b∈frs outer,H b=none
 hok:HOk P w H s.heap
 bare:AllBare s.gens
def CE (outer:List Env) (P:Program) (w:World) (H:Hp) (s:Shared) (Q:VK) (u:Value) (s':Shared):Prop :=
 ∃ v H',s'.os=s.os∧AllBare s'.gens∧Un (frs outer) [] H H' s.heap s'.heap∧HOk P w H' s'.heap∧RelV v u∧Q v H'
def CR (CX:CXT) (outer:List Env) (P:Program) (w:World) (H:Hp) (s:Shared) (Q:VK) (E:XK) (r:Result) (s':Shared):Prop :=
 match r with
 | .ok (.ret u)=>CE outer P w H s Q u s'
 | .ok _=>False
 | .error e=>CX outer H s E e s'
structure FnOk (P:Program) (w:World) (K:PySem.W.Frag) (mg:Str→Option Value) (base:Heap) (CX:CXT) (k:Nat) (f:Addr) (fd:FuncData) (ps:List Str) (sp:Sp):Prop where
 len:∀ vs H Q E,sp vs H Q E→vs.length=ps.length
 run:∀ (A:Around) (outer:List Env) (s:Shared) (H:Hp) (args:Args) (us:List Value) (vs:List V) (Q:VK) (E:XK),Room k A→Env0 P w K mg base A outer s H→BindsTo s fd args (ps.zip us)→zt vs us→sp vs H Q E →
  codeAny (model P w) A (.call (.ref f) args) (CR CX outer P w H s Q E) s
section
variable {X:Cx} {pins:List (Addr×Obj)} {σ:St} {H:Hp} {s s':Shared}
theorem Inv.env0 (I:Inv X pins σ H s):Env0 X.prog X.w X.K X.mg X.base X.A X.stack s H :=
 ⟨I.ok.frames,I.ok.mod,I.bs,Nat.le_trans I.ok.bsz I.sz,I.stack,I.stkFree,I.hok,I.bare⟩
theorem Inv.after {Q:VK} {u:Value} (I:Inv X pins σ H s) (h:CE X.stack X.prog X.w H s Q u s'):EP X pins σ Q u s':=by
 obtain⟨v,H',os,bare,un,hok,r,q⟩:=h
 obtain⟨hh,g,d,t,os'⟩:=s'
 obtain rfl:os'=s.os:=os
 exact⟨v,H',I.call (h':=hh) (g':=g) (d':=d) (t':=t) (ch:=[]) un hok bare (fun b z=>absurd z (by simp)),r,q⟩
end
def zhF (sp:Sp) (dvs:List V) (E:XK) (t:TA):TE:=fun σ H Q=>t σ H fun vs H1=>sp (vs++dvs) H1 Q E
def Binds (K:PySem.W.Frag) (fd:FuncData) (ps:List Str) (ds:List Value):Prop :=
 ∀ (s:Shared) (us:List Value),K.In s.heap→(us++ds).length=ps.length→BindsTo s fd ⟨us,[]⟩ (ps.zip (us++ds))
theorem Binds.all {K:PySem.W.Frag} {fd:FuncData} {ps:List Str} (h:∀ us:List Value,us.length=ps.length→bindArgs fd ⟨us,[]⟩=pure (ps.zip us)):Binds K fd ps []:=fun s us _ hl=>by
 rw [List.append_nil] at hl ⊢
 exact .of_eq (h us hl)
def zd3 (CX:CXT) (X:Cx) (E:XK):Prop:=∀ (pins:List (Addr×Obj)) (σ:St) (H:Hp) (s:Shared) (e:Value) (s':Shared),Inv X pins σ H s→CX X.stack H s E e s'→X.xe e s'
section
variable {X:Cx} {CX:CXT} {k:Nat} {f C:Addr} {fd:FuncData} {ps:List Str} {sp:Sp} {dvs:List V} {ds:List Value} {E:XK} {x m:Str} {p pos apos:Pos} {e o:Expr} {es:List Expr} {ta:TE} {t:TA}
theorem zg4 {pins:List (Addr×Obj)} {σ:St} {H:Hp} {s:Shared} {Q:VK} {us:List Value} {vs:List V} (F:FnOk X.prog X.w X.K X.mg X.base CX k f fd ps sp) (hr:Room k X.A) (hb:Binds X.K fd ps ds) (hd:zt dvs ds) (hx:zd3 CX X E)
  (I:Inv X pins σ H s) (r:zt vs us) (h:sp (vs++dvs) H Q E):wpAny (model X.prog X.w) X.A (call (.ref f) us) (EP X pins σ Q) X.xe s:=by
 have r2:zt (vs++dvs) (us++ds):=r.append hd
 have hl:(us++ds).length=ps.length:=by rw [← r2.length]; exact F.len _ _ _ _ h
 refine wpAny_call (codeAny_mono (F.run X.A X.stack s H ⟨us,[]⟩ (us++ds) (vs++dvs) Q E hr I.env0 (hb s us I.kIn hl) r2 h) fun r s' hq=>?_)
 cases r with
 | error e=>exact hx pins σ H s e s' I hq
 | ok fl =>
  cases fl with
  | ret u=>exact I.after hq
  | next=>exact False.elim hq
  | brk=>exact False.elim hq
  | cont=>exact False.elim hq
theorem zD (F:FnOk X.prog X.w X.K X.mg X.base CX k f fd ps sp) (hr:Room k X.A) (hg:Gl X x) (hm:X.mg x=some (.ref f)) (hk:PySem.W.keepIn X.K (.ref f)=true) (hb:Binds X.K fd ps ds) (hd:zt dvs ds) (hx:zd3 CX X E)
  (ha:PA X (e :: es) t) (hdb:(x == ("__debug__" : Str))=false:=by decide) (he:starEach (e :: es) X.env=(false,eval e X.env) :: starEach es X.env:=by rfl) (hpl:(backTo pos (starEach es X.env)).any (·.1)=false:=by rfl) :
  PE X (.Call (.Name x p) (e :: es) [] pos) (zhF sp dvs E t):=by
 intro pins s σ H Q I h
 refine wpAny_Call_Name_kw (zel I hg hm ?_ hdb)
 refine PySem.W.callWith_K (h₀:=X.base) I.ok.mod.kin hk (thn (ha pos pins s σ H _ I h) fun us s1 ⟨vs,H1,I1,r,q⟩=>⟨I1.kIn,?_⟩) he hpl
 exact zg4 F hr hb hd hx I1 r q
end
section
variable {X:Cx} {CX:CXT} {k:Nat} {f C:Addr} {fd:FuncData} {ps ks:List Str} {sp:Sp} {E:XK} {x m:Str} {p pos apos kpos:Pos} {e o:Expr} {es:List Expr} {kws:List Keyword} {te ta:TE} {t tk:TA} {nm:Option Str}
variable {g:List Value→List Value→List Value} {gV:List V→List V→List V}
end
structure FnScope (N P:List Str) (sc:Scope):Prop where
 kind:sc.kind = .function
 co:sc.isCoroutine=false
 gen:sc.isGenerator=false
 nd:N.Nodup
 pre:N.take P.length=P
 par:∀ x∈P,sc.names.lookup x=some .local∨sc.names.lookup x=some .cell
 nofree:∀ y∈sc.names,y.2≠.free
theorem zcO {kindOf:Str→Option NameKind} {x:Str}:∀ {binds:List (Str×Value)} {m:Str→Option Value},(∀ v,(x,v)∉binds)→bindL kindOf binds m x=m x
 | [],_,_=>rfl
 | (n,v) :: r,m,h=>by
  unfold bindL
  rw [zcO fun w hw=>h w (List.mem_cons_of_mem _ hw)]
  split
  ·have:x≠n:=by rintro rfl; exact h v List.mem_cons_self
   simp [this]
  ·rfl
theorem zcP {kindOf:Str→Option NameKind} {x:Str}:∀ {binds:List (Str×Value)} {m:Str→Option Value},(∀ v,(x,v)∉binds)→bindC kindOf binds m x=m x
 | [],_,_=>rfl
 | (n,v) :: r,m,h=>by
  unfold bindC
  rw [zcP fun w hw=>h w (List.mem_cons_of_mem _ hw)]
  split
  ·rfl
  ·have:x≠n:=by rintro rfl; exact h v List.mem_cons_self
   simp [this]
theorem zcQ {kindOf:Str→Option NameKind} {x:Str} {v:Value}:∀ {P:List Str} {vs:List Value} {i:Nat} {m:Str→Option Value},P.Nodup→P[i]? = some x→vs[i]? = some v→kindOf x=some .local →
  bindL kindOf (P.zip vs) m x=some v
 | [],_,_,_,_,h,_,_=>by simp at h
 | _ :: _,[],_,_,_,_,h,_=>by simp at h
 | p :: P,w :: vs,0,m,nd,h1,h2,hk=>by
  simp at h1 h2; subst h1; subst h2
  show bindL kindOf ((p,w) :: P.zip vs) m p=_
  unfold bindL
  rw [zcO fun v hv=>(List.nodup_cons.mp nd).1 (List.of_mem_zip hv).1,if_pos hk]
  simp
 | p :: P,w :: vs,i+1,m,nd,h1,h2,hk=>by
  show bindL kindOf ((p,w) :: P.zip vs) m x=_
  unfold bindL
  exact zcQ (i:=i) (List.nodup_cons.mp nd).2 (by simpa using h1) (by simpa using h2) hk
theorem zcR {kindOf:Str→Option NameKind} {x:Str} {v:Value}:∀ {P:List Str} {vs:List Value} {i:Nat} {m:Str→Option Value},P.Nodup→P[i]? = some x→vs[i]? = some v→kindOf x≠some .local →
  bindC kindOf (P.zip vs) m x=some v
 | [],_,_,_,_,h,_,_=>by simp at h
 | _ :: _,[],_,_,_,_,h,_=>by simp at h
 | p :: P,w :: vs,0,m,nd,h1,h2,hk=>by
  simp at h1 h2; subst h1; subst h2
  show bindC kindOf ((p,w) :: P.zip vs) m p=_
  unfold bindC
  rw [zcP fun v hv=>(List.nodup_cons.mp nd).1 (List.of_mem_zip hv).1,if_neg hk]
  simp
 | p :: P,w :: vs,i+1,m,nd,h1,h2,hk=>by
  show bindC kindOf ((p,w) :: P.zip vs) m x=_
  unfold bindC
  exact zcR (i:=i) (List.nodup_cons.mp nd).2 (by simpa using h1) (by simpa using h2) hk
def start (N:List Str) (vs:List V):St:=vs.map some++List.replicate (N.length - vs.length) none
def zeT (CX:CXT) (P:Program) (w:World) (K:PySem.W.Frag) (mg:Str→Option Value) (base:Heap) (N:List Str) (qual:Str) (scope:Scope) (f:Addr) (cd:Value) (A:Around) (outer:List Env) (s:Shared) (H:Hp) (E:XK):Cx where
 prog:=P
 w:=w
 K:=K
 mg:=mg
 base:=base
 A:=A.deeper (envOfC qual scope s.heap.objs.size f cd)
 N:=N
 s₀:=s
 H₀:=H
 env:=envOfC qual scope s.heap.objs.size f cd
 outer:=outer
 stack:=envOfC qual scope s.heap.objs.size f cd :: outer
 ex:=[]
 calm:=true
 fn:=fun _=>true
 pn:=[]
 xe:=fun e s'=>wpAny (model P w) (A.deeper (envOfC qual scope s.heap.objs.size f cd)) (leaving (envOfC qual scope s.heap.objs.size f cd) e) (fun _ s''=>CX outer H s E e s'') (fun e' s''=>CX outer H s E e' s'') s'
theorem zdw {sc:Scope} {n:Nat} {x:Str} (h:sc.names.lookup x=some .cell):∃ c,(cellsFrom n sc.names []).lookup x=some c:=by
 have q:=PySem.W.cellsFrom_some sc.names n [] (.inl h)
 exact Option.isSome_iff_exists.mp q
theorem zeU {CX:CXT} {P:Program} {w:World} {K:PySem.W.Frag} {mg:Str→Option Value} {base:Heap} {N ps:List Str} {qual:Str} {scope:Scope} {f:Addr} {cd:Value} {A:Around} {outer:List Env} {s s1:Shared} {H:Hp} {E:XK} {us:List Value} {vs:List V}
  (S:FnScope N ps scope) (hd:A.handled=none) (e0:Env0 P w K mg base A outer s H) (hl:vs.length=ps.length) (r:zt vs us)
  (x:InCallC s s.heap.objs.size (bindL (envOfC qual scope s.heap.objs.size f cd).kindOf (ps.zip us) fun _=>none) (cellsFrom (s.heap.objs.size+1) scope.names []) (bindC (envOfC qual scope s.heap.objs.size f cd).kindOf (ps.zip us) fun _=>none) s1) :
  Inv (zeT CX P w K mg base N qual scope f cd A outer s H E) [] (start N vs) H s1:=by
 have hpl:ps.length≤N.length:=by have:=congrArg List.length S.pre; rw [List.length_take] at this; omega
 obtain⟨h1,tk,rfl,hk⟩:=x.done
 have noA:∀ b:Addr,b∉(zeT CX P w K mg base N qual scope f cd A outer s H E).ex:=fun b z=>absurd (show b∈([]:List Addr) from z) (by simp)
 refine⟨⟨e0.mod,S.kind,rfl,rfl,Nat.le_refl _,fun y z c h1 h2=>?_,fun y hy=>?_,fun y c _ h=>?_,fun _=>hd,Around.frames_deeper e0.frames,.inr ⟨rfl,rfl⟩,fun b z=>absurd z (noA b),e0.bs,e0.bsz,fun b _ _=>noA b,fun b z=>absurd z (noA b),e0.funs,e0.frf⟩,
  rfl,e0.bare,Un.kept hk,⟨_,x.toInCall.ns,fun i y v h1 h2 h3=>?_⟩,fun y c h=>⟨_,x.cell y c h⟩,e0.hok.fresh (Nat.le_refl _),fun y c h=>?_,fun p hp=>absurd (show p∈([]:List (Addr×Obj)) from hp) (by simp),e0.hok.kept hk,?_⟩
 ·exact name_of_addr x.apart (PySem.mem_of_lookup h1) (PySem.mem_of_lookup h2)
 ·have hy:scope.names.lookup y=some .cell∨scope.names.lookup y=some .free:=hy
  rcases hy with hy | hy
  ·exact zdw hy
  ·exact absurd rfl (S.nofree _ (PySem.mem_of_lookup hy))
 ·exact Nat.le_of_lt (x.above y c (PySem.mem_of_lookup h))
 ·have hi:i < vs.length:=by
   unfold start at h2
   by_cases hi:i < vs.length
   ·exact hi
   ·rw [List.getElem?_append_right (by simpa using hi)] at h2
    rw [List.getElem?_replicate] at h2
    split at h2 <;> cases h2
  have ha:vs[i]? = some v:=by
   unfold start at h2
   rw [List.getElem?_append_left (by simpa using hi),List.getElem?_map] at h2
   cases e:vs[i]? with
   | none=>rw [e] at h2; cases h2
   | some a=>rw [e] at h2; cases h2; rfl
  obtain⟨u,hu,rv⟩:=r.get ha
  have hp:ps[i]? = some y:=by
   rw [← S.pre,List.getElem?_take_of_lt (by omega)]; exact h1
  have ndP:ps.Nodup:=by rw [← S.pre]; exact S.nd.sublist (List.take_sublist _ _)
  refine⟨u,rv,?_⟩
  rcases S.par y (List.mem_of_getElem? hp) with k | k
  ·exact .inl ⟨k,zcQ ndP hp hu k⟩
  ·obtain⟨c,e⟩:=zdw (n:=s.heap.objs.size+1) k
   refine .inr ⟨.inl k,c,e,?_⟩
   have q:=x.cell y c e
   rw [zcR ndP hp hu (by show scope.names.lookup y≠_; rw [k]; decide)] at q
   exact q
 ·exact e0.hok.fresh (Nat.le_of_lt (x.above y c (PySem.mem_of_lookup h)))
 ·unfold start
  show _=N.length
  rw [List.length_append,List.length_map,List.length_replicate]
  omega
theorem zhG {CX:CXT} {P:Program} {w:World} {K:PySem.W.Frag} {mg:Str→Option Value} {base:Heap} {k:Nat} {f:Addr} {name qual:Str} {params:Arguments} {body:List Stmt} {scope:Scope} {dV kV doc pm cdv ct oc:Value} {an od:Option Addr}
  {osl:Array (Option Value)} {N ps:List Str} {sp:Sp} (lk:K.lookup f=some ⟨oc,od,.func (PySem.W.fnOf name qual params body scope dV kV doc pm an cdv ct),osl⟩) (hcd:PySem.W.codeIn K cdv qual=true) (S:FnScope N ps scope)
  (len:∀ vs H Q E,sp vs H Q E→vs.length=ps.length)
  (hbody:∀ (A:Around) (outer:List Env) (s:Shared) (H:Hp) (vs:List V) (Q:VK) (E:XK),Room k (A.deeper (envOfC qual scope s.heap.objs.size f cdv))→sp vs H Q E →
   ∃ t,PSs (zeT CX P w K mg base N qual scope f cdv A outer s H E) body t∧t { nx:=fun _ H'=>Q .non H',rt:=Q } (start N vs) H) :
  FnOk P w K mg base CX (k+1) f (PySem.W.fnOf name qual params body scope dV kV doc pm an cdv ct) ps sp:=by
 refine⟨len,fun A outer s H args us vs Q E hr e0 hb r hsp=>?_⟩
 have hl:=len _ _ _ _ hsp
 have KX:K.In s.heap:=e0.mod.kin.keeps fun b o e=>(e0.bs b o e).1
 have lim:s.heap.NoLimit:=e0.mod.nolimit.keeps fun b o e=>(e0.bs b o e).1
 have hkind:∀ y∈ps.zip us,scope.names.lookup y.1=some .local∨(scope.names.lookup y.1=some .cell∧((cellsFrom (s.heap.objs.size+1) scope.names []).lookup y.1).isSome=true):=fun ⟨n,v⟩ hy=>by
  rcases S.par n (List.of_mem_zip hy).1 with q | q
  ·exact .inl q
  ·exact .inr ⟨q,PySem.W.cellsFrom_some _ _ _ (.inl q)⟩
 refine codeAny_call_function hr.depth (KX _ _ lk) rfl S.co S.gen rfl (PySem.W.codeRec_of KX hcd) (hb _ _ _ _ ?_)
 refine wpAny_newFunctionEnv_cells S.kind hkind fun env he s1 x=>?_
 subst he
 refine⟨lim.keeps x.toInCall.keep,codeAny_func ?_⟩
 obtain⟨t,ht,hq⟩:=hbody A outer s H vs Q E (hr.deeper _) hsp
 have I:Inv (zeT CX P w K mg base N qual scope f cdv A outer s H E) [] (start N vs) H s1:=zeU S hr.hd e0 hl r x
 refine wpAny_mono (ht [] s1 (start N vs) H _ I hq) (fun fl s' hs=>?_) fun e s' hs=>hs
 have fin:∀ {σ':St} {H':Hp} {v:V} {u:Value},Inv (zeT CX P w K mg base N qual scope f cdv A outer s H E) [] σ' H' s'→RelV v u→Q v H'→CE outer P w H s Q u s' :=
  fun {σ' H' v u} J rv q=>⟨v,H',J.os,J.bare,J.base,J.hok,rv,q⟩
 cases fl with
 | ret u =>
  obtain⟨v,σ',H',J,rv,q⟩:=hs
  exact fin J rv q
 | next =>
  obtain⟨σ',H',J,q⟩:=hs
  exact fin (v:=V.non) (u:=Value.none) J rfl q
 | brk =>
  obtain⟨_,_,_,q⟩:=hs
  exact False.elim q
 | cont =>
  obtain⟨_,_,_,q⟩:=hs
  exact False.elim q
end L2
namespace L2
open PySem PySem.Spec PyProof.Rows
section
variable {X:Cx} {x:Str} {p pos:Pos} {e:Expr} {es:List Expr} {t:TA} {id T:String} {r:List V→Hp→VK→Prop}
def tCB (r:List V→Hp→VK→Prop) (t:TA):TE:=fun σ H Q=>t σ H fun vs H1=>r vs H1 Q
theorem zl (hc:zaB X (.builtin id) r) (hg:Gl X x) (hm:X.mg x=none) (hv:bootBuiltins x=some (.builtin id)) (ha:PA X (e :: es) t) (hn:x≠"__name__":=by decide) (hdb:(x == ("__debug__" : Str))=false:=by decide)
  (he:starEach (e :: es) X.env=(false,eval e X.env) :: starEach es X.env:=by rfl) (hpl:(backTo pos (starEach es X.env)).any (·.1)=false:=by rfl):PE X (.Call (.Name x p) (e :: es) [] pos) (tCB r t):=by
 intro pins s σ H Q I h
 refine wpAny_Call_Name_kw (zbk I hg hm hv ?_ hn hdb)
 exact PyProof.Rows.callWith_builtin1 (thn (ha pos pins s σ H _ I h) fun us s1 ⟨vs,H1,I1,r1,q1⟩=>hc pins s1 σ H1 vs us Q I1 r1 q1) he hpl
theorem zak (hc:zaB X (.type T) r) (hg:Gl X x) (hm:X.mg x=none) (hv:bootBuiltins x=some (.type T)) (ha:PA X (e :: es) t) (hn:x≠"__name__":=by decide) (hdb:(x == ("__debug__" : Str))=false:=by decide)
  (he:starEach (e :: es) X.env=(false,eval e X.env) :: starEach es X.env:=by rfl) (hpl:(backTo pos (starEach es X.env)).any (·.1)=false:=by rfl):PE X (.Call (.Name x p) (e :: es) [] pos) (tCB r t):=by
 intro pins s σ H Q I h
 refine wpAny_Call_Name_kw (zbk I hg hm hv ?_ hn hdb)
 exact PyProof.Rows.callWith_type1 (thn (ha pos pins s σ H _ I h) fun us s1 ⟨vs,H1,I1,r1,q1⟩=>hc pins s1 σ H1 vs us Q I1 r1 q1) he hpl
end
end L2
namespace HT
open PySem PyProof.Rows
section
open PySem.SeqAt
open PySem.AutoSeq1 (wpAny_loadPart')
open PySem.MeetsSeq PySem.MeetsSeq2 PySem.MeetsSeq3
end
section
variable {prog:Program} {w:World} {A:Around} {E:Value→Shared→Prop} {s:Shared}
theorem cat_tup {t b:Addr} {vs ws:List Value} {Q:Value→Shared→Prop} (ht:IsTup s.heap t vs.toArray) (hb:IsTup s.heap b ws.toArray) (hv:vs≠[])
  (h1:ws = []→Q (.ref t) s) (h2:ws≠[]→Q (.ref s.heap.objs.size) { s with heap:=s.heap.push { cls:=.type "tuple",data:=.seq (vs++ws).toArray } })
  (hsz:vs.length+ws.length≤sizeLine):wpAny (model prog w) A (binaryOp .Add (.ref t) (.ref b)) Q E s:=by
 obtain⟨⟨cls,dd,data,sl⟩,ho,hc,n,hd⟩:=id ht
 obtain⟨⟨cls2,dd2,data2,sl2⟩,ho2,hc2,n2,hd2⟩:=id hb
 simp only at hc hd hc2 hd2
 subst hc hd hc2 hd2
 have e:vs.toArray++ws.toArray=(vs++ws).toArray:=by simp
 by_cases hw:ws = []
 ·exact concat_meets ⟨_,ho,rfl⟩ ⟨_,ho2,rfl⟩ noFill_tuple_add seq_tuple_add PySem.F.slot_tuple_add PySem.F.entry_tuple_add (PySem.F.args_tuple_add_2 _ _)
   (tuple_addW1 t b vs.toArray ws.toArray n n2 dd dd2 sl sl2 (by simpa using hv) (by simp [hw])) ⟨ho,ho2,h1 hw⟩
 ·refine concat_meets ⟨_,ho,rfl⟩ ⟨_,ho2,rfl⟩ noFill_tuple_add seq_tuple_add PySem.F.slot_tuple_add PySem.F.entry_tuple_add (PySem.F.args_tuple_add_2 _ _)
   (tuple_addW2 t b vs.toArray ws.toArray n n2 dd dd2 sl sl2 (by simpa using hv) (by simpa using hw) (by rw [List.size_toArray,List.size_toArray]; exact hsz)) ⟨ho,ho2,?_⟩
  rw [e]
  exact h2 hw
def sIx (n d:Nat):Option Int→Nat
 | none=>d
 | some v=>if v < 0 then (v+(n:Int)).toNat else min v.toNat n
theorem zg5 (n d:Nat) (hd:d≤n) (o:Option Int):sIx n d o≤n:=by
 cases o with
 | none=>exact hd
 | some v =>
  show (if v < 0 then (v+(n:Int)).toNat else min v.toNat n)≤n
  by_cases hv:v < 0
  ·rw [if_pos hv]; omega
  ·rw [if_neg hv]; exact Nat.min_le_right _ _
theorem zep (v:Int) (n d:Nat):(if v < 0 then max (v+(n:Int)) 0 else min v (n:Int))=((sIx n d (some v):Nat):Int):=by
 show (if v < 0 then max (v+(n:Int)) 0 else min v (n:Int))=(((if v < 0 then (v+(n:Int)).toNat else min v.toNat n):Nat):Int)
 by_cases hv:v < 0
 ·simp only [if_pos hv]; omega
 ·simp only [if_neg hv]; omega
theorem zd4 (lo hi:Option Int) (n:Nat):Builtin.Slice.sliceAdjust lo hi 1 (n:Int)=(((sIx n 0 lo:Nat):Int),((sIx n n hi:Nat):Int)):=by
 have h1:¬ ((1:Int) < 0):=by omega
 unfold Builtin.Slice.sliceAdjust
 simp only [h1,if_false]
 refine Prod.ext ?_ ?_
 ·cases lo with
  | none=>rfl
  | some v=>exact zep v n 0
 ·cases hi with
  | none=>rfl
  | some v=>exact zep v n n
theorem zd5 (i j:Nat):Builtin.Slice.slicePlaces (i:Int) (j:Int) 1=j - i:=by
 unfold Builtin.Slice.slicePlaces
 have h1:(1:Int) > 0:=by omega
 simp only [h1,if_true,Int.ediv_one]
 split <;> omega
theorem zcj {v:Value} {o:Option Int} {Q:Option Int→Shared→Prop} (p:IsPart v o) (h:Q o s):wpAny (model prog w) A (Builtin.Slice.slicePartIndex v) Q E s:=by
 cases p with
 | none=>exact slicePart_none h
 | int i t=>exact slicePart_int h
theorem zaL {sl:Addr} {vl vu:Value} {lo hi:Option Int} {n:Nat} {Q:Int×Int×Nat→Shared→Prop} (hs:s.heap.IsSliceOf sl vl vu .none) (pl:IsPart vl lo) (pu:IsPart vu hi)
  (h:Q (((sIx n 0 lo:Nat):Int),1,sIx n n hi - sIx n 0 lo) s):wpAny (model prog w) A (Builtin.Slice.sliceApplied (.ref sl) (pure (n:Int))) Q E s:=by
 obtain⟨os,hos,hcs,hds⟩:=id hs
 unfold Builtin.Slice.sliceApplied Builtin.Slice.sliceFields
 refine wpAny_bind (wpAny_bind (wpAny_field hos hds (x:=vl) rfl (wpAny_bind (wpAny_field hos hds (x:=vu) rfl (wpAny_bind (wpAny_field hos hds (x:=.none) rfl (wpAny_pure ?_)))))))
 refine wpAny_bind (slicePart_none ?_)
 show wpAny _ _ (if ((1:Int) == 0)=true then _ else _) _ _ s
 rw [if_neg (by decide)]
 refine wpAny_bind (zcj pl (wpAny_bind (zcj pu (wpAny_bind (wpAny_pure ?_)))))
 show wpAny _ _ (match Builtin.Slice.sliceAdjust lo hi 1 (n:Int) with | (lo,hi)=>pure (lo,(1:Int),Builtin.Slice.slicePlaces lo hi 1)) _ _ s
 rw [zd4 lo hi n]
 show wpAny _ _ (pure (((sIx n 0 lo:Nat):Int),(1:Int),Builtin.Slice.slicePlaces ((sIx n 0 lo:Nat):Int) ((sIx n n hi:Nat):Int) 1)) _ _ s
 rw [zd5]
 exact wpAny_pure h
theorem zfE (xs:Array Value) (i k:Nat):((List.range k).filterMap fun (m:Nat)=>xs[((i:Int)+(m:Int)*1).toNat]?).toArray=((xs.toList.drop i).take k).toArray:=by
 have e:(fun (m:Nat)=>xs[((i:Int)+(m:Int)*1).toNat]?)=fun m=>xs[i+m]?:=by
  funext m
  have:((i:Int)+(m:Int)*1).toNat=i+m:=by omega
  rw [this]
 rw [e]
 have:=pick_run xs i k
 rw [List.filterMap_map] at this
 have e2:((fun x=>xs[x]?) ∘ fun x=>i+x)=fun m=>xs[i+m]?:=rfl
 rw [e2] at this
 rw [this]
theorem getItem_tuple_cut {t sl:Addr} {items:Array Value} {vl vu:Value} {lo hi:Option Int} {Q:Value→Shared→Prop} (ht:IsTup s.heap t items) (hs:s.heap.IsSliceOf sl vl vu .none) (pl:IsPart vl lo) (pu:IsPart vu hi)
  (hw:¬ (sIx items.size 0 lo=0∧sIx items.size items.size hi=items.size))
  (h:Q (.ref s.heap.objs.size) { s with heap:=s.heap.push { cls:=.type "tuple",data:=.seq ((items.toList.drop (sIx items.size 0 lo)).take (sIx items.size items.size hi - sIx items.size 0 lo)).toArray } })
  (hsz:items.size≤sizeLine):wpAny (model prog w) A (getItem (.ref t) (.ref sl)) Q E s:=by
 have htake:sizeOk (.seq ((items.toList.drop (sIx items.size 0 lo)).take (sIx items.size items.size hi - sIx items.size 0 lo)).toArray):=by
  show ((items.toList.drop (sIx items.size 0 lo)).take (sIx items.size items.size hi - sIx items.size 0 lo)).toArray.size≤sizeLine
  rw [List.size_toArray,List.length_take,List.length_drop,Array.length_toList]
  omega
 have hj:sIx items.size items.size hi≤items.size:=zg5 _ _ (Nat.le_refl _) hi
 obtain⟨os,hos,hcs,hds⟩:=id hs
 have hTs:s.TypeIs (.ref sl) "slice":=⟨os,hos,hcs⟩
 unfold getItem
 try with_reducible refine wpAny_holding ?_
 first | refine wpAny_bind (wpAny_pure ?_) | skip
 refine wpAny_bind (wpAny_sequenceKey ht.typeIs (by decide) ?_)
 refine wpAny_bind (wpAny_callSpecial?_slot (name:=Str.ofString "__getitem__") ht.typeIs PyProof.Rows.slot_tuple_getitem
  (wpAny_call_entry PyProof.Rows.slot_tuple_getitem ht.typeIs entry_tuple_getitem ?_ (args_tuple_getitem _ _)))
 show wpAny _ _ (Builtin.Tuple.tupleItemsOf (.ref t) >>= _) _ _ s
 refine wpAny_bind (tupleItemsOf_ ht ?_)
 refine wpAny_bind (wpAny_typeOf hTs ?_)
 rw [if_pos (by decide)]
 refine wpAny_bind (zaL hs pl pu ?_)
 have hno:¬ ((((sIx items.size 0 lo:Nat):Int) == 0 && (1:Int) == 1 && (sIx items.size items.size hi - sIx items.size 0 lo) == items.size)=true):=by
  intro q
  rw [Bool.and_eq_true,Bool.and_eq_true] at q
  have q1:((sIx items.size 0 lo:Nat):Int)=0:=eq_of_beq q.1.1
  have q2:sIx items.size items.size hi - sIx items.size 0 lo=items.size:=eq_of_beq q.2
  exact hw ⟨by omega,by omega⟩
 show wpAny _ _ (if (((sIx items.size 0 lo:Nat):Int) == 0 && (1:Int) == 1 && (sIx items.size items.size hi - sIx items.size 0 lo) == items.size)=true then _ else _) _ _ s
 rw [if_neg hno,zfE]
 first
  | exact wpAny_bind (m:=Builtin.Tuple.tupleExact _) (wpAny_newObj_type (wpAny_pure ⟨_,rfl,wpAny_pure h⟩) htake)
  | exact wpAny_bind (m:=Builtin.Tuple.tupleExact _) (wpAny_newObj_type (wpAny_bind (wpAny_pure (wpAny_pure ⟨_,rfl,wpAny_pure h⟩))) htake)
  | exact wpAny_bind (wpAny_bind (m:=Builtin.Tuple.tupleExact _) (wpAny_newObj_type (wpAny_pure (wpAny_pure ⟨_,rfl,wpAny_pure h⟩)) htake))
  | exact wpAny_bind (wpAny_bind (m:=Builtin.Tuple.tupleExact _) (wpAny_newObj_type (wpAny_pure ⟨_,rfl,wpAny_pure h⟩) htake))
end
end HT
namespace L2
open PySem PySem.Spec PyProof.Rows
abbrev TO:=St→Hp→(Option Int→Hp→Prop)→Prop
def PO (X:Cx) (e:Option Expr) (t:TO):Prop :=
 ∀ (pins:List (Addr×Obj)) (s:Shared) (σ:St) (H:Hp) (Q:Option Int→Hp→Prop),Inv X pins σ H s→t σ H Q →
  wpAny (model X.prog X.w) X.A (evalPart e X.env) (fun u s'=>∃ o H',Inv X pins σ H' s'∧IsPart u o∧Q o H') X.xe s
def zgo:TO:=fun _ H Q=>Q none H
def zhH (t:TE):TO:=fun σ H Q=>t σ H fun x H1=>∃ i,x = .int i∧Q (some i) H1
theorem intsAre_of {ns:List Int}:∀ {us:List Value},zt (ns.map V.int) us→IntsAre us ns:=by
 induction ns with
 | nil=>intro us r; rw [List.map_nil] at r; cases r; exact .nil
 | cons n ns ih =>
  intro us r
  rw [List.map_cons] at r
  cases r with
  | cons r1 r2 =>
   obtain⟨t,e⟩:=r1
   subst e
   exact .cons n t (ih r2)
section
variable {X:Cx} {e:Expr} {te:TE} {lo hi:Option Expr} {tl th:TO} {pos p2:Pos}
theorem zb5:PO X none zgo:=by
 intro pins s σ H Q I h
 rw [evalPart_none]
 exact wpAny_pure ⟨none,H,I,.none,h⟩
theorem zba (h:PE X e te):PO X (some e) (zhH te):=by
 intro pins s σ H Q I hw
 rw [evalPart_some]
 refine thn (h pins s σ H _ I hw) fun u s1 ⟨x,H1,I1,r1,q1⟩=>?_
 obtain⟨i,rfl,q⟩:=q1
 obtain⟨t,rfl⟩:=r1
 exact⟨some i,H1,I1,.int i t,q⟩
def SlR (X:Cx) (r:V→Option Int→Option Int→Hp→VK→Prop):Prop :=
 ∀ (pins:List (Addr×Obj)) (s:Shared) (σ:St) (H:Hp) (x:V) (v vl vu:Value) (lo hi:Option Int) (sl:Addr) (Q:VK),Inv X pins σ H s→RelV x v→s.heap.IsSliceOf sl vl vu .none→IsPart vl lo→IsPart vu hi→r x lo hi H Q →
  ∃ T id,typeLookup (.type T) "__getitem__" = pure (some (.builtin id))∧s.TypeIs v T∧wpAny (model X.prog X.w) X.A (getItem v (.ref sl)) (EP X pins σ Q) X.xe s
def tSl (r:V→Option Int→Option Int→Hp→VK→Prop) (te:TE) (tl th:TO):TE:=fun σ H Q=>te σ H fun x H1=>tl σ H1 fun l H2=>th σ H2 fun u H3=>r x l u H3 Q
theorem za5 {r:V→Option Int→Option Int→Hp→VK→Prop} (hr:SlR X r) (he:PE X e te) (hl:PO X lo tl) (hu:PO X hi th):PE X (.Subscript e (.Slice lo hi none p2) pos) (tSl r te tl th):=by
 intro pins s σ H Q I h
 refine Subscript_ (thn (he pins s σ H _ I h) fun v s1 ⟨x,H1,I1,r1,q1⟩=>?_)
 refine wpAny_Slice (thn (hl pins s1 σ H1 _ I1 q1) fun vl s2 ⟨l,H2,I2,pl,q2⟩=>thn (hu pins s2 σ H2 _ I2 q2) fun vu s3 ⟨u,H3,I3,pu,q3⟩=>?_)
 rw [evalPart_none]
 refine wpAny_pure ?_
 have I4:Inv X pins σ H3 { s3 with heap:=s3.heap.push { cls:=.type "slice",data:=.fields #[vl,vu,.none] } }:=I3.kept (t':=s3.toks) fun b ob q=>Heap.get?_push_of_some _ q
 obtain⟨T,id,hT,ht,hg⟩:=hr pins { s3 with heap:=s3.heap.push { cls:=.type "slice",data:=.fields #[vl,vu,.none] } } σ H3 x v vl vu l u s3.heap.objs.size Q I4 r1 (Heap.IsSliceOf.new ..) pl pu q3
 show wpAny (model X.prog X.w) X.A (subscriptTail e (.Slice lo hi none p2) v (.ref s3.heap.objs.size)) (EP X pins σ Q) X.xe { s3 with heap:=s3.heap.push { cls:=.type "slice",data:=.fields #[vl,vu,.none] } }
 exact tail_any (ops:=[.ref s3.heap.objs.size,v]) ht hT hg (by with_unfolding_all rfl)
def zaQ (xs:List V) (lo hi:Option Int):List V:=(xs.drop (HT.sIx xs.length 0 lo)).take (HT.sIx xs.length xs.length hi - HT.sIx xs.length 0 lo)
theorem zbW (xs:List V) (lo hi:Option Int):(zaQ xs lo hi).length≤xs.length:=by
 unfold zaQ
 rw [List.length_take,List.length_drop]
 omega
def zh8 (K:PySem.W.Frag):V→Option Int→Option Int→Hp→VK→Prop:=fun x lo hi H Q=>∃ a xs,x = .ref a∧SqT K H a xs ∧
 ¬ (HT.sIx xs.length 0 lo=0∧HT.sIx xs.length xs.length hi=xs.length)∧∀ p,H p=none→Q (.ref p) (upd H p (.tup (zaQ xs lo hi)))
theorem zg6:SlR X (zh8 X.K):=by
 intro pins s σ H x v vl vu lo hi sl Q I rx hs pl pu h
 obtain⟨a,xs,rfl,hx,hw,q⟩:=h
 cases rx
 obtain⟨its,r,ht,hz⟩:=I.tuple hx
 have hlen:its.toArray.size=xs.length:=by rw [List.size_toArray]; exact r.length.symm
 refine⟨"tuple",_,PyProof.Rows.slot_tuple_getitem.lookup,ht.typeIs,?_⟩
 refine HT.getItem_tuple_cut ht hs pl pu (by rw [hlen]; exact hw) ?_ (by rw [hlen]; exact hz)
 rw [hlen]
 refine⟨.ref s.heap.objs.size,_,I.laid (t':=s.toks) (o:=.tup (zaQ xs lo hi)) (fun b ob q=>Heap.get?_push_of_some _ q) (Nat.le_refl _) ?_,rfl,q _ (I.hok.fresh (Nat.le_refl _))⟩
 exact⟨Nat.le_trans (zbW xs lo hi) hz,_,(r.drop (HT.sIx xs.length 0 lo)).take (HT.sIx xs.length xs.length hi - HT.sIx xs.length 0 lo),IsTup.new _ _⟩
def zhI (K:PySem.W.Frag):R2:=fun x y H Q=>∃ a b xs ys,x = .ref a∧y = .ref b∧SqT K H a xs∧SqT K H b ys∧xs≠[]∧xs.length+ys.length≤sizeLine ∧
 (ys = []→Q (.ref a) H)∧(ys≠[]→∀ p,H p=none→Q (.ref p) (upd H p (.tup (xs++ys))))
theorem zt.nil_iff {xs:List V} {us:List Value} (r:zt xs us):us = []↔xs = []:=by
 cases r with
 | nil=>simp
 | cons _ _=>simp
theorem zeq:OpR X (binaryOp .Add) (zhI X.K):=by
 intro pins s σ H x y v u Q I rx ry h
 obtain⟨a,b,xs,ys,rfl,rfl,ha,hb,hx,hz,q1,q2⟩:=h
 cases rx
 cases ry
 obtain⟨its,r1,p1,_⟩:=I.tuple ha
 obtain⟨its2,r2,p2,_⟩:=I.tuple hb
 refine HT.cat_tup p1 p2 (fun z=>hx (r1.nil_iff.mp z)) (fun z=>⟨.ref a,H,I,rfl,q1 (r2.nil_iff.mp z)⟩) (fun z=>?_) (by rw [← r1.length,← r2.length]; exact hz)
 refine⟨.ref s.heap.objs.size,_,I.laid (t':=s.toks) (o:=.tup (xs++ys)) (fun b ob q=>Heap.get?_push_of_some _ q) (Nat.le_refl _) ?_,rfl,q2 (fun w=>z (r2.nil_iff.mpr w)) _ (I.hok.fresh (Nat.le_refl _))⟩
 exact⟨by rw [List.length_append]; exact hz,_,r1.append r2,IsTup.new _ _⟩
end
end L2
namespace L2
open PySem PySem.Spec PyProof.Rows
def ixN (n:Nat) (i:Int):Option Nat:=if 0≤i then (if i < n then some i.toNat else none) else if -(n:Int)≤i then some (i+n).toNat else none
def atI {α:Type} (xs:List α) (i:Int):Option α:=(ixN xs.length i).bind fun j=>xs[j]?
theorem zgp {n:Nat} {i:Int} {j:Nat} (h:ixN n i=some j):seqIndex? i n=some j∧j < n∧-(n:Int)≤i∧i < n:=by
 unfold ixN at h
 by_cases h0:0≤i
 ·rw [if_pos h0] at h
  by_cases h1:i < n
  ·rw [if_pos h1] at h
   have e:i.toNat=j:=Option.some.inj h
   exact⟨by rw [seqIndex_of h0 h1,e],by omega,by omega,h1⟩
  ·rw [if_neg h1] at h; cases h
 ·rw [if_neg h0] at h
  by_cases h1:-(n:Int)≤i
  ·rw [if_pos h1] at h
   have e:(i+n).toNat=j:=Option.some.inj h
   exact⟨by rw [seqIndex_neg (by omega) h1,e],by omega,h1,by omega⟩
  ·rw [if_neg h1] at h; cases h
theorem zer {α:Type} {xs:List α} {i:Int} {v:α} (h:atI xs i=some v):∃ j,seqIndex? i xs.length=some j∧xs[j]? = some v∧j < xs.length∧-(xs.length:Int)≤i∧i < xs.length:=by
 unfold atI at h
 cases e:ixN xs.length i with
 | none=>rw [e] at h; cases h
 | some j =>
  rw [e] at h
  obtain⟨h1,h2,h3,h4⟩:=zgp e
  exact⟨j,h1,h,h2,h3,h4⟩
theorem zes {α:Type} {xs:List α} {j:Nat} {v:α} (h:xs[j]? = some v):atI xs (j:Int)=some v:=by
 have hj:j < xs.length:=(List.getElem?_eq_some_iff.mp h).1
 have e:ixN xs.length (j:Int)=some j:=by
  unfold ixN
  rw [if_pos (by omega),if_pos (by omega)]; simp
 unfold atI; rw [e]; exact h
def zgq (b:Expr):Prop:=∀ o i,subscripted b false o i=operate [o,i] (getItem o i)
def IxR (X:Cx) (r:R2):Prop :=
 ∀ (value slice:Expr) (pins:List (Addr×Obj)) (s:Shared) (σ:St) (H:Hp) (x y:V) (v u:Value) (Q:VK),Inv X pins σ H s→RelV x v→RelV y u→r x y H Q →
  subscripted slice false v u=operate [v,u] (getItem v u)→wpAny (model X.prog X.w) X.A (subscriptTail value slice v u) (EP X pins σ Q) X.xe s
def MtR (X:Cx) (id:String) (r:V→List V→Hp→VK→Prop):Prop :=
 ∀ (pins:List (Addr×Obj)) (s:Shared) (σ:St) (H:Hp) (x:V) (xs:List V) (v:Value) (us:List Value) (Q:VK),Inv X pins σ H s→RelV x v→zt xs us→r x xs H Q →
  wpAny (model X.prog X.w) X.A (call (.builtin id) (v :: us)) (EP X pins σ Q) X.xe s
section
variable {X:Cx} {a b:Expr} {ta tb:TE} {pos:Pos}
theorem zH {r:R2} (hr:IxR X r) (ha:PE X a ta) (hb:PE X b tb) (hs:zgq b):PE X (.Subscript a b pos) (tOp r ta tb):=by
 intro pins s σ H Q I h
 exact Subscript_ (zg2 ha hb I h fun v u s2 x y H2 I2 rx ry q=>hr a b pins s2 σ H2 x y v u Q I2 rx ry q (hs _ _))
def zhJ (K:PySem.W.Frag):R2:=fun x y H Q=>∃ p xs i v,x = .ref p∧y = .int i∧SqL K H p xs∧atI xs i=some v∧Q v H
def zh9 (K:PySem.W.Frag):R2:=fun x y H Q=>∃ p xs i v,x = .ref p∧y = .int i∧SqT K H p xs∧atI xs i=some v∧Q v H
theorem zp:IxR X (zhJ X.K):=by
 intro value slice pins s σ H x y v u Q I rx ry h hs
 obtain⟨p,xs,i,z,rfl,rfl,hq,he,q⟩:=h
 cases rx
 obtain⟨t,rfl⟩:=ry
 obtain⟨its,r,pl,hz⟩:=I.list hq
 obtain⟨j,h1,h2,h3,h4,h5⟩:=zer he
 obtain⟨w,ew,rw'⟩:=r.get h2
 have hl:=r.length
 have hn:=zd2
 have fin:EP X pins σ Q w s:=⟨z,H,I,rw',q⟩
 by_cases h0:0≤i
 ·have hj:i.toNat=j:=by
   rw [seqIndex_of h0 h5] at h1
   exact Option.some.inj h1
  exact item_listR pl.isList h0 (by omega) (by rw [hj]; simpa using ew) fin hs
 ·have hj:(i+(its.toArray.size:Int)).toNat=j:=by
   rw [seqIndex_neg (by omega) h4] at h1
   rw [List.size_toArray,← hl]
   exact Option.some.inj h1
  exact subscriptTail_builtinR (x:=w) pl.isList.typeIs slot_list_getitem.lookup
   (wpAny_getItem_list_neg (Q:=fun r s'=>r=w∧EP X pins σ Q r s') pl.isList (by omega) (by rw [List.size_toArray] <;> omega) (by omega) (by rw [hj]; simpa using ew) ⟨rfl,fin⟩) hs
theorem zbP:IxR X (zh9 X.K):=by
 intro value slice pins s σ H x y v u Q I rx ry h hs
 obtain⟨p,xs,i,z,rfl,rfl,hq,he,q⟩:=h
 cases rx
 obtain⟨t,rfl⟩:=ry
 obtain⟨its,r,pl,hz⟩:=I.tuple hq
 obtain⟨j,h1,h2,h3,h4,h5⟩:=zer he
 obtain⟨w,ew,rw'⟩:=r.get h2
 have hl:=r.length
 have hn:=zd2
 have fin:EP X pins σ Q w s:=⟨z,H,I,rw',q⟩
 exact subscriptTail_builtinR (x:=w) pl.typeIs slot_tuple_getitem.lookup
  (getItem_tuple (j:=j) (Q:=fun r s'=>r=w∧EP X pins σ Q r s') pl (by omega) (by omega) (by rw [List.size_toArray,← hl]; exact h1) (by simpa using ew) ⟨rfl,fin⟩) hs
theorem zc6 (lo hi:Option Int) (n:Nat):(sliceBounds lo hi none n).1=((HT.sIx n 0 lo:Nat):Int)∧(sliceBounds lo hi none n).2.1=((HT.sIx n n hi:Nat):Int)∧(sliceBounds lo hi none n).2.2=1:=by
 refine⟨?_,?_,rfl⟩
 ·cases lo with
  | none=>simp [sliceBounds,HT.sIx]
  | some i =>
   simp only [sliceBounds,HT.sIx,Option.getD_none,show (1:Int) > 0 by decide,if_true]
   by_cases h:i < 0
   ·simp only [h,if_true] <;> omega
   ·simp only [h,if_false] <;> omega
 ·cases hi with
  | none=>simp [sliceBounds,HT.sIx]
  | some i =>
   simp only [sliceBounds,HT.sIx,Option.getD_none,show (1:Int) > 0 by decide,if_true]
   by_cases h:i < 0
   ·simp only [h,if_true] <;> omega
   ·simp only [h,if_false] <;> omega
theorem zcy (its:List Value) (lo hi:Option Int):slicePick its.toArray lo hi none=((its.drop (HT.sIx its.length 0 lo)).take (HT.sIx its.length its.length hi - HT.sIx its.length 0 lo)).toArray:=by
 obtain⟨h1,h2,h3⟩:=zc6 lo hi its.toArray.size
 unfold slicePick
 rw [h1,h2,h3]
 simp only [sliceRange_one,pick_run,List.size_toArray] <;> rfl
def zia (K:PySem.W.Frag):V→Option Int→Option Int→Hp→VK→Prop:=fun x lo hi H Q=>∃ a xs,x = .ref a∧SqL K H a xs∧∀ p,H p=none→Q (.ref p) (upd H p (.lst (zaQ xs lo hi)))
theorem zgr:SlR X (zia X.K):=by
 intro pins s σ H x v vl vu lo hi sl Q I rx hs pl pu h
 obtain⟨a,xs,rfl,hx,q⟩:=h
 cases rx
 obtain⟨its,r,ht,hz⟩:=I.list hx
 have hlen:=r.length
 refine⟨"list",_,slot_list_getitem.lookup,ht.isList.typeIs,?_⟩
 refine wpAny_getItem_list_slice ht.isList hs pl pu .none (by simp) ?_ (by rw [List.size_toArray] <;> omega)
 rw [zcy,← hlen]
 refine⟨.ref s.heap.objs.size,_,I.laid (t':=s.toks) (o:=.lst (zaQ xs lo hi)) (fun b ob q=>Heap.get?_push_of_some _ q) (Nat.le_refl _) ?_,rfl,q _ (I.hok.fresh (Nat.le_refl _))⟩
 exact⟨Nat.le_trans (zbW xs lo hi) hz,_,0,(r.drop (HT.sIx xs.length 0 lo)).take (HT.sIx xs.length xs.length hi - HT.sIx xs.length 0 lo),Heap.get?_push_size _ rfl⟩
def zet:V→Bool
 | .non=>true
 | .bl _=>true
 | .int _=>true
 | .str _=>true
 | _=>false
def eqV:V→V→Bool
 | .non,.non=>true
 | .bl a,.bl b=>a == b
 | .bl a,.int b=>(if a then 1 else 0) == b
 | .int a,.bl b=>a == (if b then 1 else 0)
 | .int a,.int b=>a == b
 | .str a,.str b=>a == b
 | _,_=>false
theorem zg7 {A:Around} {s:Shared} {y x:V} {u v:Value} (ry:RelV y u) (rx:RelV x v) (fy:zet y=true) (fx:zet x=true):SeqAt.EqAt A s u v (eqV y x):=by
 cases y with
 | non =>
  cases ry
  cases x with
  | non=>cases rx; exact SeqAt.EqAt.same _
  | bl b=>cases rx; exact SeqAt.EqAt.none_bool b
  | int b=>obtain⟨t,rfl⟩:=rx; exact SeqAt.EqAt.none_int b t
  | str b=>obtain⟨t,rfl⟩:=rx; exact SeqAt.EqAt.none_str b t
  | _=>exact absurd (show false=true from fx) Bool.false_ne_true
 | bl a =>
  cases ry
  cases x with
  | non=>cases rx; exact SeqAt.EqAt.bool_none a
  | bl b=>cases rx; exact SeqAt.EqAt.bool_bool a b
  | int b=>obtain⟨t,rfl⟩:=rx; exact SeqAt.EqAt.bool_int a b t
  | str b=>obtain⟨t,rfl⟩:=rx; exact SeqAt.EqAt.bool_str a b t
  | _=>exact absurd (show false=true from fx) Bool.false_ne_true
 | int a =>
  obtain⟨t',rfl⟩:=ry
  cases x with
  | non=>cases rx; exact SeqAt.EqAt.int_none a t'
  | bl b=>cases rx; exact SeqAt.EqAt.int_bool a t' b
  | int b=>obtain⟨t,rfl⟩:=rx; exact SeqAt.EqAt.int_int a t' b t
  | str b=>obtain⟨t,rfl⟩:=rx; exact SeqAt.EqAt.int_str a t' b t
  | _=>exact absurd (show false=true from fx) Bool.false_ne_true
 | str a =>
  obtain⟨t',rfl⟩:=ry
  cases x with
  | non=>cases rx; exact SeqAt.EqAt.str_none a t'
  | bl b=>cases rx; exact SeqAt.EqAt.str_bool a t' b
  | int b=>obtain⟨t,rfl⟩:=rx; exact SeqAt.EqAt.str_int a t' b t
  | str b=>obtain⟨t,rfl⟩:=rx; exact SeqAt.EqAt.str_str a t' b t
  | _=>exact absurd (show false=true from fx) Bool.false_ne_true
 | _=>exact absurd (show false=true from fy) Bool.false_ne_true
theorem zw:zaB X (.builtin "len") (fun xs H Q=>∃ p ys,xs = [.ref p]∧(SqL X.K H p ys∨SqT X.K H p ys)∧Q (.int ys.length) H):=by
 intro pins s σ H xs us Q I r h
 obtain⟨p,ys,rfl,hq,q⟩:=h
 obtain⟨u,rfl,rx⟩:=vals1 r
 cases rx
 have hn:=zd2
 rcases hq with hq | hq
 ·obtain⟨its,r',pl,hz⟩:=I.list hq
  have hlen:=r'.length
  exact Calls.call_len_list pl.isList (by simp only [List.size_toArray] <;> omega) ⟨.int ys.length,H,I.tok _,⟨s.toks+1,by rw [List.size_toArray,hlen]⟩,q⟩
 ·obtain⟨its,r',pl,hz⟩:=I.tuple hq
  have hlen:=r'.length
  exact len_tuple pl (by simp only [List.size_toArray] <;> omega) ⟨.int ys.length,H,I.tok _,⟨s.toks+1,by rw [List.size_toArray,hlen]⟩,q⟩
theorem zc7:zaB X (.type "list") (fun xs H Q=>∃ p ys,xs = [.ref p]∧(SqL X.K H p ys∨SqT X.K H p ys)∧∀ l,H l=none→Q (.ref l) (upd H l (.lst ys))):=by
 intro pins s σ H xs us Q I r h
 obtain⟨p,ys,rfl,hq,q⟩:=h
 obtain⟨u,rfl,rx⟩:=vals1 r
 cases rx
 have fin:∀ (its:List Value),zt ys its→ys.length≤sizeLine→∀ (h':Heap) (c':Nat),(∀ b o',s.heap.get? b=some o'→h'.get? b=some o') →
   h'.get? s.heap.objs.size=some { cls:=.type "list",dict:=none,data:=.seq its.toArray c',slots:=#[] }→EP X pins σ Q (.ref s.heap.objs.size) { s with heap:=h' }:=fun its r' hz h' c' kp e =>
  ⟨.ref s.heap.objs.size,_,I.laid (t':=s.toks) kp (Nat.le_refl _) (show zS X.prog X.w _ h' _ (.lst ys) from ⟨hz,its,c',r',e⟩),rfl,q _ (I.hok.fresh (Nat.le_refl _))⟩
 rcases hq with hq | hq
 ·obtain⟨its,r',pl,hz⟩:=I.list hq
  have hlen:=r'.length
  obtain⟨o,ho,hc,n,hd⟩:=pl.isList
  exact call_list_seq p (.inl rfl) ho hc hd (fun h' c' kp e=>fin its r' hz h' c' kp e) (by simp only [List.size_toArray] <;> omega)
 ·obtain⟨its,r',pl,hz⟩:=I.tuple hq
  have hlen:=r'.length
  obtain⟨o,ho,hc,n,hd⟩:=pl
  exact call_list_seq p (.inr rfl) ho hc hd (fun h' c' kp e=>fin its r' hz h' c' kp e) (by simp only [List.size_toArray] <;> omega)
theorem zcz:zaB X (.type "tuple") (fun xs H Q=>∃ p ys,xs = [.ref p]∧((SqL X.K H p ys∧∀ l,H l=none→Q (.ref l) (upd H l (.tup ys)))∨(SqT X.K H p ys∧Q (.ref p) H))):=by
 intro pins s σ H xs us Q I r h
 obtain⟨p,ys,rfl,h⟩:=h
 obtain⟨u,rfl,rx⟩:=vals1 r
 cases rx
 rcases h with ⟨hq,q⟩ | ⟨hq,q⟩
 ·obtain⟨its,r',pl,hz⟩:=I.list hq
  have hlen:=r'.length
  refine call_tuple_list pl.isList (fun h' kp=>?_) (by simp only [List.size_toArray] <;> omega)
  have I1:Inv X pins σ H { s with heap:=h' }:=I.kept (t':=s.toks) kp
  have I2:Inv X pins σ (upd H h'.objs.size (.tup ys)) { s with heap:=h'.push { cls:=.type "tuple",data:=.seq its.toArray } } :=
   I1.laid (t':=s.toks) (fun b o e=>Heap.get?_push_of_some _ e) (Nat.le_refl _) (show zS X.prog X.w _ _ _ (.tup ys) from ⟨hz,its,r',IsTup.new _ _⟩)
  exact⟨.ref h'.objs.size,_,I2,rfl,q _ (I1.hok.fresh (Nat.le_refl _))⟩
 ·obtain⟨its,r',pl,hz⟩:=I.tuple hq
  exact call_tuple_same pl ⟨.ref p,H,I,rfl,q⟩
def tyV (K:PySem.W.Frag) (T:String) (x:V) (H:Hp):Prop:=match x with
 | .str _=>T = "str"
 | .int _=>T = "int"
 | .ref p=>(T = "list"∧∃ xs,SqL K H p xs)∨(T = "tuple"∧∃ o,K.lookup p=some o∧o.cls = .type "tuple"∧o.dict=none) ∨
   (T = "dict"∧((∃ kvs,H p=some (.dK kvs))∨∃ kvs,H p=some (.dT kvs)))∨(T = "set"∧∃ S n,H p=some (.set S n))
 | _=>False
theorem zg8 {pins:List (Addr×Obj)} {σ:St} {H:Hp} {s:Shared} {T:String} {x:V} {v:Value} (I:Inv X pins σ H s) (r:RelV x v) (ty:tyV X.K T x H) :
  s.TypeIs v T∧∀ a,v = .ref a→∃ ob,s.heap.get? a=some ob∧ob.dict=none:=by
 cases x with
 | str z =>
  obtain⟨t,rfl⟩:=r
  cases (show T = "str" from ty)
  exact⟨typeIs_str s z t,fun _ e=>nomatch e⟩
 | int i =>
  obtain⟨t,rfl⟩:=r
  cases (show T = "int" from ty)
  exact⟨typeIs_int s i t,fun _ e=>nomatch e⟩
 | ref p =>
  cases r
  rcases ty with ⟨rfl,xs,hq⟩ | ⟨rfl,o,hk,hc,hd⟩ | ⟨rfl,hk⟩ | ⟨rfl,S,n,hk⟩
  ·obtain⟨its,_,pl,_⟩:=I.list hq
   refine⟨pl.isList.typeIs,fun a e=>?_⟩
   cases e
   obtain⟨o,n,e,c,hd,_⟩:=pl
   exact⟨o,e,hd⟩
  ·refine⟨⟨o,I.kIn p o hk,hc⟩,fun a e=>?_⟩
   cases e
   exact⟨o,I.kIn _ o hk,hd⟩
  ·have z:∃ o,s.heap.get? p=some o∧o.ExactDict:=by
    rcases hk with ⟨kvs,hk⟩ | ⟨kvs,hk⟩
    ·obtain⟨_,_,_,_,o,_,_,e,ex,_⟩:=I.hok p _ hk
     exact⟨o,e,ex⟩
    ·obtain⟨_,_,_,_,o,_,_,e,ex,_⟩:=I.hok p _ hk
     exact⟨o,e,ex⟩
   obtain⟨o,e,ex⟩:=z
   refine⟨⟨o,e,ex.1⟩,fun a e2=>?_⟩
   cases e2
   exact⟨o,e,ex.2.1⟩
  ·obtain⟨o,_,_,_,e,ex,_⟩:=I.hok p _ hk
   refine⟨⟨o,e,ex.1⟩,fun a e2=>?_⟩
   cases e2
   exact⟨o,e,ex.2.1⟩
 | _=>exact False.elim ty
def tBM (K:PySem.W.Frag) (T:String) (r:V→List V→Hp→VK→Prop) (to:TE) (t:TA):TE:=fun σ H Q=>to σ H fun x H1=>tyV K T x H1∧t σ H1 fun xs H2=>r x xs H2 Q
variable {o e:Expr} {es:List Expr} {to:TE} {t:TA} {name:Str} {apos cpos:Pos} {T id:String} {r:V→List V→Hp→VK→Prop}
theorem zgQ (pa:PlainAttrs T) (slot:Slot T name id) (hty:typeOf (.builtin id)=pure (.type "method_descriptor")) (hm:MtR X id r) (ho:PE X o to) (ha:PA X (e :: es) t)
  (hbase:attributeBase o name X.env (eval o X.env)=eval o X.env:=by rfl)
  (hfew:((backTo cpos (starEach (e :: es) X.env)).all (fun x=>!x.1) && (backToKw cpos (keywordEach [] X.env)).all (fun x=>x.1.isSome)
   && decide ((e :: es).length+([]:List Keyword).length+(if ([]:List Keyword).isEmpty then 0 else 1) < 30))=true:=by rfl)
  (hline:(apos.endLine == cpos.line)=true:=by rfl) (hs:starEach (e :: es) X.env=(false,eval e X.env) :: starEach es X.env:=by rfl) (hplain:(backTo cpos (starEach es X.env)).any (·.1)=false:=by rfl) :
  PE X (.Call (.Attribute o name apos) (e :: es) [] cpos) (tBM X.K T r to t):=by
 intro pins s σ H Q I h
 refine wpAny_Call_method_late hbase hfew hline rfl (thn (ho pins s σ H _ I h) fun v s1 ⟨x,H1,I1,r1,ty,q1⟩=>?_)
 obtain⟨h1,h2⟩:=zg8 I1 r1 ty
 refine⟨T,id,pa,slot,hty,h1,h2,?_⟩
 have hA:=ha cpos pins s1 σ H1 _ I1 q1
 rw [hs] at hA ⊢
 refine Calls.callWith_builtin (by show (false || (backTo cpos (starEach es X.env)).any (·.1))=false; rw [hplain] <;> rfl) (Calls.evalArgs_plain ?_)
 exact thn hA fun us s2 ⟨vs,H2,I2,r2,q2⟩=>hm pins s2 σ H2 x vs v us Q I2 r1 r2 q2
end
end L2
namespace L2
open PySem PySem.Spec PyProof.Rows
def MtM (X:Cx) (id:String) (r:V→List V→Hp→VK→Prop):Prop :=
 ∀ (pins:List (Addr×Obj)) (s:Shared) (σ:St) (H:Hp) (x:V) (xs:List V) (v:Value) (us:List Value) (Q:VK),Inv X pins σ H s→RelV x v→zt xs us→r x xs H Q →
  wpAny (model X.prog X.w) X.A (call (.builtin id) (v :: us)) (EP X pins σ Q) X.xe s
theorem zt.one:∀ {x:V} {us:List Value},zt [x] us→∃ u,us = [u]∧RelV x u
 | _,_,.cons r .nil=>⟨_,rfl,r⟩
theorem zt.eraseIdx:∀ {xs:List V} {us:List Value} (i:Nat),zt xs us→zt (xs.eraseIdx i) (us.eraseIdx i)
 | _,_,_,.nil=>.nil
 | _,_,0,.cons _ t=>t
 | _,_,i+1,.cons r t=>.cons r (zt.eraseIdx i t)
theorem zcS {α:Type}:∀ (l:List α) (i:Nat),(l.eraseIdx i).length≤l.length
 | [],_=>Nat.le_refl _
 | _ :: _,0=>Nat.le_succ _
 | _ :: r,i+1=>Nat.succ_le_succ (zcS r i)
section
variable {X:Cx} {pins:List (Addr×Obj)} {σ:St} {H:Hp} {s:Shared} {l b:Addr} {xs ys zs:List V}
theorem Inv.lset {its its':List Value} {n:Nat} {f:Array Value→Array Value} {t':Nat} (I:Inv X pins σ H s) (hH:H l=some (.lst xs))
  (e:s.heap.get? l=some { cls:=.type "list",data:=.seq its.toArray n }) (hf:f its.toArray=its'.toArray) (hv:zt ys its') (hz:ys.length≤sizeLine) :
  Inv X pins σ (upd H l (.lst ys)) { s with heap:=s.heap.update l (Obj.mapSeq f),toks:=t' }:=by
 have q:=PySem.IsL.update e f
 rw [hf] at q
 refine I.write (x:=l) (e:=l) (by rw [hH]; exact trivial) (.inl rfl) (fun b' u hb hu=>(Heap.get?_update_other s.heap (Obj.mapSeq f) (Ne.symm hb)).trans hu) ⟨_,q⟩ ?_
 exact⟨hz,its',_,hv,q⟩
theorem Inv.lnew {its:List Value} {t':Nat} (I:Inv X pins σ H s) (hv:zt ys its) (hz:ys.length≤sizeLine) :
  Inv X pins σ (upd H s.heap.objs.size (.lst ys)) { s with heap:=s.heap.push { cls:=.type "list",data:=.seq its.toArray },toks:=t' } :=
 I.laid (fun _ _ q=>Heap.get?_push_of_some _ q) (Nat.le_refl _) ⟨hz,its,0,hv,Heap.get?_push_size _ rfl⟩
theorem Inv.fresh (I:Inv X pins σ H s):H s.heap.objs.size=none:=I.hok.fresh (Nat.le_refl _)
theorem Inv.lstM (I:Inv X pins σ H s) (hH:H l=some (.lst xs)):xs.length≤sizeLine∧∃ (its:List Value) (n:Nat),zt xs its∧xs.length=its.length∧s.heap.get? l=some { cls:=.type "list",data:=.seq its.toArray n }:=by
 obtain⟨z,its,n,r,e⟩:=I.hok l _ hH
 exact⟨z,its,n,r,r.length,e⟩
end
section
variable {X:Cx}
def zgs:V→List V→Hp→VK→Prop:=fun x vs H Q=>∃ l xs y,x = .ref l∧vs = [y]∧H l=some (.lst xs)∧xs.length < sizeLine∧Q .non (upd H l (.lst (xs++[y])))
theorem zeV:MtM X "list.append" zgs:=by
 intro pins s σ H x vs v us Q I rx rv h
 obtain⟨l,xs,y,rfl,rfl,hH,hz,q⟩:=h
 cases rx
 obtain⟨u,rfl,ru⟩:=rv.one
 obtain⟨z,its,n,r,hl,e⟩:=I.lstM hH
 refine call_meets F.slot_list_append ⟨_,e,rfl⟩ F.entry_list_append (F.args_list_append_2 _ _) (PySem.list_append l its.toArray n u (by rw [List.size_toArray]; omega)) ⟨e,?_⟩
 refine⟨.non,_,I.lset (its':=its++[u]) hH e (by simp) (r.append (.cons ru .nil)) ?_,rfl,q⟩
 rw [List.length_append,List.length_singleton]
 omega
def zg9:V→List V→Hp→VK→Prop:=fun x vs H Q=>∃ l xs i k y,x = .ref l∧vs = [.int i]∧H l=some (.lst xs)∧-(2 ^ 63)≤i∧i < 2 ^ 63∧seqIndex? i xs.length=some k∧xs[k]? = some y∧Q y (upd H l (.lst (xs.eraseIdx k)))
theorem zfF:MtM X "list.pop" zg9:=by
 intro pins s σ H x vs v us Q I rx rv h
 obtain⟨l,xs,i,k,y,rfl,rfl,hH,h1,h2,hk,hy,q⟩:=h
 cases rx
 obtain⟨u,rfl,ru⟩:=rv.one
 obtain⟨t,rfl⟩:=ru
 obtain⟨z,its,n,r,hl,e⟩:=I.lstM hH
 obtain⟨w,hw,rw'⟩:=r.get hy
 refine call_meets F.slot_list_pop ⟨_,e,rfl⟩ F.entry_list_pop (F.args_list_pop_2 _ _)
  (MeetsSeq.list_pop_at l its.toArray n i t k w (fitsIndex_both h1 h2) (by rw [List.size_toArray,← hl]; exact hk) (by rw [← Array.getElem?_toList]; exact hw) (by rw [List.size_toArray]; omega)) ⟨e,?_⟩
 refine⟨y,_,I.lset (its':=its.eraseIdx k) hH e ?_ (r.eraseIdx k) ?_,rw',q⟩
 ·show its.toArray.eraseIdxIfInBounds k=(its.eraseIdx k).toArray
  rw [List.eraseIdxIfInBounds_toArray]
 ·have:=zcS xs k
  omega
def zib:R2:=fun x y H Q=>∃ l b xs zs,x = .ref l∧y = .ref b∧H l=some (.lst xs)∧H b=some (.lst zs)∧xs.length+zs.length≤sizeLine∧∀ p,H p=none→Q (.ref p) (upd H p (.lst (xs++zs)))
theorem zd6:OpR X (binaryOp .Add) zib:=by
 intro pins s σ H x y v u Q I rx ry h
 obtain⟨l,b,xs,zs,rfl,rfl,hH,hB,hz,q⟩:=h
 cases rx
 cases ry
 obtain⟨z,its,n,r,hl,e⟩:=I.lstM hH
 obtain⟨z2,its2,n2,r2,hl2,e2⟩:=I.lstM hB
 refine PySem.P.add_list e e2 ?_ (by rw [List.size_toArray,List.size_toArray]; omega)
 have ea:its.toArray++its2.toArray=(its++its2).toArray:=by simp
 rw [ea]
 exact⟨.ref _,_,I.lnew (t':=s.toks) (r.append r2) (by rw [List.length_append]; omega),rfl,q _ I.fresh⟩
end
section
variable {prog:Program} {w:World} {A:Around} {E:Value→Shared→Prop} {s:Shared}
end
section
variable {X:Cx}
end
end L2
namespace Att
open PySem PySem.W PySem.Calls PyProof.Rows
theorem zb1 {P:Params} {h:Heap}:∀ (ns:List Int) (vs:List Value),WellAll P h vs (ns.map WData.int)→IntsAre vs ns:=by
 intro ns
 induction ns with
 | nil =>
  intro vs w
  rw [List.map_nil] at w
  cases w
  exact .nil
 | cons n ns ih =>
  intro vs w
  rw [List.map_cons] at w
  cases w with
  | cons a b =>
   cases a
   exact .cons _ _ (ih _ b)
theorem zeW {l:OpenLaw} {n:Nat} (hn:l.most=some n) {P:Params} {h:Heap} {args:List WData} {vals:List Value}
  (hpre:l.row.toRowW.claim.pre args=true) (hwl:WellAll P h vals args) :
  ∃ a vs ns,vals = [Value.ref a]∧args = [WData.list (ns.map WData.int)]∧h.get? a=some { cls:=.type "list",data:=.seq vs.toArray }∧IntsAre vs ns∧ns.length≤n:=by
 have hsh:WShape.hasAll [] args [.list .int]=true:=(pre_splitW hpre).1
 have hc:l.pre.holds [] { args:=args }=true:=(pre_splitW hpre).2
 obtain⟨d,r,rfl,h1,h2⟩:=hasAllW_cons hsh
 obtain rfl:=hasAllW_nil h2
 obtain⟨xs,rfl,h3⟩:=hasW_list h1
 obtain⟨ns,rfl⟩:=items_int h3
 have hlen:ns.length≤n:=by
  unfold OpenLaw.pre at hc
  have h4:(WTm.not (.lt (.lit (.int (n:Int))) (.len (.arg 0)))).holds [] { args:=[.list (ns.map .int)] }=true:=by
   have h4:=(holds_andW hc).1
   rw [hn] at h4
   exact h4
  have h5:=condW_of h4 (w_not (w_lt w_lit (w_len_list (w_arg rfl))))
  rw [List.length_map] at h5
  refine Nat.le_of_not_lt fun q=>?_
  have q':(n:Int) < ((ns.length:Nat):Int):=by omega
  first
   | (rw [decide_eq_true q'] at h5; exact absurd h5 (by decide))
   | (simp at h5; omega)
 cases hwl with
 | cons w1 w2 =>
  cases w2
  cases w1 with
  | list ho hall=>exact⟨_,_,ns,rfl,rfl,ho,zb1 ns _ hall,hlen⟩
theorem zeX (l:OpenLaw) (args:List WData):l.row.toRowW.claim.post args (.bool true) args=true :=
 postW_of (r:=l.row.toRowW) (X:=(true == true))
  (show WShape.has [] (.bool true) .bool=true by first | rfl | decide | simp [WShape.has,WShape.arms,WShape.armsAll])
  (show (WTm.eq .res (.lit (.bool true))).value [] { args:=args,res:=some (.bool true),after:=args }=some (.bool (true == true)) from w_eq_bool (w_res rfl) w_lit) rfl
theorem attach_call {l:OpenLaw} {n:Nat} {q:Program} {loose:List Str} {XP:(Str→Option Value)→Heap→Prop} {YP:World→Heap→Prop} {d:DefRec}
  (hn:l.most=some n) (hdf:d.params.defaults = [])
  (call:∀ (w:World) (s₀ s₁:Shared) (mg mb:Str→Option Value) (fa:Addr) (o:Obj) (pm cd doc:Value) (a:Addr) (vs:List Value) (ns:List Int),
   Ground q loose [] XP w s₀ mg mb s₁.heap→YP w s₁.heap →
   s₁.heap.get? fa=some o→o.data = .func (docDef d.name d.params d.body d.scope pm cd doc)→s₁.heap.CodeRec cd d.name→mg d.name=some (.ref fa) →
   s₁.heap.get? a=some { cls:=.type "list",data:=.seq vs.toArray }→IntsAre vs ns→ns.length≤n→s₁.gens = #[] →
   codeAny (model l.prog w) callerA (.call (.ref fa) ⟨[.ref a],[]⟩) (fun r s'=>r = .ok (.ret (.bool true))∧OldK s₁.heap s'.heap∧s'.os=s₁.os∧AllBare s'.gens) s₁) :
  WalkO q loose XP YP l.row.toRowW d [] (fun f vs=>PySem.call f vs):=by
 intro w s₀ s₁ mg mb G Y fa o pm cd doc dV kV ho hd hcd hD hmg hg args vals as hpre hlay hrd hwl hlo
 obtain rfl:dV = .none:=Dflts.none hD hdf
 obtain rfl:kV = .none:=Dflts.noKw hD
 obtain⟨a,vs,ns,rfl,rfl,hobj,hints,hlen⟩:=zeW hn hpre hwl
 refine enter_call (codeAny_mono (call w s₀ s₁ mg mb fa o pm cd doc a vs ns G Y ho (fd_plain hd) hcd hmg hobj hints hlen hg) fun r s' hq=>?_)
 obtain⟨rfl,h2,h3,h4⟩:=hq
 exact⟨.inl ⟨.bool true,.bool true,[],rfl,fun _=>rfl,.bool true,zeX l _,fun _=>⟨List.Pairwise.nil,fun _ hm=>(nomatch hm)⟩⟩,h2,h3,h4⟩
section
variable {prog:Program} {w:World} {A:Around} {E:Value→Shared→Prop} {s:Shared} {K:Frag}
end
end Att
namespace L2
open PySem PySem.Spec PyProof.Rows
theorem zcT:∀ {vs:List Value} {ns:List Int},IntsAre vs ns→zt (ns.map V.int) vs
 | _,_,.nil=>.nil
 | _,_,.cons n t h=>.cons ⟨t,rfl⟩ (zcT h)
def zha (H:Hp):Prop:=∀ b,H b=none∨∃ o xs,H b=some (.frz o (.lst xs))
theorem zfG {P:Program} {w:World} {K:PySem.W.Frag} {mg mb:Str→Option Value} {CX:CXT} {k:Nat} {fa a:Addr} {fd:FuncData} {x:Str} {sp:Sp} {s₁:Shared} {vs:List Value} {ns:List Int}
  (KX:K.In s₁.heap) (hns:s₁.heap.Ns mainGlobals mg) (hb:s₁.heap.Ns builtinsNs mb) (hbb:∀ x:Str,x≠"__name__"→mb x=bootBuiltins x) (hlim:s₁.heap.NoLimit) (hg:s₁.gens = #[])
  (ha:s₁.heap.get? a=some { cls:=.type "list",data:=.seq vs.toArray }) (hi:IntsAre vs ns) (hl:ns.length≤sizeLine) (hr:Room k callerA)
  (F:∀ base:Heap,K.In base→base.Ns mainGlobals mg→FnOk P w K mg base CX k fa fd [x] sp) (hbind:∀ (s:Shared) (u:Value),BindsTo s fd ⟨[u],[]⟩ [(x,u)])
  (hsp:∀ H:Hp,zha H→SqL K H a (ns.map V.int)→sp [.ref a] H (fun v _=>v = .bl true) fun _ _ _=>False)
  (hCX:∀ H e s',CX [] H s₁ (fun _ _ _=>False) e s'→False) :
  codeAny (model P w) callerA (.call (.ref fa) ⟨[.ref a],[]⟩) (fun r s'=>r = .ok (.ret (.bool true))∧OldK s₁.heap s'.heap∧s'.os=s₁.os∧AllBare s'.gens) s₁:=by
 have rv:=zcT hi
 have lenV:=hi.length
 have core:∀ H:Hp,zha H→SqL K H a (ns.map V.int)→HOk P w H s₁.heap→(∀ b,H b≠none→b=a)→(H a≠none→K.lookup a=none) →
   codeAny (model P w) callerA (.call (.ref fa) ⟨[.ref a],[]⟩) (fun r s'=>r = .ok (.ret (.bool true))∧OldK s₁.heap s'.heap∧s'.os=s₁.os∧AllBare s'.gens) s₁:=by
  intro H hO hS hok hA hK
  have base_of:∀ {b:Addr} {o:Obj},s₁.heap.get? b=some o→H b=none→(zc3 s₁.heap H).get? b=some o:=fun e n=>zfs e n
  have noA:∀ {b:Addr} {o:Obj} {es:Array DictEntry} {ep:Nat},s₁.heap.get? b=some o→o.data = .dict es ep→H b=none:=fun {b o es ep} e d=>by
   cases q:H b with
   | none=>rfl
   | some u =>
    have e':b=a:=hA b (by rw [q]; simp)
    subst e'
    rw [ha] at e; cases e
    have d':Data.seq vs.toArray _=Data.dict es ep:=d
    cases d'
  have nsK:∀ {b:Addr} {m:Str→Option Value},s₁.heap.Ns b m→(zc3 s₁.heap H).Ns b m:=fun {b m} ⟨o,es,ep,e,d,r⟩=>⟨o,es,ep,base_of e (noA e d),d,r⟩
  have hKb:K.In (zc3 s₁.heap H):=fun b o e=>base_of (KX b o e) (by
   cases q:H b with
   | none=>rfl
   | some u =>
    have e':b=a:=hA b (by rw [q]; simp)
    subst e'
    rw [hK (by rw [q]; simp)] at e; cases e)
  have hM:Mod K mg (zc3 s₁.heap H):=⟨hKb,nsK hns,⟨mb,nsK hb,hbb⟩,let ⟨mc,h1,h2⟩:=hlim; ⟨mc,nsK h1,h2⟩⟩
  have e0:Env0 P w K mg (zc3 s₁.heap H) callerA [] s₁ H:=⟨rfl,hM,fun b o e=>zgf e,Nat.le_of_eq (zeO _ _),trivial,fun b hb=>absurd (show b∈([]:List Addr) from hb) (by simp),hok,.of_eq hg⟩
  refine codeAny_mono ((F _ hKb (nsK hns)).run callerA [] s₁ H ⟨[.ref a],[]⟩ [.ref a] [.ref a] _ _ hr e0 (hbind s₁ (.ref a)) (.cons rfl .nil) (hsp H hO hS)) fun r s' h=>?_
  cases r with
  | error e=>exact (hCX H e s' h).elim
  | ok fl =>
   cases fl with
   | next=>exact False.elim h
   | brk=>exact False.elim h
   | cont=>exact False.elim h
   | ret u =>
    obtain⟨v,H',os,bare,un,hok',r',q⟩:=h
    have q':v = .bl true:=q
    subst q'
    obtain rfl:u=Value.bool true:=r'
    refine⟨rfl,OldK.of_keep fun b o e=>?_,os,bare⟩
    cases q:H b with
    | none=>exact un.keep b o e q (by intro z; exact absurd (show b∈([]:List Addr) from z) (by simp)) (by simp)
    | some u =>
     rcases hO b with z | ⟨ob,xs,z⟩
     ·rw [q] at z; cases z
     ·have z2:=un.frzs b ob _ z
      obtain⟨e1,_⟩:=hok b _ z
      obtain⟨e2,_⟩:=hok' b _ z2
      rw [e] at e1; cases e1
      exact e2
 cases hk:K.lookup a with
 | some o =>
  have e:=KX a o hk
  rw [ha] at e
  cases e
  refine core (fun _=>none) (fun _=>.inl rfl) (.inr ⟨_,vs.toArray,_,hk,rfl,rfl,rfl,by rw [List.size_toArray,lenV]; exact hl,by simpa using rv⟩) (fun b u z=>by have z':(none:Option HO)=some u:=z; cases z') (fun b z=>absurd rfl z) fun z=>absurd rfl z
 | none =>
  refine core (fun b=>if b=a then some (.frz { cls:=.type "list",data:=.seq vs.toArray } (.lst (ns.map V.int))) else none) (fun b=>?_) (.inl (.inr ⟨{ cls:=.type "list",data:=.seq vs.toArray },if_pos rfl⟩)) (fun b u z=>?_) (fun b z=>?_) fun _=>hk
  ·by_cases hb:b=a
   ·exact .inr ⟨_,_,if_pos hb⟩
   ·exact .inl (if_neg hb)
  ·by_cases hb:b=a
   ·have z':=(if_pos hb).symm.trans z
    cases z'
    subst hb
    exact⟨ha,by rw [List.length_map]; exact hl,vs,_,rv,ha⟩
   ·have z':=(if_neg hb).symm.trans z
    cases z'
  ·by_cases hb:b=a
   ·exact hb
   ·exact absurd (if_neg hb) z
end L2
namespace L2
open PySem PySem.Spec PyProof.Rows
theorem zgt {l:PySem.W.OpenLaw} {n k:Nat} {q:Program} {loose:List Str} {XP:(Str→Option Value)→Heap→Prop} {YP:World→Heap→Prop} {d:DefRec} {K:Params→PySem.W.Frag} {CX:World→CXT} {sp:World→Sp} {x:Str}
  (hn:l.most=some n) (hn2:n≤sizeLine) (hdf:d.params.defaults = []) (hr:Room k callerA)
  (hY:∀ (w:World) (h:Heap),YP w h→(K w.params).In h)
  (F:∀ (w:World) (mg:Str→Option Value) (fa:Addr) (h:Heap),(K w.params).In h→h.Ns mainGlobals mg→mg d.name=some (.ref fa) →
   ∃ fd:FuncData,(∀ (s:Shared) (u:Value),BindsTo s fd ⟨[u],[]⟩ [(x,u)]) ∧
    ∀ base:Heap,(K w.params).In base→base.Ns mainGlobals mg→FnOk l.prog w (K w.params) mg base (CX w) k fa fd [x] (sp w))
  (hsp:∀ (w:World) (H:Hp) (a:Addr) (ns:List Int),ns.length≤n→zha H→SqL (K w.params) H a (ns.map V.int)→sp w [.ref a] H (fun v _=>v = .bl true) fun _ _ _=>False)
  (hCX:∀ (w:World) (H:Hp) (s:Shared) (e:Value) (s':Shared),CX w [] H s (fun _ _ _=>False) e s'→False) :
  PySem.W.WalkO q loose XP YP l.row.toRowW d [] (fun f vs=>PySem.call f vs):=by
 refine Att.attach_call hn hdf fun w s₀ s₁ mg mb fa o pm cd doc a vs ns G Y ho hd hcd hmg hobj hints hlen hg=>?_
 have KX:=hY w _ Y
 obtain⟨fd,hb,hF⟩:=F w mg fa _ KX G.T.g hmg
 exact zfG KX G.T.g G.T.b G.T.builtins G.T.nolimit hg hobj hints (Nat.le_trans hlen hn2) hr hF hb (fun H hO hS=>hsp w H a ns hlen hO hS) fun H e s'=>hCX w H s₁ e s'
end L2
namespace L2
open PySem PySem.Spec PyProof.Rows
def zaG (s:Stmt):Arguments:=match s with
 | .FunctionDef _ a _ _ _ _ _ _ _ _=>a
 | _=>{ posonlyargs:=[],args:=[],vararg:=none,kwonlyargs:=[],kw_defaults:=[],kwarg:=none,defaults:=[] }
def zay (s:Stmt):List Stmt:=match s with
 | .FunctionDef _ _ b _ _ _ _ _ _ _=>b
 | _=>[]
def zj (s:Stmt):Scope:=match s with
 | .FunctionDef _ _ _ _ _ _ sc _ _ _=>sc
 | _=>{ kind:=.function,names:=[],isGenerator:=false,isCoroutine:=false }
abbrev CX0:CXT:=fun _ _ _ _ _ _=>False
abbrev E0:XK:=fun _ _ _=>False
theorem zae {X:Cx}:zd3 CX0 X E0:=fun _ _ _ _ _ _ _ h=>h.elim
structure Fun (K:PySem.W.Frag) (x qual:Str) (st:Stmt) (f:Addr) (fd:FuncData):Prop where
 ex:∃ (oc:Value) (od:Option Addr) (kV doc pm:Value) (an:Option Addr) (cdv ct:Value) (osl:Array (Option Value)),
  fd=PySem.W.fnOf x qual (zaG st) (zay st) (zj st) .none kV doc pm an cdv ct∧K.lookup f=some ⟨oc,od,.func fd,osl⟩∧PySem.W.codeIn K cdv qual=true
 kp:PySem.W.keepIn K (.ref f)=true
section
variable {P:Program} {w:World} {K:PySem.W.Frag} {mg:Str→Option Value} {base:Heap}
theorem Fun.ok {x qual:Str} {st:Stmt} {f:Addr} {fd:FuncData} {N ps:List Str} {k:Nat} {sp:Sp} (F:Fun K x qual st f fd) (S:FnScope N ps (zj st)) (len:∀ vs H Q E,sp vs H Q E→vs.length=ps.length)
  (hbody:∀ (cdv:Value) (A:Around) (outer:List Env) (s:Shared) (H:Hp) (vs:List V) (Q:VK) (E:XK),Room k (A.deeper (envOfC qual (zj st) s.heap.objs.size f cdv))→sp vs H Q E →
   ∃ t,PSs (zeT CX0 P w K mg base N qual (zj st) f cdv A outer s H E).nox (zay st) t∧t { nx:=fun _ H'=>Q .non H',rt:=Q } (start N vs) H):FnOk P w K mg base CX0 (k+1) f fd ps sp:=by
 obtain⟨oc,od,kV,doc,pm,an,cdv,ct,osl,rfl,lk,hcd⟩:=F.ex
 refine zhG lk hcd S len fun A outer s H vs Q E hr hsp=>?_
 obtain⟨t,h,q⟩:=hbody cdv A outer s H vs Q E hr hsp
 exact⟨t,h.nox,q⟩
theorem Fun.binds {x qual:Str} {st:Stmt} {f:Addr} {fd:FuncData} {ps:List Str} (F:Fun K x qual st f fd)
  (h:∀ (kV doc pm:Value) (an:Option Addr) (cdv ct:Value) (us:List Value),us.length=ps.length→bindArgs (PySem.W.fnOf x qual (zaG st) (zay st) (zj st) .none kV doc pm an cdv ct) ⟨us,[]⟩=pure (ps.zip us)):Binds K fd ps []:=by
 obtain⟨oc,od,kV,doc,pm,an,cdv,ct,osl,rfl,lk,hcd⟩:=F.ex
 exact .all (h kV doc pm an cdv ct)
theorem zfH {x qual:Str} {st:Stmt} {f:Addr} {oc:Value} {od an:Option Addr} {osl:Array (Option Value)} {kV doc pm cdv ct:Value} (l:K.lookup f=some ⟨oc,od,.func (PySem.W.fnOf x qual (zaG st) (zay st) (zj st) .none kV doc pm an cdv ct),osl⟩)
  (c:PySem.W.codeIn K cdv qual=true) (k:PySem.W.keepIn K (.ref f)=true):Fun K x qual st f (PySem.W.fnOf x qual (zaG st) (zay st) (zj st) .none kV doc pm an cdv ct):=⟨⟨oc,od,kV,doc,pm,an,cdv,ct,osl,rfl,l,c⟩,k⟩
end
section
variable {X:Cx}
theorem pv (i:Nat) {x:Str} {pos:Pos} (hN:X.N[i]? = some x:=by rfl) (hv:Vis X.env.scope x:=by first | exact Or.inl rfl | exact Or.inr (Or.inl rfl) | exact Or.inr (Or.inr rfl)) (hd:(x == ("__debug__" : Str))=false:=by decide)
  (hcd:(x == ("__classdict__" : Str))=false:=by decide):PE X (.Name x pos) (zhr i):=zgZ hN hv hd hcd
end
theorem zal {A B:Prop} (h:B):if false=true then A else B:=by
 rw [if_neg Bool.false_ne_true]
 exact h
theorem zah {A B:Prop} (h:A):if true=true then A else B:=by
 rw [if_pos rfl]
 exact h
theorem zaR {c A B:Prop} [Decidable c] (h1:c→A) (h2:¬ c→B):if c then A else B:=by
 by_cases h:c
 ·rw [if_pos h]
  exact h1 h
 ·rw [if_neg h]
  exact h2 h
def zR (H H':Hp):Prop:=∀ b o,H b=some o→H' b=some o
theorem zR.trans {H H1 H2:Hp} (a:zR H H1) (b:zR H1 H2):zR H H2:=fun c o h=>b c o (a c o h)
theorem zR.free {H H':Hp} (e:zR H H') {l:Addr} (h:H' l=Option.none):H l=Option.none:=by
 cases q:H l with
 | none=>rfl
 | some o =>
  rw [e l o q] at h
  cases h
theorem zR.seq {K:PySem.W.Frag} {H H':Hp} {a:Addr} {xs:List V} (e:zR H H') (h:SqL K H a xs):SqL K H' a xs:=by
 rcases h with (h | ⟨o,h⟩) | h
 ·exact .inl (.inl (e _ _ h))
 ·exact .inl (.inr ⟨o,e _ _ h⟩)
 ·exact .inr h
end L2
section
set_option maxHeartbeats 3999000
namespace L2
open PySem PySem.Spec PyProof.Rows
def zF (cs:List (Str×Addr)):List (Str×NameKind)→List (Str×Addr)→List (Str×Addr)
 | [],acc=>acc
 | (n,k) :: r,acc=>if k == .free then zF cs r ((n,(cs.lookup n).getD 0) :: acc) else zF cs r acc
theorem zcA {scope:Scope} {env:Env} (h:∀ y∈scope.names,y.2 = .free→∃ c,env.cells.lookup y.1=some c) :
  closureFor scope env=pure (zF env.cells scope.names []):=by
 have go:∀ (names:List (Str×NameKind)) (acc:List (Str×Addr)),(∀ y∈names,y.2 = .free→∃ c,env.cells.lookup y.1=some c) →
   (forIn names acc (fun (x:Str×NameKind) (cs:List (Str×Addr))=>(if (x.2 == NameKind.free)=true then do
    let a ← cellOf env x.1
    pure (ForInStep.yield ((x.1,a) :: cs)) else pure (ForInStep.yield cs):Sem (ForInStep (List (Str×Addr))))))=(pure (zF env.cells names acc):Sem _):=by
  intro names
  induction names with
  | nil=>intro acc _; rfl
  | cons y r ih =>
   intro acc hy
   obtain⟨n,k⟩:=y
   rw [List.forIn_cons]
   cases hk:(k == NameKind.free) with
   | true =>
    obtain⟨c,hc⟩:=hy (n,k) List.mem_cons_self (by simpa using hk)
    have hcell:cellOf env n=pure c:=by
     unfold cellOf
     have hc':env.cells.lookup n=some c:=hc
     rw [hc']
    simp only [hk,if_true,hcell]
    have e:=ih ((n,c) :: acc) fun y hy'=>hy y (List.mem_cons_of_mem _ hy')
    have hc':env.cells.lookup n=some c:=hc
    simp only [zF,hk,if_true,hc',Option.getD_some]
    exact e
   | false =>
    simp only [hk,Bool.false_eq_true,if_false]
    have e:=ih acc fun y hy'=>hy y (List.mem_cons_of_mem _ hy')
    simp only [zF,hk,Bool.false_eq_true,if_false]
    exact e
 have e:=go scope.names [] h
 unfold closureFor
 show (forIn scope.names [] _ >>= fun cs=>pure cs)=_
 first
  | (rw [e]; rfl)
  | (simp only []; rw [e]; rfl)
  | (have e':=e; simp at e' ⊢; exact e')
theorem zaJ {cs:List (Str×Addr)}:∀ (names:List (Str×NameKind)) (acc:List (Str×Addr)),
  (∀ y∈names,y.2 = .free→∃ c,cs.lookup y.1=some c)→(∀ x c,acc.lookup x=some c→cs.lookup x=some c) →
  ∀ x c,(zF cs names acc).lookup x=some c→cs.lookup x=some c
 | [],acc,_,h,x,c,e=>h x c e
 | (n,k) :: r,acc,hy,h,x,c,e=>by
  have hr:∀ y∈r,y.2 = .free→∃ c,cs.lookup y.1=some c:=fun y hy'=>hy y (List.mem_cons_of_mem _ hy')
  unfold zF at e
  cases hk:(k == NameKind.free) with
  | false =>
   rw [hk] at e
   exact zaJ r acc hr h x c e
  | true =>
   rw [hk] at e
   obtain⟨d,hd⟩:=hy (n,k) List.mem_cons_self (by simpa using hk)
   have hd':cs.lookup n=some d:=hd
   refine zaJ r _ hr (fun x c e'=>?_) x c e
   rw [hd',Option.getD_some,List.lookup_cons] at e'
   cases hx:(x == n) with
   | true =>
    rw [hx] at e'
    have:x=n:=by simpa using hx
    subst this
    rw [hd']
    exact e'
   | false =>
    rw [hx] at e'
    exact h x c e'
theorem zaS {cs:List (Str×Addr)}:∀ (names:List (Str×NameKind)) (acc:List (Str×Addr)) (x:Str),
  ((∃ c,acc.lookup x=some c)∨(x,NameKind.free)∈names)→∃ c,(zF cs names acc).lookup x=some c
 | [],acc,x,h=>by
  rcases h with h | h
  ·exact h
  ·cases h
 | (n,k) :: r,acc,x,h=>by
  unfold zF
  cases hk:(k == NameKind.free) with
  | false =>
   refine zaS r acc x ?_
   rcases h with h | h
   ·exact .inl h
   ·rcases List.mem_cons.mp h with h | h
    ·cases h
     exact absurd hk (by decide)
    ·exact .inr h
  | true =>
   refine zaS r _ x ?_
   cases hx:(x == n) with
   | true=>exact .inl ⟨_,by rw [List.lookup_cons,hx]⟩
   | false =>
    rcases h with ⟨c,h⟩ | h
    ·exact .inl ⟨c,by rw [List.lookup_cons,hx]; exact h⟩
    ·rcases List.mem_cons.mp h with h | h
     ·cases h
      simp at hx
     ·exact .inr h
theorem lookup_mem {α:Type}:∀ {l:List (Str×α)} {x:Str} {k:α},l.lookup x=some k→(x,k)∈l
 | [],x,k,h=>by simp at h
 | (n,j) :: r,x,k,h=>by
  rw [List.lookup_cons] at h
  cases hx:(x == n) with
  | true =>
   rw [hx] at h
   have:x=n:=by simpa using hx
   subst this
   cases h
   exact List.mem_cons_self
  | false =>
   rw [hx] at h
   exact List.mem_cons_of_mem _ (lookup_mem h)
theorem zaw {env:Env}:∀ {names:List (Str×NameKind)} {x:Str},names.lookup x=some .free →
  (names.map fun (n,k)=>if (k == NameKind.free && env.scope.kind == .function && env.kindOf n == some .cell) then (n,NameKind.cell) else (n,k)).lookup x=some .cell ∨
  (names.map fun (n,k)=>if (k == NameKind.free && env.scope.kind == .function && env.kindOf n == some .cell) then (n,NameKind.cell) else (n,k)).lookup x=some .free
 | [],_,h=>by simp at h
 | (n,k) :: r,x,h=>by
  have ih:=@zaw env r x
  simp only [List.map_cons]
  cases hx:x == n with
  | true =>
   simp only [List.lookup_cons,hx] at h; cases h
   by_cases hc:(NameKind.free == NameKind.free && env.scope.kind == .function && env.kindOf n == some .cell)=true
   ·rw [if_pos hc]; left; simp only [List.lookup_cons,hx]
   ·rw [if_neg hc]; right; simp only [List.lookup_cons,hx]
  | false =>
   simp only [List.lookup_cons,hx] at h; rcases Classical.em ((k == NameKind.free && env.scope.kind == .function && env.kindOf n == some .cell)=true) with hc | hc
   ·exact (by rw [if_pos hc]; simp only [List.lookup_cons,hx]; exact ih h)
   ·exact (by rw [if_neg hc]; simp only [List.lookup_cons,hx]; exact ih h)
theorem zbt {env:Env}:∀ {names:List (Str×NameKind)} {x:Str},
  ((names.map fun (n,k)=>if (k == NameKind.free && env.scope.kind == .function && env.kindOf n == some .cell) then (n,NameKind.cell) else (n,k)).lookup x=some .cell ∨
  (names.map fun (n,k)=>if (k == NameKind.free && env.scope.kind == .function && env.kindOf n == some .cell) then (n,NameKind.cell) else (n,k)).lookup x=some .free) →
  names.lookup x=some .free∨names.lookup x=some .cell
 | [],_,h=>by simp at h
 | (n,k) :: r,x,h=>by
  have ih:=@zbt env r x
  simp only [List.map_cons] at h
  cases hx:x == n with
  | true =>
   rcases Classical.em ((k == NameKind.free && env.scope.kind == .function && env.kindOf n == some .cell)=true) with hc | hc
   ·have hk:k = .free:=by
     simp only [Bool.and_eq_true] at hc; simpa using hc.1.1
    subst hk
    exact .inl (by simp only [List.lookup_cons,hx])
   ·rw [if_neg hc] at h
    simp only [List.lookup_cons,hx] at h ⊢
    rcases h with h | h
    ·exact .inr h
    ·exact .inl h
  | false =>
   rcases Classical.em ((k == NameKind.free && env.scope.kind == .function && env.kindOf n == some .cell)=true) with hc | hc
   ·rw [if_pos hc] at h
    simp only [List.lookup_cons,hx] at h ⊢
    exact ih h
   ·rw [if_neg hc] at h
    simp only [List.lookup_cons,hx] at h ⊢
    exact ih h
end L2
end
section
set_option maxHeartbeats 3999000
namespace L2
open PySem PySem.Spec PyProof.Rows
theorem zc8:∀ (names:List (Str×NameKind)) (n:Nat) (acc:List (Str×Addr)) (x:Str),(x,NameKind.cell)∉names→(cellsFrom n names acc).lookup x=acc.lookup x
 | [],_,_,_,_=>rfl
 | (y,k) :: r,n,acc,x,h=>by
  have hr:(x,NameKind.cell)∉r:=fun z=>h (List.mem_cons_of_mem _ z)
  unfold cellsFrom
  split
  ·rename_i hk
   have hk':k = .cell:=by simpa using hk
   rw [zc8 r _ _ x hr,List.lookup_cons]
   cases hx:(x == y) with
   | true =>
    have:x=y:=by simpa using hx
    subst this
    subst hk'
    exact absurd List.mem_cons_self h
   | false=>rfl
  ·exact zc8 r _ _ x hr
theorem zc9:∀ (names:List (Str×NameKind)) (n:Nat) (acc:List (Str×Addr)) (x:Str),(x,NameKind.cell)∈names→∃ c,(cellsFrom n names acc).lookup x=some c∧n≤c
 | (y,k) :: r,n,acc,x,h=>by
  by_cases hr:(x,NameKind.cell)∈r
  ·unfold cellsFrom
   split
   ·obtain⟨c,e,l⟩:=zc9 r (n+1) ((y,n) :: acc) x hr
    exact⟨c,e,by omega⟩
   ·exact zc9 r n acc x hr
  ·rcases List.mem_cons.mp h with e | e
   ·cases e
    unfold cellsFrom
    rw [if_pos (by decide),zc8 r _ _ _ hr,List.lookup_cons,beq_self_eq_true]
    exact⟨n,rfl,Nat.le_refl _⟩
   ·exact absurd e hr
structure CO (h:Heap) (lo:Nat) (old cs:List (Str×Addr)):Prop where
 each:∀ x c,cs.lookup x=some c→(h.IsCell c none∧lo≤c)∨(old.lookup x=some c∧c < lo)
 inj:∀ x y c,cs.lookup x=some c→cs.lookup y=some c→x=y
theorem zfI {lo:Nat} {old:List (Str×Addr)}:∀ (names:List (Str×NameKind)) (h:Heap) (acc:List (Str×Addr)),CO h lo old acc→lo≤h.objs.size→CO (pushCells h names) lo old (cellsFrom h.objs.size names acc)
 | [],_,_,a,_=>a
 | (y,k) :: r,h,acc,a,hl=>by
  unfold pushCells cellsFrom
  split
  ·have lt:∀ x c,acc.lookup x=some c→c < h.objs.size:=fun x c e=>(a.each x c e).elim (fun z=>z.1.lt) fun z=>Nat.lt_of_lt_of_le z.2 hl
   have key:∀ x c,List.lookup x ((y,h.objs.size) :: acc)=some c→(x=y∧c=h.objs.size)∨acc.lookup x=some c:=fun x c e=>by
    rw [List.lookup_cons] at e
    cases hx:(x == y) with
    | true =>
     rw [hx] at e
     exact .inl ⟨by simpa using hx,(Option.some.inj e).symm⟩
    | false =>
     rw [hx] at e
     exact .inr e
   have:=zfI (lo:=lo) (old:=old) r (h.push { cls:=.type "cell",data:=.cell none }) ((y,h.objs.size) :: acc) ⟨fun x c e=>?_,fun x z c e1 e2=>?_⟩ (by rw [Heap.size_push]; omega)
   ·rw [Heap.size_push] at this
    exact this
   ·rcases key x c e with ⟨_,rfl⟩ | e
    ·exact .inl ⟨⟨_,Heap.get?_push_size _ rfl,rfl⟩,hl⟩
    ·rcases a.each x c e with z | z
     ·exact .inl ⟨z.1.keeps fun b o e=>Heap.get?_push_of_some _ e,z.2⟩
     ·exact .inr z
   ·rcases key x c e1 with ⟨p1,q1⟩ | f1 <;> rcases key z c e2 with ⟨p2,q2⟩ | f2
    ·exact p1.trans p2.symm
    ·exact absurd (lt _ _ f2) (by rw [q1]; exact Nat.lt_irrefl _)
    ·exact absurd (lt _ _ f1) (by rw [q2]; exact Nat.lt_irrefl _)
    ·exact a.inj x z c f1 f2
  ·exact zfI r h acc a hl
theorem zeY {M:Model} {A:Around} {E:Value→Shared→Prop} {s:Shared} {scope:Scope} {globals:Addr} {closure:List (Str×Addr)} {qual:Str} {env:Env} {Q:Env→Shared→Prop}
  (h:Q (newEnv scope s.heap.objs.size globals (cellsFrom (s.heap.objs.size+1) scope.names closure) qual none .none (some env) builtinsNs) { s with heap:=pushCells (s.heap.push { cls:=.type "dict",data:=.dict #[] }) scope.names }) :
  wpAny M A (newFunctionEnv scope globals closure [] qual none .none (some env)) Q E s:=by
 (simp only [newFunctionEnv,Option.isSome_some,if_true])
 (refine wpAny_bind (wpAny_alloc ?_))
 (refine wpAny_bind (wpAny_layCells _ (fun name kind cells=>by cases hkc:kind == NameKind.cell <;> simp [hkc]) _ _ _ _ ?_))
 rw [show ({ s with heap:=s.heap.push { cls:=.type "dict",data:=.dict #[] } }:Shared).heap.objs.size=s.heap.objs.size+1 from Heap.size_push ..]
 (exact wpAny_bind (wpAny_pure (wpAny_pure h)))
abbrev zau (X:Cx) (N':List Str) (scope:Scope) (s₃:Shared) (H₃:Hp) (ex:List Addr) (pins:List (Addr×Obj)):Cx :=
 { X with N:=N',s₀:=s₃,H₀:=H₃,env:=compEnvC scope (cellsFrom (s₃.heap.objs.size+1) scope.names (zF X.env.cells scope.names [])) s₃.heap.objs.size X.env,outer:=X.stack,stack:=X.stack,ex:=ex,fn:=fun x=>scope.names.lookup x == some .cell,pn:=X.pn++pins,xe:=fun _ _=>False }
def zd7 (ifs:List Expr) (env:Env):Sem Bool :=
 forIn ifs true fun c r=>if r=true then do let ok ← isTrue c env (eval c env); pure (ForInStep.yield ok) else pure (ForInStep.yield r)
def zeZ (X:Cx) (ifs:List Expr) (t:TT):Prop :=
 ∀ (pins:List (Addr×Obj)) (s:Shared) (σ:St) (H:Hp) (Q:Bool→Hp→Prop),Inv X pins σ H s→t σ H Q→wpAny (model X.prog X.w) X.A (zd7 ifs X.env) (TP X pins σ Q) X.xe s
def zhK:TT:=fun _ H Q=>Q true H
theorem zck {X:Cx}:zeZ X [] zhK:=fun _ _ _ H _ I h=>wpAny_pure ⟨H,I,h⟩
theorem zdx {X:Cx} {c:Expr} {t:TT} (h:PT X c t):zeZ X [c] t:=by
 intro pins s σ H Q I hw
 unfold zd7
 rw [List.forIn_cons]
 simp only [if_true]
 exact wpAny_bind (wpAny_bind (thn (h pins s σ H _ I hw) fun b s1 q=>wpAny_pure (wpAny_pure q)))
structure CompSc (X:Cx) (N':List Str) (ix:List (Option Nat)) (scope:Scope):Prop where
 kind:scope.kind = .function
 cells:∀ y∈scope.names,y.2 = .cell→scope.names.lookup y.1=some .cell
 names:∀ y∈scope.names,y.2 = .local→scope.names.lookup y.1=some .local
 free:∀ y∈scope.names,y.2 = .free→X.env.kindOf y.1=some .cell∨X.env.kindOf y.1=some .free
 len:N'.length=ix.length
 cap:∀ j i:Nat,ix[j]? = some (some i)→∃ x,N'[j]? = some x∧X.N[i]? = some x∧scope.names.lookup x=some .free
def zeu (osc:Scope) (oN N':List Str) (ix:List (Option Nat)) (scope:Scope):Bool :=
 (scope.kind == .function) && (scope.names.all fun y=>y.2 != .cell || scope.names.lookup y.1 == some .cell) && (scope.names.all fun y=>y.2 != .local || scope.names.lookup y.1 == some .local) &&
 (scope.names.all fun y=>y.2 != .free || (osc.names.lookup y.1 == some .cell || osc.names.lookup y.1 == some .free)) && (N'.length == ix.length) &&
 ((List.range ix.length).all fun j=>match ix[j]? with
  | some (some i)=>(match N'[j]? with
   | some x=>oN[i]? == some x && scope.names.lookup x == some .free
   | none=>false)
  | _=>true)
theorem CompSc.of {X:Cx} {N':List Str} {ix:List (Option Nat)} {scope:Scope} (osc:Scope) (oN:List Str) (h1:X.env.scope=osc) (h2:X.N=oN) (hb:zeu osc oN N' ix scope=true):CompSc X N' ix scope:=by
 unfold zeu at hb
 simp only [Bool.and_eq_true,List.all_eq_true] at hb
 obtain⟨⟨⟨⟨⟨a,b⟩,c⟩,d⟩,e⟩,f⟩:=hb
 refine⟨?_,fun y hy hl=>?_,fun y hy hl=>?_,fun y hy hf=>?_,by simpa using e,fun j i hj=>?_⟩
 ·revert a
  cases scope.kind <;> first | (intro _; rfl) | (intro h; exact absurd h (by decide))
 ·have:=b y hy
  rw [hl] at this
  simpa using this
 ·have:=c y hy
  rw [hl] at this
  simpa using this
 ·have:=d y hy
  rw [hf] at this
  have e1:X.env.kindOf y.1=osc.names.lookup y.1:=by rw [← h1]; rfl
  rw [e1]
  simpa using this
 ·have hlt:j < ix.length:=(List.getElem?_eq_some_iff.mp hj).1
  have:=f j (List.mem_range.mpr hlt)
  rw [hj] at this
  cases hN:N'[j]? with
  | none =>
   rw [hN] at this
   simp at this
  | some x =>
   rw [hN] at this
   refine⟨x,rfl,?_⟩
   rw [h2]
   simpa using this
def zbu (ix:List (Option Nat)) (σ:St):St:=ix.map fun o=>match o with
 | none=>none
 | some i=>(σ[i]?).join
theorem Inv.track {X:Cx} {pins:List (Addr×Obj)} {σ:St} {H:Hp} {s:Shared} {D:Addr} {o:HO} (I:Inv X pins σ H s) (hn:H D=none) (hs:X.s₀.heap.objs.size≤D) (hL:X.env.locals≠D)
  (hC:∀ x c,X.env.cells.lookup x=some c→c≠D) (hp:∀ p∈X.pn++pins,p.1≠D) (ok:zS X.prog X.w (upd H D o) s.heap D o):Inv X pins σ (upd H D o) s:=by
 have ne:∀ b u,H b=some u→b≠D:=fun b u e=>zv e hn
 refine⟨I.ok,I.os,I.bare,⟨I.base.keep,I.base.slot,fun b u e n hx=>?_,I.base.there,fun b xs e=>?_,fun b u xs e=>?_,fun b ps e=>?_⟩,I.loc,I.cell,?_,fun x c e=>?_,fun p hp'=>?_,fun b u e=>?_,I.len⟩
 ·have:b≠D:=Nat.ne_of_lt (Nat.lt_of_lt_of_le (Heap.lt_size e) hs)
  rw [zm this]
  exact I.base.free b u e n hx
 ·have:=I.base.tups b xs e
  rw [zm (ne b _ this)]
  exact this
 ·have:=I.base.frzs b u xs e
  rw [zm (ne b _ this)]
  exact this
 ·obtain⟨more,q⟩:=I.base.tbls b ps e
  exact⟨more,by rw [zm (ne b _ q)]; exact q⟩
 ·rw [zm hL]
  exact I.free
 ·rw [zm (hC x c e)]
  exact I.freeC x c e
 ·obtain⟨a1,a2,a3⟩:=I.pin p hp'
  exact⟨a1,by rw [zm (hp p hp')]; exact a2,a3⟩
 ·by_cases hb:b=D
  ·subst hb
   rw [zc] at e
   cases e
   exact ok
  ·rw [zm hb] at e
   exact (I.hok b u e).stay (fun c v _ q=>q) (fun c q=>by rw [zm (ne c _ q)]; exact q) fun c xs q=>by rw [zm (ne c _ q)]; exact q
def cGo (g:TG) (ts:TT) (te:TE) (σ0:St) (J:It) (Q:VK) (H1:Hp):Prop :=
 ∃ W:Nat→Nat→List V→Hp→Prop,(∃ m,W 0 m [] H1)∧∀ i m ys H,W i m ys H →
  (J.stop i H∧∀ D,H D=none→Q (.ref D) (upd H D (.lst ys))) ∨
  (J.go i H∧∃ N:List V→Hp→Prop,(∀ ys' H',N ys' H'→∃ m',m' < m∧W (i+1) m' ys' H')∧∀ x H',J.yld i H x H'→g x σ0 H' fun σ2 H2=>ts σ2 H2 fun b H3 =>
   if b=true then te σ2 H3 fun y H4=>ys.length < sizeLine∧N (ys++[y]) H4 else N ys H3)
def zhL (ix:List (Option Nat)) (wi:TI) (g:TG) (ts:TT) (te:TE):TE:=fun σ H Q=>wi σ H fun J H1=>cGo g ts te (zbu ix σ) J Q H1
theorem zbv {J:It} {n:Nat} {g:TG} {ts:TT} {te:TE} {σ0:St} {Q:VK} {H:Hp} (Pv:Nat→List V→Hp→Prop) (h0:Pv 0 [] H) (hgo:∀ i ys H,i < n→Pv i ys H→J.go i H) (hst:∀ ys H,Pv n ys H→J.stop n H)
  (hs:∀ i x ys H H',i < n→Pv i ys H→J.yld i H x H'→g x σ0 H' fun σ2 H2=>ts σ2 H2 fun b H3=>if b=true then te σ2 H3 fun y H4=>ys.length < sizeLine∧Pv (i+1) (ys++[y]) H4 else Pv (i+1) ys H3)
  (hd:∀ ys H D,Pv n ys H→H D=none→Q (.ref D) (upd H D (.lst ys))):cGo g ts te σ0 J Q H:=by
 refine⟨fun i m ys H=>m=n - i∧i≤n∧Pv i ys H,⟨n,by simp,Nat.zero_le _,h0⟩,?_⟩
 rintro i m ys H ⟨rfl,hi,p⟩
 by_cases hlt:i < n
 ·exact .inr ⟨hgo i ys H hlt p,Pv (i+1),fun ys' H' p'=>⟨n - (i+1),by omega,rfl,hlt,p'⟩,fun x H' y=>hs i x ys H H' hlt p y⟩
 ·have e:i=n:=by omega
  subst e
  exact .inl ⟨hst ys H p,fun D hD=>hd ys H D p hD⟩
end L2
end
section
set_option maxHeartbeats 3999000
namespace L2
open PySem PySem.Spec PyProof.Rows
abbrev TM:=List V→St→Hp→(List V→Hp→Prop)→Prop
abbrev zcB (its:List Value) (nn:Nat):Obj:={ cls:=.type "list",data:=.seq its.toArray nn }
structure AccAt (Y:Cx) (pins:List (Addr×Obj)) (H:Hp) (s:Shared) (D:Addr) (ys:List V) (its:List Value) (nn:Nat):Prop where
 fp:zbs Y pins H D
 here:s.heap.get? D=some (zcB its nn)
 vals:zt ys its
 len:ys.length≤sizeLine
def zda (js:List Nat) (σ:St):Prop:=∀ j∈js,∀ v,σ[j]?≠some (some v)
def Kp (js:List Nat) (σ σ2:St):Prop:=σ2.length=σ.length∧∀ j,j∉js→σ2[j]? = σ[j]?
theorem Kp.refl {js:List Nat} {σ:St}:Kp js σ σ:=⟨rfl,fun _ _=>rfl⟩
theorem Kp.set {js:List Nat} {σ σ2:St} {i:Nat} {v:Option V} (hi:i∈js) (h:Kp js σ σ2):Kp js σ (σ2.set i v):=by
 refine⟨by rw [List.length_set]; exact h.1,fun j hj=>?_⟩
 rw [List.getElem?_set_ne (fun z=>hj (by rw [← z]; exact hi))]
 exact h.2 j hj
def GS (js:List Nat) (g:TG):Prop:=∀ (σ σ1:St) (x:V) (H:Hp) (Q:St→Hp→Prop),Kp js σ σ1→g x σ1 H Q→g x σ1 H fun σ2 H2=>Kp js σ σ2∧Q σ2 H2
theorem zgu {js:List Nat} {i:Nat} (hi:i∈js):GS js (zci i):=fun σ σ1 x H Q hw h=>⟨hw.set hi,h⟩
theorem Inv.fewer {X:Cx} {pins pins':List (Addr×Obj)} {σ:St} {H:Hp} {s:Shared} (I:Inv X pins σ H s) (h:∀ p∈pins',p∈pins):Inv X pins' σ H s :=
 I.pins_of fun p hp=>I.pin p (List.mem_append_right _ (h p hp))
section
variable {Y:Cx} {pins:List (Addr×Obj)} {σ:St} {H:Hp} {s:Shared} {D:Addr} {ys:List V} {its:List Value} {nn:Nat}
theorem AccAt.pin (a:AccAt Y pins H s D ys its nn) (I:Inv Y pins σ H s):Inv Y (pins++[(D,zcB its nn)]) σ H s :=
 I.pins_of fun p hp=>by
  rcases (List.mem_append.mp hp) with hp | hp
  ·exact I.pin p (List.mem_append_right _ hp)
  ·obtain rfl:p=(D,zcB its nn):=by simpa using hp
   obtain⟨a0,a1,a2,_⟩:=a.fp
   exact⟨a.here,a0,a1,a2,fun v z=>by cases z⟩
theorem AccAt.back {pins':List (Addr×Obj)} {σ':St} {H':Hp} {s':Shared} (a:AccAt Y pins H s D ys its nn) (I:Inv Y pins' σ' H' s') (hm:(D,zcB its nn)∈pins'):AccAt Y pins H' s' D ys its nn:=by
 have p:=I.pin (D,zcB its nn) (List.mem_append_right _ hm)
 exact⟨⟨p.2.1,a.fp.2⟩,p.1,a.vals,a.len⟩
end
def PM (Y:Cx) (D:Addr) (js:List Nat) (mk:Sem Fin→Sem Fin) (tm:TM):Prop :=
 ∀ (last:Sem Fin) (pins:List (Addr×Obj)) (s:Shared) (σ:St) (H:Hp) (ys:List V) (its:List Value) (nn:Nat) (Q:List V→Hp→Prop) (Φ:Fin→Shared→Prop),Inv Y pins σ H s→AccAt Y pins H s D ys its nn→zda js σ→tm ys σ H Q →
  (∀ (s':Shared) (ys':List V) (its':List Value) (nn':Nat) (H':Hp),Inv Y pins σ H' s'→AccAt Y pins H' s' D ys' its' nn'→Q ys' H'→wpAny (model Y.prog Y.w) Y.A last Φ (fun _ _=>False) s') →
  wpAny (model Y.prog Y.w) Y.A (mk last) Φ (fun _ _=>False) s
def zew (elt:Expr) (acc:Value) (env:Env) (last:Sem Fin):Sem Fin:=(eval elt env >>= fun x=>call (.builtin "list.append") [acc,x] >>= fun _=>pure ()) >>= fun _=>last
def zhM (te:TE):TM:=fun ys σ H Q=>te σ H fun y H4=>ys.length < sizeLine∧Q (ys++[y]) H4
def cIn (g:TG) (ts:TT) (tm:TM) (σ:St) (J:It) (Q:List V→Hp→Prop) (ys:List V) (H1:Hp):Prop :=
 ∃ W:Nat→Nat→List V→Hp→Prop,(∃ m,W 0 m ys H1)∧∀ i m ys H,W i m ys H →
  (J.stop i H∧Q ys H) ∨
  (J.go i H∧∃ N:List V→Hp→Prop,(∀ ys' H',N ys' H'→∃ m',m' < m∧W (i+1) m' ys' H')∧∀ x H',J.yld i H x H'→g x σ H' fun σ2 H2=>ts σ2 H2 fun b H3 =>
   if b=true then tm ys σ2 H3 N else N ys H3)
def zhb (ix:List (Option Nat)) (wi:TI) (g:TG) (ts:TT) (tm:TM):TE:=fun σ H Q=>wi σ H fun J H1=>cIn g ts tm (zbu ix σ) J (fun ys H'=>∀ D,H' D=none→Q (.ref D) (upd H' D (.lst ys))) [] H1
theorem thx {α:Type} {X:Cx} {m:Sem α} {P Q:α→Shared→Prop} {E:Value→Shared→Prop} {s:Shared} (hx:X.xe=fun _ _=>False) (h:wpAny (model X.prog X.w) X.A m P X.xe s) (k:∀ a s',P a s'→Q a s'):wpAny (model X.prog X.w) X.A m Q E s :=
 wpAny_mono h k fun _ _ z=>by rw [hx] at z; exact z.elim
theorem zhc {Y:Cx} {D:Addr} {elt:Expr} {te:TE} (hx:Y.xe=fun _ _=>False) (he:PE Y elt te):PM Y D [] (zew elt (.ref D) Y.env) (zhM te):=by
 intro last pins s σ H ys its nn Q Φ I a no h k
 unfold zew
 refine wpAny_bind (wpAny_bind (thx hx (he (pins++[(D,zcB its nn)]) s σ H _ (a.pin I) h) fun yv s1 ⟨y,H1,I1,r1,hz,q1⟩=>wpAny_bind ?_))
 have a1:=a.back I1 (List.mem_append_right _ List.mem_cons_self)
 have J1:Inv Y pins σ H1 s1:=I1.fewer fun p hp=>List.mem_append_left _ hp
 have hvl:=a1.vals.length
 refine call_meets F.slot_list_append ⟨_,a1.here,rfl⟩ F.entry_list_append (F.args_list_append_2 _ _) (PySem.list_append D its.toArray nn yv (by rw [List.size_toArray]; omega)) ⟨a1.here,?_⟩
 refine wpAny_pure ?_
 have q:=PySem.IsL.update a1.here (·.push yv)
 have k10:∀ b o,b≠D→s1.heap.get? b=some o→(s1.heap.update D (Obj.mapSeq (·.push yv))).get? b=some o:=fun b o hb e=>(Heap.get?_update_other s1.heap (Obj.mapSeq (·.push yv)) (Ne.symm hb)).trans e
 obtain⟨b0,b1,b2,b3,b4,b5⟩:=a1.fp
 have I11:Inv Y pins σ H1 { s1 with heap:=s1.heap.update D (Obj.mapSeq (·.push yv)) }:=J1.turned (t':=s1.toks) k10 b0 b1 b3 b4 b5
 have e1:its.toArray.push yv=(its++[yv]).toArray:=by simp
 rw [e1] at q
 refine k _ (ys++[y]) (its++[yv]) _ H1 I11 ⟨a1.fp,q,a1.vals.append (.cons r1 .nil),?_⟩ q1
 rw [List.length_append,List.length_singleton]
 omega
section
variable {Y:Cx} {D:Addr} {js js':List Nat} {elt:Expr} {gens:List Comprehension} {scope:Scope} {pos:Pos} {d:Nat} {tg:Expr} {ifs:List Expr} {p:Pos} {mk:Sem Fin→Sem Fin} {g:TG} {ts:TT} {tm:TM}
def zcl (tg:Expr) (ifs:List Expr) (p:Pos) (mk:Sem Fin→Sem Fin) (c:Code) (it:Value) (env:Env):Sem Fin :=
 standAt p >>= fun _=>pyNext it >>= fun r=>match r with
  | none=>pure (.done .next)
  | some v=>letOwnedTupleGo tg it v >>= fun _=>assign tg env v >>= fun _=>zd7 ifs env >>= fun ok=>if ok=true then mk (again c) else again c
theorem zgv (hc:Y.calm=true) (hx:Y.xe=fun _ _=>False) (hgs:GS js g) (hdis:∀ j∈js,j∉js') (hg:PG Y tg g) (ht:zeZ Y ifs ts) (hm:PM Y D js' mk tm)
  (hturn:∀ it,compTurn (.ListComp elt gens scope pos) d it (.ref D) Y.env=zcl tg ifs p mk (.compLoop (.ListComp elt gens scope pos) d it (.ref D) Y.env) it Y.env)
  {pins:List (Addr×Obj)} {σ:St} {H2:Hp} {s2:Shared} {it:Addr} {fp:List Addr} {tn:Nat→Heap→Prop} {J:It} {Q:List V→Hp→Prop} {R:Result→Shared→Prop} {ys:List V} {its:List Value} {nn:Nat}
  (I2:Inv Y pins σ H2 s2) (a2:AccAt Y pins H2 s2 D ys its nn) (no:zda (js++js') σ) (T:Turn Y.prog Y.w Y.K tg J fp it tn) (st2:tn 0 s2.heap) (f2:∀ b∈fp,zbs Y pins H2 b) (fD:∀ b∈fp,b≠D) (q:cIn g ts tm σ J Q ys H2)
  (hR:∀ (s':Shared) (ys':List V) (its':List Value) (nn':Nat) (H':Hp),Inv Y pins σ H' s'→AccAt Y pins H' s' D ys' its' nn'→Q ys' H'→R (.ok .next) s') :
  codeAny (model Y.prog Y.w) Y.A (.compLoop (.ListComp elt gens scope pos) d (.ref it) (.ref D) Y.env) R s2:=by
 obtain⟨W,⟨m0,w0⟩,turn⟩:=q
 have fpY:∀ {H':Hp} {its:List Value} {nn:Nat},(∀ b∈fp,H' b=none)→∀ b∈fp,zbs Y (pins++[(D,zcB its nn)]) H' b:=fun {H' its nn} hn b hb=>by
  obtain⟨_,a1,a2,a3,a4,a5⟩:=f2 b hb
  refine⟨hn b hb,a1,a2,a3,a4,fun p hp=>?_⟩
  rcases (List.mem_append.mp hp) with hp | hp
  ·exact a5 p (List.mem_append_left _ hp)
  ·rcases (List.mem_append.mp hp) with hp | hp
   ·exact a5 p (List.mem_append_right _ hp)
   ·obtain rfl:p=(D,zcB its nn):=by simpa using hp
    exact (fD b hb).symm
 refine codeAny_loop rfl (fun n s'=>∃ i ys H' its nn,Inv Y pins σ H' s'∧tn i s'.heap∧(∀ b∈fp,H' b=none)∧AccAt Y pins H' s' D ys its nn∧W i n ys H') ?_ m0
  ⟨0,ys,H2,its,nn,I2,st2,fun b hb=>(f2 b hb).1,a2,w0⟩
 rintro n s5 ⟨i,ys,H5,its,nn,I5,st5,fr5,a5,w5⟩
 show wpAny _ Y.A ((compTurn (.ListComp elt gens scope pos) d (.ref it) (.ref D) Y.env).onRaise (fun x=>do noteFrame x Y.env; theTreesLotGoes x)) _ _ s5
 refine wpAny_noted ?_
 rw [hturn]
 unfold zcl
 have I5p:=a5.pin I5
 (refine wpAny_bind (wpAny_standAt (wpAny_bind ?_)))
 rcases turn i n ys H5 w5 with ⟨stop,qn⟩ | ⟨go,N,hN,step⟩
 ·refine wpAny_mono (T.done Y rfl rfl rfl hc i _ s5 _ H5 (fun _ _=>False) I5p (fpY fr5) st5 stop) (fun r s6 ⟨hr,I6⟩=>?_) fun _ _ z=>z.elim
  subst hr
  exact wpAny_pure (hR s6 ys its nn H5 (I6.fewer fun p hp=>List.mem_append_left _ hp) (a5.back I6 (List.mem_append_right _ List.mem_cons_self)) qn)
 ·refine wpAny_mono (T.item Y rfl rfl rfl hc i _ s5 _ H5 (fun _ _=>False) I5p (fpY fr5) st5 go) (fun r s6 ⟨u,hr,h6⟩=>?_) fun _ _ z=>z.elim
  subst hr
  refine wpAny_bind (wpAny_mono h6 (fun _ s7 ⟨x,H7,I7,r7,y7,st7,fr7⟩=>?_) fun _ _ z=>z.elim)
  have I7':=I7.pinned (fpY fr7) (T.obj _ _ st7)
  refine wpAny_bind (thx hx (hg _ s7 _ H7 x u _ I7' r7 (hgs σ σ x H7 _ Kp.refl (step x H7 y7))) fun _ s8 ⟨σ8,H8,I8,kp,q8⟩=>?_)
  refine wpAny_bind (thx hx (ht _ s8 σ8 H8 _ I8 q8) fun ok s9 ⟨H9,I9,q9⟩=>?_)
  have mD:(D,zcB its nn)∈(pins++[(D,zcB its nn)])++za3 fp s7.heap:=List.mem_append_left _ (List.mem_append_right _ List.mem_cons_self)
  have a9:=a5.back I9 mD
  have K9:Inv Y (pins++za3 fp s7.heap) σ8 H9 s9:=I9.fewer fun p hp=>(List.mem_append.mp hp).elim (fun z=>List.mem_append_left _ (List.mem_append_left _ z)) fun z=>List.mem_append_right _ z
  have wk:∀ (j:Nat) v,σ[j]? = some (some v)→σ8[j]? = some (some v):=fun j v e=>by
   have hj:j∉js:=fun z=>no j (List.mem_append_left _ z) v e
   rw [kp.2 j hj]
   exact e
  have back:∀ {H':Hp} {s':Shared},Inv Y (pins++za3 fp s7.heap) σ8 H' s'→Inv Y pins σ H' s'∧tn (i+1) s'.heap∧∀ b∈fp,H' b=none:=fun {H' s'} I'=>by
   refine⟨(I'.fewer fun p hp=>List.mem_append_left _ hp).weak kp.1.symm wk,T.keep _ _ _ st7 fun b hb o e=>(I'.pin (b,o) (List.mem_append_right _ (List.mem_append_right _ (zaP hb e)))).1,fun b hb=>?_⟩
   obtain⟨o,e,d⟩:=T.obj _ _ st7 b hb
   exact (I'.pin (b,o) (List.mem_append_right _ (List.mem_append_right _ (zaP hb e)))).2.1
  cases ok with
  | false =>
   rw [if_neg Bool.false_ne_true] at q9 ⊢
   obtain⟨m',hm',w9⟩:=hN _ _ q9
   obtain⟨b1,b2,b3⟩:=back K9
   exact wpAny_pure ⟨rfl,m',hm',i+1,ys,H9,its,nn,b1,b2,b3,a9,w9⟩
  | true =>
   rw [if_pos rfl] at q9 ⊢
   have a9':AccAt Y (pins++za3 fp s7.heap) H9 s9 D ys its nn:=by
    obtain⟨b0,b1,b2,b3,b4,b5⟩:=a9.fp
    refine⟨⟨b0,b1,b2,b3,b4,fun p hp=>?_⟩,a9.here,a9.vals,a9.len⟩
    rcases (List.mem_append.mp hp) with hp | hp
    ·exact b5 p (List.mem_append_left _ hp)
    ·rcases (List.mem_append.mp hp) with hp | hp
     ·exact b5 p (List.mem_append_right _ hp)
     ·exact fD _ (zcL hp).1
   have no':zda js' σ8:=fun j hj v e=>by
    have hj':j∉js:=fun z=>hdis j z hj
    rw [kp.2 j hj'] at e
    exact no j (List.mem_append_right _ hj) v e
   refine wpAny_mono (hm (again _) _ s9 σ8 H9 ys its nn N (fun fin s'=>match fin with | .done f=>R (.ok f) s' | .again c'=>c'=_∧∃ m,m < n∧_) K9 a9' no' q9 fun s' ys' its' nn' H' I' a' n'=>?_) (fun _ _ z=>z) fun _ _ z=>z.elim
   obtain⟨m',hm',w'⟩:=hN _ _ n'
   obtain⟨b1,b2,b3⟩:=back I'
   obtain⟨c0,c1,c2,c3,c4,c5⟩:=a'.fp
   refine wpAny_pure ⟨rfl,m',hm',i+1,ys',H',its',nn',b1,b2,b3,⟨⟨c0,c1,c2,c3,c4,fun p hp=>?_⟩,a'.here,a'.vals,a'.len⟩,w'⟩
   rcases (List.mem_append.mp hp) with hp | hp
   ·exact c5 p (List.mem_append_left _ hp)
   ·exact c5 p (List.mem_append_right _ (List.mem_append_left _ hp))
theorem zfJ {prog:Program} {w:World} {A:Around} {R:Result→Shared→Prop} {s:Shared} {iter:Expr} {it acc:Value} {env:Env} (hd:gens[d]? = some ⟨tg,iter,ifs,0⟩)
  (h0:codeAny (model prog w) A (.compLoop (.ListComp elt gens scope pos) d it acc env) R s)
  (h:wpAny (model prog w) A (pyIter it) (fun it' s'=>codeAny (model prog w) A (.compLoop (.ListComp elt gens scope pos) d it' acc env) R s') (fun _ _=>False) s) :
  codeAny (model prog w) A (.compStart (.ListComp elt gens scope pos) d it acc env) R s:=by
 refine codeAny_of_tree ?_
 show wpAny _ _ ((compStart (.ListComp elt gens scope pos) d it acc env).onRaise (fun x=>do noteFrame x env; standAt theWindowsPlace)) _ _ s
 refine wpAny_notedAt ?_
 unfold compStart
 have e1:(clausesOf (.ListComp elt gens scope pos))[d]? = some ⟨tg,iter,ifs,0⟩:=hd
 rw [e1]
 (show wpAny _ _ (ask >>= _) _ _ s)
 (refine wpAny_bind (wpAny_askSetting (wpAny_ite ?_)))
 split
 ·first
   | (exact wpAny_bind (wpAny_pure (wpAny_pure ⟨rfl,h0⟩)))
   | (exact wpAny_pure ⟨rfl,h0⟩)
 ·first
   | exact wpAny_bind (wpAny_rule (wpAny_bind (wpAny_standAt (wpAny_bind (wpAny_mono h (fun it' s' h'=>wpAny_pure (And.intro rfl h')) fun _ _ x=>x.elim)))))
   | (refine wpAny_bind (wpAny_rule ?_); show wpAny _ _ (standAt iter.pos >>= _) _ _ s; exact wpAny_bind (wpAny_standAt (wpAny_bind (wpAny_mono h (fun it' s' h'=>wpAny_pure (And.intro rfl h')) fun _ _ x=>x.elim))))
end
section
variable {X:Cx} {elt tg iter:Expr} {ifs:List Expr} {gs:List Comprehension} {scope:Scope} {pos:Pos} {N':List Str} {ix:List (Option Nat)} {js js':List Nat} {g:TG} {ts:TT} {tm:TM} {mk:Addr→Env→Sem Fin→Sem Fin}
theorem zdy {pins:List (Addr×Obj)} {σ:St} {H2:Hp} {s2:Shared} {it:Addr} {fp:List Addr} {tn:Nat→Heap→Prop} {J:It} {Q:VK} {E:Value→Shared→Prop} {RR:Value→Addr→Result→Shared→Prop}
  (SC:CompSc X N' ix scope) (hc:X.calm=true) (hgs:GS js g) (hdis:∀ j∈js,j∉js') (hjs:∀ j∈js++js',ix[j]? = some none)
  (hg:∀ s₃ H₃ ex pins,PG (zau X N' scope s₃ H₃ ex pins) tg g) (ht:∀ s₃ H₃ ex pins,zeZ (zau X N' scope s₃ H₃ ex pins) ifs ts) (hm:∀ s₃ H₃ ex pins D,PM (zau X N' scope s₃ H₃ ex pins) D js' (mk D (zau X N' scope s₃ H₃ ex pins).env) tm)
  (hturn:∀ it D env,compTurn (.ListComp elt (⟨tg,iter,ifs,0⟩ :: gs) scope pos) 0 it (.ref D) env=zcl tg ifs iter.pos (mk D env) (.compLoop (.ListComp elt (⟨tg,iter,ifs,0⟩ :: gs) scope pos) 0 it (.ref D) env) it env)
  (I2:Inv X pins σ H2 s2) (T:Turn X.prog X.w X.K tg J fp it tn) (st2:tn 0 s2.heap) (f2:∀ b∈fp,zbs X pins H2 b) (q:cIn g ts tm (zbu ix σ) J (fun ys H'=>∀ D,H' D=none→Q (.ref D) (upd H' D (.lst ys))) [] H2)
  (hRR:∀ (D C:Addr) (s':Shared) (ys:List V) (H':Hp) (m:Str→Option Value),Inv X pins σ (upd H' D (.lst ys)) s'→zbs X pins (upd H' D (.lst ys)) C→s'.heap.Ns C m→Q (.ref D) (upd H' D (.lst ys))→RR (.ref D) C (.ok .next) s') :
  wpAny (model X.prog X.w) X.A (newList []) (fun acc s₃=>wpAny (model X.prog X.w) X.A (newFunctionEnv scope X.env.globals (zF X.env.cells scope.names []) [] X.env.qual none .none (some X.env)) (fun cenv s₄ =>
   codeAny (model X.prog X.w) X.A (.compStart (.ListComp elt (⟨tg,iter,ifs,0⟩ :: gs) scope pos) 0 (.ref it) acc { cenv with scope:=relabel scope X.env }) (RR acc cenv.locals) s₄) E s₃) E s2:=by
 have hfr:∀ y∈scope.names,y.2 = .free→∃ c,X.env.cells.lookup y.1=some c:=fun y hy hf=>I2.ok.has y.1 (SC.free y hy hf)
 have hcl:∀ x c,(zF X.env.cells scope.names []).lookup x=some c→X.env.cells.lookup x=some c:=zaJ scope.names [] hfr (fun x c e=>by simp at e)
 refine wpAny_newObj_type (zeY ?_)
 have I3:Inv X pins σ H2 { s2 with heap:=s2.heap.push { cls:=.type "list",dict:=none,data:=.seq ([]:List Value).toArray } }:=I2.kept (t':=s2.toks) fun b o e=>Heap.get?_push_of_some _ e
 have hD3:(s2.heap.push { cls:=.type "list",dict:=none,data:=.seq ([]:List Value).toArray }).get? s2.heap.objs.size=some { cls:=.type "list",dict:=none,data:=.seq ([]:List Value).toArray }:=Heap.get?_push_size _ rfl
 have hst3:tn 0 (s2.heap.push { cls:=.type "list",dict:=none,data:=.seq ([]:List Value).toArray }):=T.keep _ _ _ st2 fun b hb o e=>Heap.get?_push_of_some _ e
 have hsz3:(s2.heap.push { cls:=.type "list",dict:=none,data:=.seq ([]:List Value).toArray }).objs.size=s2.heap.objs.size+1:=Heap.size_push _ _
 generalize hh3:s2.heap.push { cls:=.type "list",dict:=none,data:=.seq ([]:List Value).toArray }=h3 at *
 have hfpO:=T.obj _ _ st2
 have hfpLt:∀ b∈fp,b < s2.heap.objs.size:=fun b hb=>by obtain⟨o,e,_⟩:=hfpO b hb; exact Heap.lt_size e
 have stk:∀ b∈frs X.stack,b=X.env.locals∨b∈X.fs:=fun b hb=>List.mem_cons.mp (I2.stkSub b hb)
 have hDok:zbs X pins H2 s2.heap.objs.size:=I2.fpOk (Nat.le_refl _) I2.fresh
 have exOk:∀ b∈s2.heap.objs.size :: fp,zbs X pins H2 b:=fun b hb=>by
  rcases (List.mem_cons.mp hb) with e | hb
  ·rw [e]; exact hDok
  ·exact f2 b hb
 have exLt:∀ b∈s2.heap.objs.size :: fp,b < h3.objs.size:=fun b hb=>by
  rw [hsz3]
  rcases (List.mem_cons.mp hb) with e | hb; · rw [e]; exact Nat.lt_succ_self _
  ·exact Nat.lt_succ_of_lt (hfpLt b hb)
 have exStk:∀ b∈s2.heap.objs.size :: fp,b∉frs X.stack:=fun b hb z=>by
  obtain⟨_,a1,a2,_⟩:=exOk b hb
  rcases stk b z with e | e
  ·exact a1 e
  ·exact a2 e
 have hns₁:(pushCells (h3.push { cls:=.type "dict",data:=.dict #[] }) scope.names).Ns h3.objs.size (fun _=>none):=(Heap.Ns.new h3 (.type "dict")).keeps (pushCells_keeps _ _)
 have old:∀ b o,h3.get? b=some o→(pushCells (h3.push { cls:=.type "dict",data:=.dict #[] }) scope.names).get? b=some o:=fun b o e=>pushCells_keeps _ _ b o (Heap.get?_push_of_some _ e)
 have cOld:∀ x c,X.env.cells.lookup x=some c→c < h3.objs.size:=fun x c e=>by
  obtain⟨v,q⟩:=I3.cell x c e
  exact q.lt
 have co:CO (pushCells (h3.push { cls:=.type "dict",data:=.dict #[] }) scope.names) (h3.objs.size+1) (zF X.env.cells scope.names []) (cellsFrom (h3.objs.size+1) scope.names (zF X.env.cells scope.names [])):=by
  have:=zfI (lo:=h3.objs.size+1) (old:=zF X.env.cells scope.names []) scope.names (h3.push { cls:=.type "dict",data:=.dict #[] }) (zF X.env.cells scope.names [])
   ⟨fun x c e=>.inr ⟨e,Nat.lt_succ_of_lt (cOld x c (hcl x c e))⟩,fun x y c e1 e2=>I2.ok.inj x y c (hcl x c e1) (hcl y c e2)⟩ (by rw [Heap.size_push]; exact Nat.le_refl _)
  rw [Heap.size_push] at this
  exact this
 generalize pushCells (h3.push { cls:=.type "dict",data:=.dict #[] }) scope.names=h₁ at hns₁ old co ⊢
 have clo:∀ {x c},(cellsFrom (h3.objs.size+1) scope.names (zF X.env.cells scope.names [])).lookup x=some c→(h₁.IsCell c none∧h3.objs.size+1≤c)∨X.env.cells.lookup x=some c:=fun {x c} e=>(co.each x c e).elim .inl fun z=>.inr (hcl x c z.1)
 have cfr:∀ x,scope.names.lookup x=some .free→(cellsFrom (h3.objs.size+1) scope.names (zF X.env.cells scope.names [])).lookup x=(zF X.env.cells scope.names []).lookup x:=fun x hx=>zc8 _ _ _ _ fun z=>by
  have:=SC.cells _ z rfl
  rw [hx] at this
  cases this
 let s3:Shared:={ s2 with heap:=h3 }
 let Y:Cx:=zau X N' scope s3 H2 (s2.heap.objs.size :: fp) pins
 have I3':Inv X pins σ H2 s3:=I3
 have okY:Y.Ok:=by
  refine⟨I2.ok.mod,SC.kind,I2.ok.glob,I2.ok.blt,Nat.le_refl _,co.inj,fun x hx=>?_,fun x c z e=>?_,I2.ok.hd,I2.ok.frames,.inl rfl,fun b hb=>?_,fun b o e=>I3'.bs b o e,?_,fun b o e hb=>?_,exStk,I3'.stack,I3'.stkFree⟩
  ·have hx':=zbt (env:=X.env) (names:=scope.names) (x:=x) hx
   rcases hx' with hx' | hx'
   ·obtain⟨c,e⟩:=zaS (cs:=X.env.cells) scope.names [] x (.inr (lookup_mem hx'))
    exact⟨c,(cfr x hx').trans e⟩
   ·obtain⟨c,e,_⟩:=zc9 scope.names (h3.objs.size+1) (zF X.env.cells scope.names []) x (lookup_mem hx')
    exact⟨c,e⟩
  ·obtain⟨c',e',l'⟩:=zc9 scope.names (h3.objs.size+1) (zF X.env.cells scope.names []) x (lookup_mem (by have z':(scope.names.lookup x == some NameKind.cell)=true:=z; simpa using z'))
   have e2:(cellsFrom (h3.objs.size+1) scope.names (zF X.env.cells scope.names [])).lookup x=some c:=e
   rw [e'] at e2
   cases e2
   exact Nat.le_of_succ_le l'
  ·refine⟨Nat.ne_of_lt (exLt b hb),fun x c e=>(clo e).elim (fun z y=>?_) fun z=>(exOk b hb).2.2.2.2.1 x c z⟩
   subst y
   exact Nat.lt_irrefl _ (Nat.lt_of_lt_of_le (exLt _ hb) (Nat.le_of_succ_le z.2))
  ·exact Nat.le_trans I2.ok.bsz I3'.sz
  ·obtain⟨_,_,_,a3,_⟩:=exOk b hb
   rcases a3 with z | z
   ·exact I2.ok.noex b o e z
   ·have:=(I2.ok.bs b o e).1
    exact absurd (Nat.lt_of_lt_of_le (Heap.lt_size this) z) (Nat.lt_irrefl _)
 have inv4:Inv Y [] (zbu ix σ) H2 { s3 with heap:=h₁ }:=by
  refine⟨okY,rfl,I2.bare,Un.kept old,⟨_,hns₁,fun j x v e1 e2 e3=>?_⟩,fun x c e=>?_,I3'.fresh,fun x c e=>(clo e).elim (fun z=>I3'.hok.fresh (Nat.le_of_succ_le z.2)) fun z=>I2.freeC x c z,fun p hp=>?_,I3'.hok.kept old,?_⟩
  ·unfold zbu at e2
   rw [List.getElem?_map] at e2
   cases hj:ix[j]? with
   | none=>rw [hj] at e2; simp at e2
   | some oi =>
    rw [hj] at e2
    cases oi with
    | none=>simp at e2
    | some i =>
     obtain⟨y,h1,h2,h3'⟩:=SC.cap j i hj
     have hxy:y=x:=by
      have e1':N'[j]? = some x:=e1
      rw [h1] at e1'
      exact Option.some.inj e1'
     subst hxy
     have e2':(σ[i]?).join=some v:=by simpa using e2
     have e2'':σ[i]? = some (some v):=by
      cases hs:σ[i]? with
      | none=>rw [hs] at e2'; simp at e2'
      | some w=>rw [hs] at e2'; simp at e2'; rw [e2']
     obtain⟨m,hn,hl⟩:=I3'.loc
     have hk:=SC.free (y,.free) (lookup_mem h3') rfl
     have hvis:Vis X.env.scope y:=hk.elim (fun z=>.inr (.inl z)) fun z=>.inr (.inr z)
     obtain⟨u,r,l⟩:=hl i y v h2 e2'' hvis
     refine⟨u,r,.inr ⟨zaw h3',?_⟩⟩
     obtain⟨c,hcc⟩:=zaS (cs:=X.env.cells) scope.names [] y (.inr (lookup_mem h3'))
     refine⟨c,(cfr y h3').trans hcc,?_⟩
     rcases l with ⟨hk',_⟩ | ⟨_,c',hc',hcell⟩
     ·rcases hk with hk | hk
      ·have hk2:X.env.kindOf y=some .cell:=hk
       rw [hk2] at hk'; cases hk'
      ·have hk2:X.env.kindOf y=some .free:=hk
       rw [hk2] at hk'; cases hk'
     ·have:=hcl y c hcc
      rw [hc'] at this
      cases this
      obtain⟨o,ho,hd⟩:=hcell
      exact⟨o,old _ _ ho,hd⟩
  ·rcases clo e with z | z
   ·exact⟨_,z.1⟩
   ·obtain⟨v,o,ho,hd⟩:=I3'.cell x c z
    exact⟨v,o,old _ _ ho,hd⟩
  ·have hp':p∈X.pn++pins:=by
    have:p∈(X.pn++pins)++([]:List (Addr×Obj)):=hp
    simpa using this
   obtain⟨a1,a2,a3,a4,a5⟩:=I3'.pin p hp'
   exact⟨old _ _ a1,a2,Nat.ne_of_lt (Heap.lt_size a1),fun z=>(stk _ z).elim a3 a4,a5⟩
  ·unfold zbu
   rw [List.length_map]
   exact SC.len.symm
 have fpY:∀ {H':Hp},(∀ b∈s2.heap.objs.size :: fp,H' b=none)→∀ b∈s2.heap.objs.size :: fp,zbs Y [] H' b:=fun {H'} hn b hb=>by
  obtain⟨_,a1,a2,a3,a4,a5⟩:=exOk b hb
  refine⟨hn b hb,Nat.ne_of_lt (exLt b hb),exStk b hb,.inl hb,(okY.exf b hb).2,fun p hp=>?_⟩
  have:p∈(X.pn++pins)++([]:List (Addr×Obj)):=hp
  exact a5 p (by simpa using this)
 have nn2:∀ b∈s2.heap.objs.size :: fp,H2 b=none:=fun b hb=>(exOk b hb).1
 have noA:zda (js++js') (zbu ix σ):=fun j hj v e=>by
  unfold zbu at e
  rw [List.getElem?_map,hjs j hj] at e
  simp at e
 have loop:∀ s₅:Shared,s₅ = { s2 with heap:=h₁ } →
   codeAny (model X.prog X.w) X.A (.compLoop (.ListComp elt (⟨tg,iter,ifs,0⟩ :: gs) scope pos) 0 (.ref it) (.ref s2.heap.objs.size) (compEnvC scope (cellsFrom (h3.objs.size+1) scope.names (zF X.env.cells scope.names [])) h3.objs.size X.env)) (RR (.ref s2.heap.objs.size) h3.objs.size) s₅:=by
  rintro s₅ rfl
  refine zgv (Y:=Y) (pins:=[]) (σ:=zbu ix σ) (its:=[]) (nn:=0) hc rfl hgs hdis (hg s3 H2 _ pins) (ht s3 H2 _ pins) (hm s3 H2 _ pins s2.heap.objs.size) (fun it=>hturn it _ _) inv4 ⟨fpY nn2 _ List.mem_cons_self,old _ _ hD3,.nil,Nat.zero_le _⟩ noA T (T.keep _ _ _ hst3 fun b hb o e=>old b o e)
   (fun b hb=>fpY nn2 b (List.mem_cons_of_mem _ hb)) (fun b hb=>Nat.ne_of_lt (hfpLt b hb)) q fun s6 ys its nn H5 I6 a6 qn=>?_
  have dn5:H5 s2.heap.objs.size=none:=a6.fp.1
  have I7:Inv X pins σ H5 s6:=by
   refine I3'.call' (s':=s6) (ch:=s2.heap.objs.size :: fp) I6.os I6.base I6.hok I6.bare fun b hb=>?_
   obtain⟨_,a1,a2,a3,a4,a5⟩:=exOk b hb
   exact⟨a3,a1,a4,a5⟩
  have I8:Inv X pins σ (upd H5 s2.heap.objs.size (.lst ys)) s6:=by
   obtain⟨_,a1,a2,a3,a4,a5⟩:=hDok
   exact I7.track dn5 I2.sz (Ne.symm a1) a4 a5 ⟨a6.len,its,nn,a6.vals,a6.here⟩
  obtain⟨mm,hmm,_⟩:=I6.loc
  have dne:h3.objs.size≠s2.heap.objs.size:=by rw [hsz3]; exact Nat.succ_ne_self _
  refine hRR _ _ s6 ys H5 mm I8 (I3'.fpOk (H':=upd H5 s2.heap.objs.size (.lst ys)) (Nat.le_refl _) ?_) hmm (qn _ dn5)
  show upd H5 s2.heap.objs.size (.lst ys) h3.objs.size=none
  rw [zm dne]
  exact I6.free
 exact zfJ rfl (loop _ rfl) (T.self _ 0 _ _ _ (T.keep _ _ _ hst3 fun b hb o e=>old b o e) (loop _ rfl))
theorem zfK {wi:TI} (SC:CompSc X N' ix scope) (hc:X.calm=true) (hgs:GS js g) (hdis:∀ j∈js,j∉js') (hjs:∀ j∈js++js',ix[j]? = some none) (hi:PI X tg iter wi)
  (hg:∀ s₃ H₃ ex pins,PG (zau X N' scope s₃ H₃ ex pins) tg g) (ht:∀ s₃ H₃ ex pins,zeZ (zau X N' scope s₃ H₃ ex pins) ifs ts) (hm:∀ s₃ H₃ ex pins D,PM (zau X N' scope s₃ H₃ ex pins) D js' (mk D (zau X N' scope s₃ H₃ ex pins).env) tm)
  (hturn:∀ it D env,compTurn (.ListComp elt (⟨tg,iter,ifs,0⟩ :: gs) scope pos) 0 it (.ref D) env=zcl tg ifs iter.pos (mk D env) (.compLoop (.ListComp elt (⟨tg,iter,ifs,0⟩ :: gs) scope pos) 0 it (.ref D) env) it env)
  (hs:∀ x,foldedSetIterable iter X.env x=pure x:=by intro _; rfl):PE X (.ListComp elt (⟨tg,iter,ifs,0⟩ :: gs) scope pos) (zhb ix wi g ts tm):=by
 intro pins s σ H Q I h
 rw [eval_ListComp]
 have hfr:∀ y∈scope.names,y.2 = .free→∃ c,X.env.cells.lookup y.1=some c:=fun y hy hf=>I.ok.has y.1 (SC.free y hy hf)
 refine wpAny_comprehension_free (use:=none) rfl hs (zcA hfr) SC.kind SC.names (thn (hi pins s σ H _ I h) fun v s1 h1=>thn h1 fun itv s2 h2=>?_)
 obtain⟨it,fp,tn,J,H2,e,I2,T,st2,f2,q⟩:=h2
 subst e
 refine zdy (RR:=fun acc C=>compPost (model X.prog X.w) X.A X.xe none (EP X pins σ Q) acc C) SC hc hgs hdis hjs hg ht hm hturn I2 T st2 f2 q ?_
 intro D C s' ys H' m I' fpC hm q'
 refine⟨m,hm,fun h'' hs''=>⟨.ref D,_,?_,rfl,q'⟩⟩
 obtain⟨f0,f1,f2',f3,f4,f5⟩:=fpC
 exact I'.turned (t':=s'.toks) (fun b o hb e=>hs''.extBut b o hb e) f0 f1 f3 f4 f5
end
def zdb (ix:List (Option Nat)):List Nat:=(List.range ix.length).filter fun j=>ix[j]? == some none
theorem zcm {ix:List (Option Nat)} {i:Nat}:i∈zdb ix↔ix[i]? = some none:=by
 unfold zdb
 rw [List.mem_filter,List.mem_range,beq_iff_eq]
 exact⟨fun h=>h.2,fun h=>⟨(List.getElem?_eq_some_iff.mp h).1,h⟩⟩
def GK (ix:List (Option Nat)) (g:TG):Prop:=GS (zdb ix) g
theorem zbw {ix:List (Option Nat)} {i:Nat} (hi:ix[i]? = some none):GK ix (zci i):=zgu (zcm.2 hi)
theorem zhN {elt t1 i1:Expr} {f1:List Expr} {scope:Scope} {pos:Pos} (it:Value) (D:Addr) (env:Env):compTurn (.ListComp elt [⟨t1,i1,f1,0⟩] scope pos) 0 it (.ref D) env =
  zcl t1 f1 i1.pos (zew elt (.ref D) env) (.compLoop (.ListComp elt [⟨t1,i1,f1,0⟩] scope pos) 0 it (.ref D) env) it env:=by rfl
section
variable {X:Cx} {elt tg iter:Expr} {ifs:List Expr} {scope:Scope} {pos:Pos} {N':List Str} {ix:List (Option Nat)} {g:TG} {ts:TT} {te:TE}
theorem zbx {wi:TI} (SC:CompSc X N' ix scope) (hc:X.calm=true) (hk:GK ix g) (hi:PI X tg iter wi)
  (hg:∀ s₃ H₃ ex pins,PG (zau X N' scope s₃ H₃ ex pins) tg g) (ht:∀ s₃ H₃ ex pins,zeZ (zau X N' scope s₃ H₃ ex pins) ifs ts) (he:∀ s₃ H₃ ex pins,PE (zau X N' scope s₃ H₃ ex pins) elt te)
  (hs:∀ x,foldedSetIterable iter X.env x=pure x:=by intro _; rfl):PE X (.ListComp elt [⟨tg,iter,ifs,0⟩] scope pos) (zhL ix wi g ts te) :=
 zfK (mk:=fun D env=>zew elt (.ref D) env) (js:=zdb ix) (js':=[]) SC hc hk (fun _ _ h=>nomatch h) (fun j h=>zcm.1 (by simpa using h)) hi hg ht (fun s₃ H₃ ex pins D=>zhc rfl (he s₃ H₃ ex pins)) (fun _ _ _=>zhN _ _ _) hs
end
end L2
end
section
set_option maxHeartbeats 3999000
namespace L2
open PySem PySem.Spec PyProof.Rows
section
variable {X:Cx} {pins:List (Addr×Obj)} {σ:St} {H:Hp} {s:Shared} {h':Heap}
end
theorem zdz:2≤sizeLine:=by rw [sizeLine_eq]; decide
end L2
end
section
set_option maxHeartbeats 3999000
namespace PySem
namespace F
end F
section
variable {prog:Program} {w:World} {A:Around} {E:Value→Shared→Prop} {s:Shared}
open PyProof.Rows
end
end PySem
namespace PySem
section
variable {prog:Program} {w:World} {A:Around} {E:Value→Shared→Prop} {s:Shared}
end
end PySem
namespace L2
open PySem PySem.Spec PyProof.Rows
end L2
end
section
set_option maxHeartbeats 3999000
namespace L2
open PySem PySem.Spec PyProof.Rows
inductive EqD (K:PySem.W.Frag) (H:Hp):Nat→V→V→Bool→Prop where
 | flat {d:Nat} {x y:V} (hx:zet x=true) (hy:zet y=true):EqD K H d x y (eqV x y)
 | same {d:Nat} {a:Addr}:EqD K H d (.ref a) (.ref a) true
 | lists {d:Nat} {a b:Addr} {xs ys:List V} {e:Nat→Bool} (hne:a≠b) (ha:SqL K H a xs) (hb:SqL K H b ys) (hl:xs.length=ys.length)
   (he:∀ (j:Nat) x y,xs[j]? = some x→ys[j]? = some y→EqD K H d x y (e j)):EqD K H (d+1) (.ref a) (.ref b) ((List.range xs.length).all e)
 | lens {d:Nat} {a b:Addr} {xs ys:List V} (hne:a≠b) (ha:SqL K H a xs) (hb:SqL K H b ys) (hl:xs.length≠ys.length):EqD K H (d+1) (.ref a) (.ref b) false
 | tups {d:Nat} {a b:Addr} {xs ys:List V} {e:Nat→Bool} (hne:a≠b) (ha:SqT K H a xs) (hb:SqT K H b ys)
   (he:∀ (j:Nat) x y,xs[j]? = some x→ys[j]? = some y→EqD K H d x y (e j)):EqD K H (d+1) (.ref a) (.ref b) ((List.range (min xs.length ys.length)).all e && xs.length == ys.length)
theorem zt.getE {xs:List V} {us:List Value} (r:zt xs us) {j:Nat} (h:j < us.toArray.size):∃ x,xs[j]? = some x∧RelV x us.toArray[j]:=by
 have hl:=r.length
 have hj:j < xs.length:=by rw [hl]; simpa using h
 obtain⟨u,hu,ru⟩:=r.get (i:=j) (x:=xs[j]) (by simp)
 refine⟨xs[j],by simp,?_⟩
 have:us.toArray[j]=u:=by
  have h2:j < us.length:=by simpa using h
  rw [List.getElem?_eq_getElem h2] at hu
  simpa using Option.some.inj hu
 rw [this]
 exact ru
theorem EqD.at {X:Cx} {pins:List (Addr×Obj)} {σ:St} {H:Hp} {s:Shared} (I:Inv X pins σ H s) {d:Nat} {x y:V} {b:Bool} (h:EqD X.K H d x y b) :
  ∀ (A:Around) (u v:Value),RelV x u→RelV y v→A.units+d < cLine→SeqAt.EqAt A s u v b:=by
 induction h with
 | flat hx hy=>exact fun A u v rx ry _=>zg7 rx ry hx hy
 | same=>intro A u v rx ry _; cases rx; cases ry; exact SeqAt.EqAt.same _
 | lists hne ha hb hl he ih =>
  intro A u v rx ry hu
  cases rx; cases ry
  obtain⟨is1,r1,p1,_⟩:=I.list ha
  obtain⟨is2,r2,p2,_⟩:=I.list hb
  have l1:=r1.length
  have l2:=r2.length
  refine SeqAt.EqAt.of_refs hne ?_
  have q:=SeqAt.RcAt.lists (A:=A) p1.isList p2.isList (by simp only [List.size_toArray]; omega) (by omega) fun j h1 h2=>by
   obtain⟨x,hx,rx⟩:=r1.getE h1
   obtain⟨y,hy,ry⟩:=r2.getE h2
   exact ih j x y hx hy A.in1 _ _ rx ry (by simp only [Around.in1_units]; omega)
  rw [List.size_toArray,← l1] at q
  exact q
 | lens hne ha hb hl =>
  intro A u v rx ry hu
  cases rx; cases ry
  obtain⟨is1,r1,p1,_⟩:=I.list ha
  obtain⟨is2,r2,p2,_⟩:=I.list hb
  have l1:=r1.length
  have l2:=r2.length
  exact SeqAt.EqAt.of_refs hne (SeqAt.RcAt.lists_lengths p1.isList p2.isList (by simp only [List.size_toArray,bne_iff_ne]; omega) (by omega))
 | tups hne ha hb he ih =>
  intro A u v rx ry hu
  cases rx; cases ry
  obtain⟨is1,r1,p1,_⟩:=I.tuple ha
  obtain⟨is2,r2,p2,_⟩:=I.tuple hb
  have l1:=r1.length
  have l2:=r2.length
  refine SeqAt.EqAt.of_refs hne ?_
  have q:=SeqAt.RcAt.tuples (A:=A) (s:=s) p1 p2 (by omega) fun j h1 h2=>by
   obtain⟨x,hx,rx⟩:=r1.getE h1
   obtain⟨y,hy,ry⟩:=r2.getE h2
   exact ih j x y hx hy A.in1 _ _ rx ry (by simp only [Around.in1_units]; omega)
  rw [List.size_toArray,List.size_toArray,← l1,← l2] at q
  exact q
def zgw (K:PySem.W.Frag) (neg:Bool):R2:=fun x y H Q=>∃ a b xs ys,x = .ref a∧y = .ref b∧((SqL K H a xs∧SqL K H b ys)∨(SqT K H a xs∧SqT K H b ys)) ∧
 ((xs.length≠ys.length∧(∀ (j:Nat) x y,xs[j]? = some x→ys[j]? = some y→∃ c,EqD K H 8 x y c)∧Q (.bl neg) H) ∨
  (xs.length=ys.length∧∃ e:Nat→Bool,(∀ (j:Nat) x y,xs[j]? = some x→ys[j]? = some y→EqD K H 8 x y (e j))∧Q (.bl (if neg then !(List.range xs.length).all e else (List.range xs.length).all e)) H))
theorem zhd {X:Cx} (hu:X.A.units+20 < cLine):OpR X (compareOp .Eq) (zgw X.K false):=by
 intro pins s σ H x y v u Q I rx ry h
 obtain⟨a,b,xs,ys,rfl,rfl,hk,h⟩:=h
 cases rx; cases ry
 rcases hk with ⟨ha,hb⟩ | ⟨ha,hb⟩
 ·obtain⟨is1,r1,p1,_⟩:=I.list ha
  obtain⟨is2,r2,p2,_⟩:=I.list hb
  have l1:=r1.length
  have l2:=r2.length
  rcases h with ⟨hl,_,q⟩ | ⟨hl,e,he,q⟩
  ·exact SeqAt.RcAt.lists_lengths p1.isList p2.isList (by simp only [List.size_toArray,bne_iff_ne]; omega) (by omega) _ _ _ _ ⟨.bl false,H,I,rfl,q⟩
  ·refine SeqAt.RcAt.lists p1.isList p2.isList (e:=e) (by simp only [List.size_toArray]; omega) (by omega) (fun j h1 h2=>?_) _ _ _ _ ⟨.bl _,H,I,rfl,?_⟩
   ·obtain⟨x,hx,rx⟩:=r1.getE h1
    obtain⟨y,hy,ry⟩:=r2.getE h2
    exact (he j x y hx hy).at I _ _ _ rx ry (by simp only [Around.in1_units]; omega)
   ·rw [List.size_toArray,← l1]
    exact q
 ·obtain⟨is1,r1,p1,_⟩:=I.tuple ha
  obtain⟨is2,r2,p2,_⟩:=I.tuple hb
  have l1:=r1.length
  have l2:=r2.length
  rcases h with ⟨hl,he,q⟩ | ⟨hl,e,he,q⟩
  ·have he':∀ j:Nat,∃ c:Bool,∀ x y,xs[j]? = some x→ys[j]? = some y→EqD X.K H 8 x y c:=fun j=>by
    cases hx:xs[j]? with
    | none=>exact⟨true,fun x y z=>by cases z⟩
    | some x =>
     cases hy:ys[j]? with
     | none=>exact⟨true,fun x y _ z=>by cases z⟩
     | some y =>
      obtain⟨c,hc⟩:=he j x y hx hy
      exact⟨c,fun x' y' z1 z2=>by cases z1; cases z2; exact hc⟩
   obtain⟨e,he''⟩:=Classical.axiomOfChoice he'
   refine SeqAt.RcAt.tuples (s:=s) p1 p2 (e:=e) (by omega) (fun j h1 h2=>?_) _ _ _ _ ⟨.bl _,H,I,rfl,?_⟩
   ·obtain⟨x,hx,rx⟩:=r1.getE h1
    obtain⟨y,hy,ry⟩:=r2.getE h2
    exact (he'' j x y hx hy).at I _ _ _ rx ry (by simp only [Around.in1_units]; omega)
   ·have hb':(is1.toArray.size == is2.toArray.size)=false:=by
     rw [List.size_toArray,List.size_toArray]; exact beq_eq_false_iff_ne.mpr (by omega)
    rw [hb',Bool.and_false]
    exact q
  ·refine SeqAt.RcAt.tuples (s:=s) p1 p2 (e:=e) (by omega) (fun j h1 h2=>?_) _ _ _ _ ⟨.bl _,H,I,rfl,?_⟩
   ·obtain⟨x,hx,rx⟩:=r1.getE h1
    obtain⟨y,hy,ry⟩:=r2.getE h2
    exact (he j x y hx hy).at I _ _ _ rx ry (by simp only [Around.in1_units]; omega)
   ·have hb':(is1.toArray.size == is2.toArray.size)=true:=by
     rw [List.size_toArray,List.size_toArray]; exact beq_iff_eq.mpr (by omega)
    have hmin:min is1.toArray.size is2.toArray.size=xs.length:=by rw [List.size_toArray,List.size_toArray]; omega
    rw [hb',Bool.and_true,hmin]
    exact q
theorem zfL {X:Cx} (hu:X.A.units+20 < cLine):OpR X (compareOp .NotEq) (zgw X.K true):=by
 intro pins s σ H x y v u Q I rx ry h
 obtain⟨a,b,xs,ys,rfl,rfl,hk,h⟩:=h
 cases rx; cases ry
 rcases hk with ⟨ha,hb⟩ | ⟨ha,hb⟩
 ·obtain⟨is1,r1,p1,_⟩:=I.list ha
  obtain⟨is2,r2,p2,_⟩:=I.list hb
  have l1:=r1.length
  have l2:=r2.length
  rcases h with ⟨hl,_,q⟩ | ⟨hl,e,he,q⟩
  ·exact SeqAt.RcNeAt.lists_lengths p1.isList p2.isList (by simp only [List.size_toArray,bne_iff_ne]; omega) (by omega) _ _ _ _ ⟨.bl true,H,I,rfl,q⟩
  ·refine SeqAt.RcNeAt.lists p1.isList p2.isList (e:=e) (by simp only [List.size_toArray]; omega) (by omega) (fun j h1 h2=>?_) _ _ _ _ ⟨.bl _,H,I,rfl,?_⟩
   ·obtain⟨x,hx,rx⟩:=r1.getE h1
    obtain⟨y,hy,ry⟩:=r2.getE h2
    exact (he j x y hx hy).at I _ _ _ rx ry (by simp only [Around.in1_units]; omega)
   ·rw [List.size_toArray,← l1]
    exact q
 ·obtain⟨is1,r1,p1,_⟩:=I.tuple ha
  obtain⟨is2,r2,p2,_⟩:=I.tuple hb
  have l1:=r1.length
  have l2:=r2.length
  rcases h with ⟨hl,he,q⟩ | ⟨hl,e,he,q⟩
  ·have he':∀ j:Nat,∃ c:Bool,∀ x y,xs[j]? = some x→ys[j]? = some y→EqD X.K H 8 x y c:=fun j=>by
    cases hx:xs[j]? with
    | none=>exact⟨true,fun x y z=>by cases z⟩
    | some x =>
     cases hy:ys[j]? with
     | none=>exact⟨true,fun x y _ z=>by cases z⟩
     | some y =>
      obtain⟨c,hc⟩:=he j x y hx hy
      exact⟨c,fun x' y' z1 z2=>by cases z1; cases z2; exact hc⟩
   obtain⟨e,he''⟩:=Classical.axiomOfChoice he'
   refine SeqAt.RcNeAt.tuples (s:=s) p1 p2 (e:=e) (by omega) (fun j h1 h2=>?_) _ _ _ _ ⟨.bl _,H,I,rfl,?_⟩
   ·obtain⟨x,hx,rx⟩:=r1.getE h1
    obtain⟨y,hy,ry⟩:=r2.getE h2
    exact (he'' j x y hx hy).at I _ _ _ rx ry (by simp only [Around.in1_units]; omega)
   ·have hb':(is1.toArray.size == is2.toArray.size)=false:=by
     rw [List.size_toArray,List.size_toArray]; exact beq_eq_false_iff_ne.mpr (by omega)
    rw [hb',Bool.and_false]
    exact q
  ·refine SeqAt.RcNeAt.tuples (s:=s) p1 p2 (e:=e) (by omega) (fun j h1 h2=>?_) _ _ _ _ ⟨.bl _,H,I,rfl,?_⟩
   ·obtain⟨x,hx,rx⟩:=r1.getE h1
    obtain⟨y,hy,ry⟩:=r2.getE h2
    exact (he j x y hx hy).at I _ _ _ rx ry (by simp only [Around.in1_units]; omega)
   ·have hb':(is1.toArray.size == is2.toArray.size)=true:=by
     rw [List.size_toArray,List.size_toArray]; exact beq_iff_eq.mpr (by omega)
    have hmin:min is1.toArray.size is2.toArray.size=xs.length:=by rw [List.size_toArray,List.size_toArray]; omega
    rw [hb',Bool.and_true,hmin]
    exact q
theorem zdA {K:PySem.W.Frag} {H:Hp} {ms ns:List Int}:∀ (j:Nat) x y,(ms.map V.int)[j]? = some x→(ns.map V.int)[j]? = some y→EqD K H 8 x y ((fun j=>decide (ms[j]? = ns[j]?)) j):=fun j x y hx hy=>by
 rw [List.getElem?_map] at hx hy
 cases h1:ms[j]? with
 | none=>rw [h1] at hx; cases hx
 | some m =>
  cases h2:ns[j]? with
  | none=>rw [h2] at hy; cases hy
  | some n =>
   rw [h1] at hx; rw [h2] at hy
   cases hx; cases hy
   have e:eqV (.int m) (.int n)=decide (some m=some n):=by
    show (m == n)=_
    rw [Bool.eq_iff_iff]; simp
   show EqD K H 8 (.int m) (.int n) (decide (ms[j]? = ns[j]?))
   rw [h1,h2,← e]
   exact EqD.flat rfl rfl
theorem zfM {α:Type} [DecidableEq α] {ms ns:List α} (hl:ms.length=ns.length):(List.range ms.length).all (fun j=>decide (ms[j]? = ns[j]?))=decide (ms=ns):=by
 rw [Bool.eq_iff_iff]
 simp only [List.all_eq_true,List.mem_range,decide_eq_true_eq]
 constructor
 ·intro h
  apply List.ext_getElem?
  intro j
  by_cases hj:j < ms.length
  ·exact h j hj
  ·rw [List.getElem?_eq_none (by omega),List.getElem?_eq_none (by omega)]
 ·intro h j _
  rw [h]
theorem ze0 {K:PySem.W.Frag} {neg:Bool} {H:Hp} {Q:VK} {a b:Addr} {ms ns:List Int} (hk:(SqL K H a (ms.map V.int)∧SqL K H b (ns.map V.int))∨(SqT K H a (ms.map V.int)∧SqT K H b (ns.map V.int)))
  (q:Q (.bl (if neg then !decide (ms=ns) else decide (ms=ns))) H):zgw K neg (.ref a) (.ref b) H Q:=by
 refine⟨a,b,_,_,rfl,rfl,hk,?_⟩
 rw [List.length_map,List.length_map]
 by_cases hl:ms.length=ns.length
 ·refine .inr ⟨hl,_,zdA,?_⟩
  rw [zfM hl]
  exact q
 ·refine .inl ⟨hl,fun j x y hx hy=>⟨_,zdA j x y hx hy⟩,?_⟩
  have hne:ms≠ns:=fun z=>hl (by rw [z])
  cases neg with
  | true=>simpa [hne] using q
  | false=>simpa [hne] using q
theorem zM {X:Cx}:zaB X (.builtin "isinstance") (fun xs H Q=>∃ x t n b,xs = [x,.ty n]∧TyOf X.K H x t∧PySem.W.kitOne X.K t (.type n)=some b∧Q (.bl b) H):=by
 intro pins s σ H xs us Q I r h
 obtain⟨x,t,n,b,rfl,ty,hk,q⟩:=h
 obtain⟨u,u',rfl,rx,r2⟩:=vals2 r
 cases r2
 exact zeS I rx ty hk fun tk=>⟨.bl b,H,I.tok tk,rfl,q⟩
theorem zbX {X:Cx}:zaB X (.type "range") (fun xs H Q=>∃ j:Int,xs = [.int j]∧∀ l,H l=none→Q (.ref l) (upd H l (.rng 0 j))):=by
 intro pins s σ H xs us Q I r h
 obtain⟨j,rfl,q⟩:=h
 obtain⟨u,rfl,t,rfl⟩:=vals1 r
 refine call_range_1 ?_
 exact⟨.ref s.heap.objs.size,_,I.laid (o:=.rng 0 j) (fun b o e=>Heap.get?_push_of_some _ e) (Nat.le_refl _) ⟨_,_,_,Heap.get?_push_size _ rfl⟩,rfl,q _ I.fresh⟩
def zZ (lo:Int) (n:Nat):List Int:=(List.range n).map fun (i:Nat)=>lo+(i:Int)
theorem zab (lo:Int) (n:Nat):(zZ lo n).length=n:=by simp [zZ]
theorem zbh {acc:Array Value} {lo:Int} {n:Nat} (h:ItemsOf (fun i v=>∃ t,v = .int (lo+(i:Nat)*1) t) acc n):zt ((zZ lo n).map V.int) acc.toList:=by
 obtain⟨hsz,hv⟩:=h
 have go:∀ (us:List Value) (k:Nat),(∀ (j:Nat) v,us[j]? = some v→∃ t,v = .int (lo+((k+j:Nat):Int)) t)→zt (((List.range us.length).map fun (i:Nat)=>V.int (lo+((k+i:Nat):Int)))) us:=by
  intro us
  induction us with
  | nil=>intro k _; exact .nil
  | cons u us ih =>
   intro k hu
   rw [List.length_cons,List.range_succ_eq_map,List.map_cons,List.map_map]
   refine .cons ?_ ?_
   ·obtain⟨t,e⟩:=hu 0 u rfl
    exact⟨t,e⟩
   ·have:=ih (k+1) fun j v e=>by
     obtain⟨t,z⟩:=hu (j+1) v (by simpa using e)
     exact⟨t,by rw [z]; congr 1; omega⟩
    have e2:(fun (i:Nat)=>V.int (lo+((k+1+i:Nat):Int)))=((fun (i:Nat)=>V.int (lo+((k+i:Nat):Int))) ∘ Nat.succ):=by
     funext i
     show V.int _=V.int _
     congr 2
     show ((k+1+i:Nat):Int)=((k+(i+1):Nat):Int)
     omega
    rw [← e2]
    exact this
 have h1:=go acc.toList 0 fun j v e=>by
  obtain⟨t,z⟩:=hv j v (by simpa using e)
  exact⟨t,by rw [z]; simp⟩
 have e1:acc.toList.length=n:=by simpa using hsz
 rw [e1] at h1
 unfold zZ
 rw [List.map_map]
 have e2:(V.int ∘ fun (i:Nat)=>lo+(i:Int))=fun (i:Nat)=>V.int (lo+((0+i:Nat):Int)):=by
  funext i
  show V.int (lo+(i:Int))=V.int (lo+((0+i:Nat):Int))
  rw [Nat.zero_add]
 rw [e2]
 exact h1
theorem zcC {X:Cx} (hc:X.calm=true):zaB X (.type "list") (fun xs H Q=>∃ p hi,xs = [.ref p]∧H p=some (.rng 0 hi)∧0≤hi∧hi≤1000∧∀ l,H l=none→Q (.ref l) (upd H l (.lst ((zZ 0 hi.toNat).map V.int)))):=by
 intro pins s σ H xs us Q I r h
 obtain⟨p,hi,rfl,hp,h0,h1,q⟩:=h
 obtain⟨u,rfl,rx⟩:=vals1 r
 cases rx
 obtain⟨t,u',v,e⟩:=(show zS X.prog X.w H s.heap p (.rng 0 hi) from I.hok p _ hp)
 have hsl:=sizeLine_eq
 refine call_list_range (n:=hi.toNat) (I.ok.hd hc) (show IsRange s.heap p 0 hi 1 t u' v from e) (small_one (by omega) (by omega) (by omega) (by omega)) (by rw [rangeSize_one]; split <;> omega) (by omega) fun h' tk acc' c' kk ho hacc=>?_
 have hv:=zbh (lo:=0) (n:=hi.toNat) hacc
 refine⟨.ref s.heap.objs.size,_,I.laid kk (Nat.le_refl _) ?_,rfl,q _ I.fresh⟩
 exact⟨by rw [List.length_map,zab]; omega,acc'.toList,c',hv,by simpa using ho⟩
end L2
namespace L2
open PySem PySem.Spec PyProof.Rows
end L2
namespace L2
open PySem PySem.Spec PyProof.Rows
def intsOf:List Expr→Option (List Int)
 | []=>some []
 | .Constant (.int i) _ _ :: r=>(intsOf r).map (i :: ·)
 | _=>none
def zcU (ns:List Int):TA:=fun _ H Q=>Q (ns.map V.int) H
theorem zfN {X:Cx}:∀ (es:List Expr) (ns:List Int),intsOf es=some ns→PA X es (zcU ns):=by
 intro es
 induction es with
 | nil =>
  intro ns h
  have e:ns = []:=(Option.some.inj h).symm
  subst e
  exact zd
 | cons e r ih =>
  intro ns h
  unfold intsOf at h
  split at h
  ·rename_i heq
   cases heq
  ·rename_i i j p r' heq
   injection heq with e1 e2
   subst e1 e2
   cases hr:intsOf r with
   | none=>rw [hr] at h; cases h
   | some ms =>
    rw [hr] at h
    have e:i :: ms=ns:=Option.some.inj h
    subst e
    exact za zb (ih ms hr)
  ·cases h
theorem zgx {X:Cx} {es:List Expr} {ns:List Int} (h:intsOf es=some ns):PA X es (zcU ns):=zfN es ns h
end L2
namespace L2
open PySem PySem.Spec PyProof.Rows
theorem zao {X:Cx} {i:Int} {j:Nat} {p:Pos} {es:List Expr} {t:TA} (hr:PA X es t):PA X (.Constant (.int i) j p :: es) (zgP (tC (.int i)) t):=za zb hr
end L2
namespace L2
open PySem PySem.Spec PyProof.Rows
theorem zfO {X:Cx} {i:Nat} {x:Str} {pos' pos2 spos:Pos} {rest:List Stmt} {u:TS} {es:List Expr} {ns:List Int} (h:intsOf es=some ns) (hN:X.N.Nodup) (hi:X.N[i]? = some x) (hx:Loc X.env.scope x)
  (hf:X.fn x=true∨X.env.scope.names.lookup x=some .local) (hr:PSs X rest u):PSs X (.Assign [.Name x pos'] (.List es pos2) spos :: rest) (zhv (zgi (zgn (zcU ns)) (zci i)) u):=by
 have h1:PE X (.List es pos2) (zgn (zcU ns)):=@zY X es (zcU ns) pos2 (@zgx X es ns h)
 have h2:PS X (.Assign [.Name x pos'] (.List es pos2) spos) (zgi (zgn (zcU ns)) (zci i)):=zA hN hi hx h1 (by rfl) hf
 exact zf h2 hr
end L2
namespace L2
open PySem PySem.Spec PyProof.Rows
section
variable {X:Cx} {K:PySem.W.Frag}
theorem zfP (hK:X.K=K):IxR X (zhJ K):=by subst hK; exact zp
def zhO (K:PySem.W.Frag):List V→Hp→VK→Prop:=fun xs H Q=>∃ p ys,xs = [.ref p]∧(SqL K H p ys∨SqT K H p ys)∧Q (.int ys.length) H
theorem zcD (hK:X.K=K):zaB X (.builtin "len") (zhO K):=by subst hK; exact zw
theorem zhe {o e:Expr} {es:List Expr} {to:TE} {t:TA} {name:Str} {apos cpos:Pos} {T id:String} {r:V→List V→Hp→VK→Prop} (hK:X.K=K) (pa:PlainAttrs T) (slot:Slot T name id) (hty:typeOf (.builtin id)=pure (.type "method_descriptor")) (hm:MtR X id r) (ho:PE X o to) (ha:PA X (e :: es) t)
  (hbase:attributeBase o name X.env (eval o X.env)=eval o X.env:=by rfl)
  (hfew:((backTo cpos (starEach (e :: es) X.env)).all (fun x=>!x.1) && (backToKw cpos (keywordEach [] X.env)).all (fun x=>x.1.isSome)
   && decide ((e :: es).length+([]:List Keyword).length+(if ([]:List Keyword).isEmpty then 0 else 1) < 30))=true:=by rfl)
  (hline:(apos.endLine == cpos.line)=true:=by rfl) (hs:starEach (e :: es) X.env=(false,eval e X.env) :: starEach es X.env:=by rfl) (hplain:(backTo cpos (starEach es X.env)).any (·.1)=false:=by rfl) :
  PE X (.Call (.Attribute o name apos) (e :: es) [] cpos) (tBM K T r to t):=by subst hK; exact zgQ pa slot hty hm ho ha hbase hfew hline hs hplain
end
end L2
namespace L2
end L2
end
section
namespace My
def zr:List Int:=[5,7,11,13,17,19,23,29,31,37,41,43,47,53,59,61,67,71,73,79,83,89,97]
theorem zaA {p:Int} (hp:p∈zr):5≤p∧p≤97:=by
 have:zr.all (fun p=>decide (5≤p∧p≤97))=true:=by decide +kernel
 have:=List.all_eq_true.mp this p hp
 simpa using this
end My
end
section
set_option maxHeartbeats 3999000
namespace My
open PySem L2 PyProof.Rows
section
variable {K:PySem.W.Frag}
theorem zfQ {ns:List Int} {k:Int} (h0:0≤k) (h1:k < ns.length):∃ c:Int,ns[k.toNat]? = some c∧atI (ns.map V.int) k=some (.int c):=by
 have hlt:k.toNat < ns.length:=by omega
 have e:atI (ns.map V.int) ((k.toNat:Nat):Int)=some (.int ns[k.toNat]):=zes (by simp [List.getElem?_map,List.getElem?_eq_getElem hlt])
 have hk:((k.toNat:Nat):Int)=k:=by omega
 rw [hk] at e
 exact⟨ns[k.toNat],by simp,e⟩
theorem zaT {ns:List Int} {k:Int} (h0:0≤k) (h1:k < ns.length):∃ c:Int,atI (ns.map V.int) k=some (.int c):=let ⟨c,_,e⟩:=zfQ h0 h1; ⟨c,e⟩
theorem ze {H:Hp} {a:Addr} {o:HO} (h:H a=none):zR H (upd H a o):=fun b u e=>by rw [zm (zv e h)]; exact e
theorem zbQ {H H':Hp} {a:Addr} {o:HO} (s:zR H H') (h:H a=none):zR H (upd H' a o):=fun b u e=>by rw [zm (zv e h)]; exact s b u e
theorem zaU {n:Nat} (h:n≤10000):n < sizeLine:=by rw [sizeLine_eq]; omega
def ze1 (K:PySem.W.Frag):Sp:=fun vs H Q _=>∃ (a:Addr) (ns:List Int) (k:Int),vs = [.ref a,.int k]∧SqL K H a (ns.map V.int)∧ns.length≤63∧0≤k∧k≤1000∧∀ c:Int,Q (.int c) H
def zex (many:Nat) (base:Int) (ds:List Int):Prop:=ds.length=many∧∀ d∈ds,0≤d∧d < base
def zd8 (K:PySem.W.Frag):Sp:=fun vs H Q _=>∃ (a:Addr) (ns:List Int) (k many base:Int),vs = [.ref a,.int k,.int many,.int base]∧SqL K H a (ns.map V.int)∧ns.length≤63∧0≤k∧k≤1000∧0≤many∧many≤1000∧0 < base∧base < 1073741824 ∧
 ∀ (l:Addr) (ds:List Int) (H':Hp),H l=none→zR H H'→zex many.toNat base ds→H' l=some (.lst (ds.map V.int))→Q (.ref l) H'
abbrev zgy:List V:=[.int 2147483647,.int 2147483629,.int 2147483587,.int 2147483579,.int 2147483563,.int 2147483549,.int 2147483543,.int 2147483497]
theorem zgz {m:Int} (h0:0≤m) (h1:m < 8):∃ q:Int,atI zgy m=some (.int q)∧0 < q∧q < 2147483648:=by
 have:m=0∨m=1∨m=2∨m=3∨m=4∨m=5∨m=6∨m=7:=by omega
 rcases this with e | e | e | e | e | e | e | e <;> subst e <;> exact⟨_,rfl,by decide,by decide⟩
theorem zcn (j:Int):∃ q:Int,atI zgy (j % 8)=some (.int q)∧0 < q∧q < 2147483648:=zgz (Int.emod_nonneg _ (by decide)) (Int.emod_lt_of_pos _ (by decide))
theorem gY {i:Nat} {x:V} {σ:L2.St} {H:Hp} {A B:L2.St→Hp→Prop} (h:A (σ.set i (some x)) H):zci i x σ H (fun σ2 H2=>zhK σ2 H2 fun b H3=>if b=true then A σ2 H3 else B σ2 H3):=by
 show (if true=true then A (σ.set i (some x)) H else B (σ.set i (some x)) H)
 rw [if_pos rfl]
 exact h
structure CodeOk (mk mn p k:Int) (pl:List Int):Prop where
 pr:p∈zr
 k1:1≤k
 kk:k≤mk
 kl:k≤pl.length
 ln:(pl.length:Int)≤mn
 nd:pl.Nodup
 rg:∀ x∈pl,0≤x∧x < p
def ze2 (K:PySem.W.Frag):Sp:=fun vs H Q _=>∃ (a:Addr) (ns:List Int) (at' mk mn:Int),vs = [.ref a,.int at',.int mk,.int mn]∧SqL K H a (ns.map V.int)∧ns.length≤63∧0≤at'∧at'≤1000∧1≤mk∧mk≤5∧mk≤mn∧mn≤16 ∧
 ∀ (c tt:Addr) (p k:Int) (pl:List Int) (H':Hp),H c=none→zR H H'→CodeOk mk mn p k pl→H' c=some (.tup [.int p,.int k,.ref tt])→H' tt=some (.tup (pl.map V.int))→Q (.ref c) H'
theorem zhf {x y m:Int} (h0:0≤m) (h1:m < 2):∃ z:Int,atI [V.int x,V.int y] m=some (.int z)∧(z=x∨z=y):=by
 have:m=0∨m=1:=by omega
 rcases this with e | e <;> subst e
 ·exact⟨x,rfl,.inl rfl⟩
 ·exact⟨y,rfl,.inr rfl⟩
theorem zdc {ns:List Int} {k:Int} (h0:0≤k) (h1:k < ns.length):∃ c:Int,c∈ns∧atI (ns.map V.int) k=some (.int c):=by
 obtain⟨c,e,h⟩:=zfQ h0 h1
 exact⟨c,List.mem_of_getElem? e,h⟩
theorem zcV {α β:Type} (f:α→β):∀ (l:List α) (k:Nat),(l.map f).eraseIdx k=(l.eraseIdx k).map f
 | [],_=>rfl
 | _ :: _,0=>rfl
 | a :: l,k+1=>by show f a :: (l.map f).eraseIdx k=f a :: (l.eraseIdx k).map f; rw [zcV f l k]
theorem erase_perm {α:Type}:∀ {l:List α} {k:Nat} {x:α},l[k]? = some x→(x :: l.eraseIdx k).Perm l
 | [],_,_,h=>by simp at h
 | a :: l,0,x,h=>by
  have e:a=x:=by simpa using h
  subst e
  exact List.Perm.refl _
 | a :: l,k+1,x,h=>by
  have ih:=erase_perm (l:=l) (k:=k) (x:=x) (by simpa using h)
  exact (List.Perm.swap a x _).trans (ih.cons a)
theorem zgA {p:Int} {xs ls:List Int} {k:Nat} {x:Int} (h:ls[k]? = some x) (nd:(xs++ls).Nodup) (rg:∀ y∈xs++ls,0≤y∧y < p):((xs++[x])++ls.eraseIdx k).Nodup∧∀ y∈(xs++[x])++ls.eraseIdx k,0≤y∧y < p:=by
 have hp:((xs++[x])++ls.eraseIdx k).Perm (xs++ls):=by
  rw [List.append_assoc]
  exact (erase_perm h).append_left xs
 exact⟨hp.nodup_iff.mpr nd,fun y hy=>rg y (hp.mem_iff.mp hy)⟩
theorem ze3 (p:Int):(zZ 0 p.toNat).Nodup∧∀ y∈zZ 0 p.toNat,0≤y∧y < p:=by
 unfold zZ
 constructor
 ·rw [List.nodup_iff_pairwise_ne,List.pairwise_map]
  exact (List.nodup_iff_pairwise_ne.mp (List.nodup_range (n:=p.toNat))).imp fun {a b} hab=>by omega
 ·intro y hy
  obtain⟨i,hi,e⟩:=List.mem_map.mp hy
  have:=List.mem_range.mp hi
  omega
theorem take_snoc {α:Type} {l:List α} {i:Nat} {x:α} (h:l[i]? = some x):l.take (i+1)=l.take i++[x]:=by
 rw [List.take_add_one,h,Option.toList]
theorem ze4 {a:Addr} {xs fs:List V} {g:TG} {ts:TT} {te:TE} {σ0:L2.St} {Q:VK} {H:Hp} (ha:SqT K H a xs) (hl:fs.length=xs.length) (hn:xs.length≤10000)
  (hs:∀ (i:Nat) (x y:V) (R:VK) (B:L2.St→Hp→Prop),xs[i]? = some x→fs[i]? = some y→R y H→g x σ0 H fun σ2 H2=>ts σ2 H2 fun b H3=>if b=true then te σ2 H3 R else B σ2 H3)
  (hd:∀ D,H D=none→Q (.ref D) (upd H D (.lst fs))):cGo g ts te σ0 (Itt K a) Q H:=by
 refine zbv (n:=xs.length) (fun i ys H'=>ys=fs.take i∧H'=H) ⟨by simp,rfl⟩ ?_ ?_ ?_ ?_
 ·rintro i ys H3 hi ⟨_,rfl⟩
  exact⟨_,xs[i],ha,by simp⟩
 ·rintro ys H3 ⟨_,rfl⟩
  exact⟨_,ha,Nat.le_refl _⟩
 ·rintro i x ys H3 H4 hi ⟨rfl,rfl⟩ ⟨rfl,hx⟩
  have hy:fs[i]? = some fs[i]:=by simp
  refine hs i x fs[i] _ _ (hx _ ha) hy ⟨zaU (Nat.le_trans (List.length_take_le _ _) (by omega)),?_,rfl⟩
  rw [take_snoc hy]
 ·rintro ys H3 D ⟨rfl,rfl⟩ hD
  rw [List.take_of_length_le (by omega)]
  exact hd D hD
def zdd (K:PySem.W.Frag):Sp:=fun vs H Q _=>∃ (a:Addr) (ns:List Int),vs = [.ref a]∧SqL K H a (ns.map V.int)∧ns.length≤63∧∀ H',Q (.bl true) H'
end
end My
end
section
set_option maxHeartbeats 3999000
namespace PySem
section
variable {prog:Program} {w:World} {A:Around} {E:Value→Shared→Prop} {s:Shared}
end
end PySem
namespace PySem
section
variable {prog:Program} {w:World} {A:Around} {E:Value→Shared→Prop} {s:Shared}
end
end PySem
end
section
set_option maxHeartbeats 3999000
namespace L2
open PySem PySem.Spec PyProof.Rows
end L2
end
section
set_option maxHeartbeats 3999000
namespace L2
open PySem PySem.Spec PyProof.Rows
theorem zby:∀ (bs:List Bool),(List.range bs.length).all (fun i=>bs.getD i false)=bs.all id
 | []=>rfl
 | b :: bs=>by
  rw [List.length_cons,List.range_succ_eq_map,List.all_cons,List.all_map,List.all_cons]
  have ih:=zby bs
  have e:((fun i=>(b :: bs).getD i false) ∘ Nat.succ)=fun i=>bs.getD i false:=by funext i; rfl
  rw [e,ih]
  rfl
theorem zcW {X:Cx} (hc:X.calm=true):zaB X (.builtin "all") (fun xs H Q=>∃ (p:Addr) (bs:List Bool),xs = [.ref p]∧SqL X.K H p (bs.map V.bl)∧Q (.bl (bs.all id)) H):=by
 intro pins s σ H xs us Q I r h
 obtain⟨p,bs,rfl,hq,q⟩:=h
 obtain⟨u,rfl,rx⟩:=vals1 r
 cases rx
 obtain⟨its,rv,pl,hz⟩:=I.list hq
 have hl:=rv.length
 rw [List.length_map] at hl
 have hlt:p < s.heap.objs.size:=by obtain⟨_,_,e,_⟩:=pl; exact Heap.lt_size e
 refine call_all_walk (wpAny_pyIter_list pl.isList ?_)
 refine⟨s.heap.objs.size,_,_,its.toArray.size,_,_,fun i=>bs.getD i false,rfl,Walks.list (by simp [I.ok.hd hc]) s.heap.objs.size p (Nat.ne_of_lt hlt) its.toArray,⟨⟨_,Heap.get?_push_size _ rfl,rfl,rfl⟩,pl.isList.push _⟩,fun i v s' Q' E' hP hQ=>?_,fun h' tk kk=>?_⟩
 ·have e1:its[i]? = some v:=by simpa using hP
  obtain⟨hi,_⟩:=List.getElem?_eq_some_iff.mp e1
  have hi':i < bs.length:=by omega
  obtain⟨u,hu,ru⟩:=rv.get (i:=i) (x:=V.bl bs[i]) (by rw [List.getElem?_map,List.getElem?_eq_getElem hi']; rfl)
  rw [e1] at hu
  cases hu
  have ru:v=Value.bool bs[i]:=ru
  subst ru
  have e2:bs.getD i false=bs[i]:=by simp [hi']
  have hQ:Q' (bs.getD i false) s':=hQ
  rw [e2] at hQ
  exact wpAny_truthy_bool hQ
 ·rw [List.size_toArray,← hl,zby]
  exact⟨.bl (bs.all id),H,I.kept fun b o e=>kk b o (fun z=>by
   have z:b=s.heap.objs.size:=by simpa using z
   exact absurd (Heap.lt_size e) (by rw [z]; exact Nat.lt_irrefl _)) (Heap.get?_push_of_some _ e),rfl,q⟩
end L2
end
section
set_option maxHeartbeats 3999000
namespace My
open PySem L2 PyProof.Rows
section
variable {K:PySem.W.Frag}
inductive Any1 (H:Hp):V→Prop where
 | non:Any1 H .non
 | bl (b:Bool):Any1 H (.bl b)
 | int (i:Int):Any1 H (.int i)
 | str (x:Str):Any1 H (.str x)
 | lst {a:Addr} {xs:List V} (e:H a=some (.lst xs)):Any1 H (.ref a)
 | tup {a:Addr} {xs:List V} (e:H a=some (.tup xs)):Any1 H (.ref a)
theorem Any1.same {H H':Hp} (s:zR H H') {v:V} (h:Any1 H v):Any1 H' v:=by
 cases h with
 | non=>exact .non
 | bl b=>exact .bl b
 | int i=>exact .int i
 | str x=>exact .str x
 | lst e=>exact .lst (s _ _ e)
 | tup e=>exact .tup (s _ _ e)
def isI:V→Bool
 | .int _=>true
 | .bl _=>true
 | _=>false
def isB:V→Bool
 | .bl _=>true
 | _=>false
def isW:V→Bool
 | .int _=>true
 | _=>false
def zfR (H:Hp):V→Option (List V)
 | .ref a=>match H a with
  | some (.lst xs)=>some xs
  | _=>none
 | _=>none
theorem zfS {H:Hp} {v:V} (h:Any1 H v):∃ t,TyOf K H v t∧PySem.W.kitOne K t (.type "int")=some (isI v)∧PySem.W.kitOne K t (.type "bool")=some (isB v)∧PySem.W.kitOne K t (.type "list")=some (zfR H v).isSome:=by
 cases h with
 | non=>exact⟨_,.non,rfl,rfl,rfl⟩
 | bl b=>exact⟨_,.bl b,rfl,rfl,rfl⟩
 | int i=>exact⟨_,.int i,rfl,rfl,rfl⟩
 | str x=>exact⟨_,.str x,rfl,rfl,rfl⟩
 | lst e=>exact⟨_,.lst e,rfl,rfl,by simp only [zfR,e]; rfl⟩
 | tup e=>exact⟨_,.tup e,rfl,rfl,by simp only [zfR,e]; rfl⟩
def zaV (H:Hp) (c tt:Addr) (p k:Int) (pl:List Int):Prop:=H c=some (.tup [.int p,.int k,.ref tt])∧H tt=some (.tup (pl.map V.int))
theorem zaV.same {H H':Hp} {c tt:Addr} {p k:Int} {pl:List Int} (s:zR H H') (h:zaV H c tt p k pl):zaV H' c tt p k pl:=⟨s _ _ h.1,s _ _ h.2⟩
def zac (p:Int):V→Bool
 | .int i=>decide (0≤i) && decide (i < p)
 | _=>false
def zbz (K:PySem.W.Frag):Sp:=fun vs H Q _=>∃ v,vs = [v]∧Any1 H v∧Q (.bl (isW v)) H
def zde (K:PySem.W.Frag):Sp:=fun vs H Q _=>∃ (p:Int) (v:V),vs = [.int p,v]∧Any1 H v∧Q (.bl (zac p v)) H
theorem zbb {v:V} (h:isW v=true):∃ i,v = .int i:=by
 cases v with
 | int i=>exact⟨i,rfl⟩
 | _=>cases h
end
end My
end
section
set_option maxHeartbeats 3999000
namespace My
open PySem L2 PyProof.Rows
section
variable {K:PySem.W.Frag}
end
end My
end
section
set_option maxHeartbeats 3998000
namespace PySem
section
variable {prog:Program} {w:World} {A:Around} {E:Value→Shared→Prop} {s:Shared}
end
end PySem
namespace L2
open PySem PySem.Spec PyProof.Rows
end L2
end
section
set_option maxHeartbeats 3999000
namespace L2
open PySem PySem.Spec PyProof.Rows
end L2
end
section
set_option maxHeartbeats 3999000
namespace L2
open PySem PySem.Spec PyProof.Rows
section
variable {prog:Program} {w:World} {A:Around} {h:Heap} {g:Array GenState} {d:Drawn} {tk:Nat} {os:OsState} {K:PySem.W.Frag} {x C:Addr} {E:Value→Shared→Prop}
end
end L2
end
section
set_option maxHeartbeats 3999000
namespace L2
open PySem PySem.Spec PyProof.Rows
end L2
end
section
set_option maxHeartbeats 3999000
namespace L2
open PySem PySem.Spec PyProof.Rows
end L2
end
section
set_option maxHeartbeats 3999000
namespace L2
open PySem PySem.Spec PyProof.Rows
section
variable {P:Program} {w:World} {outer:List Env} {H H':Hp} {h h' B:Heap} {e C:Addr}
theorem zhg {o:HO} {a:Addr} (x:zS P w H h a o):∃ ob,h.get? a=some ob:=by
 cases o with
 | lst xs=>obtain⟨_,_,_,_,e⟩:=x; exact⟨_,e⟩
 | tup xs=>obtain⟨_,_,_,o,e,_⟩:=x; exact⟨_,e⟩
 | dK kvs=>obtain⟨_,_,_,_,o,_,_,e,_⟩:=x; exact⟨_,e⟩
 | dT kvs=>obtain⟨_,_,_,_,o,_,_,e,_⟩:=x; exact⟨_,e⟩
 | set S n=>obtain⟨o,_,_,_,e,_⟩:=x; exact⟨_,e⟩
 | ins C dx fs=>obtain⟨_,_,_,e,_⟩:=x; exact⟨_,e⟩
 | own y=>obtain⟨_,e⟩:=x; exact⟨_,e⟩
 | xd fs=>obtain⟨_,⟨_,_,_,e,_⟩,_⟩:=x; exact⟨_,e⟩
 | rng lo hi=>obtain⟨_,_,_,e⟩:=x; exact⟨_,e⟩
 | frz ob u=>obtain⟨e,_⟩:=x; exact⟨_,e⟩
 | tbl ps=>exact⟨_,(show h.get? a=some _ from x)⟩
 | met f y=>exact⟨_,(show h.get? a=some _ from x)⟩
 | ext φ=>obtain⟨_,⟨_,e⟩,_⟩:=x; exact⟨_,e⟩
end
section
variable {X:Cx} {σ:St} {H:Hp} {s:Shared} {pins:List (Addr×Obj)}
end
section
variable {P:Program} {w:World} {K:PySem.W.Frag} {mg:Str→Option Value} {base:Heap} {N:List Str} {qual:Str} {scope:Scope} {f:Addr} {cd:Value} {A:Around} {outer:List Env} {s₀:Shared} {H₀:Hp} {E:XK}
end
section
variable {X:Cx} {x:Str} {C:Addr} {e:Expr} {te:TE} {np cpos pos:Pos} {E:XK}
end
end L2
end
section
set_option maxHeartbeats 3999000
namespace L2
open PySem PySem.Spec PyProof.Rows
section
variable {X:Cx} {pins:List (Addr×Obj)} {σ:St} {CX:CXT} {k:Nat} {f C:Addr} {fd:FuncData} {ps:List Str} {sp:Sp} {dvs:List V} {ds:List Value} {E:XK} {x m:Str} {p pos apos:Pos} {e o:Expr} {es:List Expr} {ta te:TE} {t:TA}
end
section
variable {X:Cx} {σ:St} {H:Hp} {s:Shared} {pins:List (Addr×Obj)}
end
section
variable {X:Cx} {pins:List (Addr×Obj)} {σ:St} {H:Hp} {s:Shared} {e:Addr}
end
end L2
end
section
set_option maxHeartbeats 3999000
namespace L2
open PySem PySem.Spec PyProof.Rows
section
variable {X:Cx} {x n:Str} {S:Addr} {i:Nat} {body suite:List Stmt} {b₀:Stmt} {tb:XK→TS} {th:TS} {np hpos pos:Pos}
end
end L2
end
section
set_option maxHeartbeats 3999000
namespace L2
open PySem PySem.Spec PyProof.Rows
section
variable {P:Program} {w:World} {K:PySem.W.Frag} {mg:Str→Option Value} {base:Heap}
end
section
variable {X:Cx} {k:Nat} {f:Addr} {fd:FuncData} {ps:List Str} {sp:Sp} {x:Str} {p pos:Pos} {e:Expr} {es:List Expr} {t:TA}
end
end L2
end
section
set_option maxHeartbeats 3999000
namespace L2
open PySem PySem.Spec PyProof.Rows
section
variable {X:Cx}
end
section
variable {X:Cx} {tg:Expr}
end
end L2
end
section
set_option maxHeartbeats 3998000
namespace L2
open PySem PySem.Spec PyProof.Rows
section
variable {κ:Type} [DecidableEq κ]
end
section
variable {P:Program} {w:World} {H:Hp} {h:Heap} {a:Addr}
end
section
variable {X:Cx} {pins:List (Addr×Obj)} {σ:St} {H:Hp} {s:Shared} {a:Addr} {y v:V} {u r:Value} {o:Option V} {A:Around} {E:Value→Shared→Prop}
end
section
variable {X:Cx} {pins:List (Addr×Obj)} {σ:St} {H:Hp} {s:Shared} {a:Addr} {kvs:List (Key×V)} {k:Key} {u:Value} {A:Around} {E:Value→Shared→Prop}
end
section
variable {X:Cx} {o i e value:Expr} {pos pos' tpos:Pos} {td ty tv:TE}
end
section
variable {X:Cx} {pos:Pos}
end
section
variable {X:Cx} {pins:List (Addr×Obj)} {σ:St} {H:Hp} {s:Shared} {a:Addr} {y d:V} {u r:Value} {o:Option V} {A:Around} {E:Value→Shared→Prop}
end
section
variable {X:Cx} {o e f:Expr} {apos cpos:Pos} {td ty tx:TE}
end
end L2
end
section
set_option maxHeartbeats 3998000
namespace L2
open PySem PySem.Spec PyProof.Rows
end L2
namespace PySem
open PyProof.Rows
section
variable {prog:Program} {w:World} {A:Around} {E:Value→Shared→Prop} {s:Shared}
end
end PySem
namespace L2
open PySem PySem.Spec PyProof.Rows
end L2
end
section
set_option maxHeartbeats 3997000
namespace L2
open PySem PySem.Spec PyProof.Rows
end L2
namespace My
open PySem L2 PyProof.Rows
section
variable {K:PySem.W.Frag}
end
end My
end
section
set_option maxHeartbeats 3996000
namespace L2
open PySem PySem.Spec PyProof.Rows PySem.Builtin.Str
end L2
end
section
set_option maxHeartbeats 3996000
namespace L2
open PySem PySem.Spec PyProof.Rows PySem.Builtin.Str
theorem Inv.above {X:Cx} {pins:List (Addr×Obj)} {σ:St} {H:Hp} {s:Shared} {h':Heap} {tk:Nat} {D:Addr} {o:HO} (I:Inv X pins σ H s) (k:∀ b o,s.heap.get? b=some o→h'.get? b=some o) (hD:∀ b o,s.heap.get? b=some o→b < D)
  (new:zS X.prog X.w (upd H D o) h' D o):H D=none∧Inv X pins σ (upd H D o) { s with heap:=h',toks:=tk }:=by
 have hn:H D=none:=by
  cases e:H D with
  | none=>rfl
  | some u =>
   obtain⟨ob,z⟩:=zhg (I.hok D u e)
   exact absurd (hD D ob z) (Nat.lt_irrefl _)
 have hL:X.env.locals < D:=by
  obtain⟨m,⟨o,es,ep,ho,_⟩,_⟩:=I.loc
  exact hD _ _ ho
 have I1:Inv X pins σ H { s with heap:=h',toks:=tk }:=I.kept k
 refine⟨hn,I1.track hn (Nat.le_of_lt (Nat.lt_of_le_of_lt I.ok.above hL)) (Nat.ne_of_lt hL) (fun x c e z=>?_) (fun p hp z=>?_) new⟩
 ·obtain⟨v,oc,q,_⟩:=I.cell x c e
  exact absurd (hD c oc q) (by rw [z]; exact Nat.lt_irrefl _)
 ·exact absurd (hD p.1 _ (I.pin p hp).1) (by rw [z]; exact Nat.lt_irrefl _)
end L2
end
section
set_option maxHeartbeats 3996000
namespace PySem
section
variable {prog:Program} {w:World} {A:Around} {E:Value→Shared→Prop} {s:Shared}
end
end PySem
namespace L2
open PySem PySem.Spec PyProof.Rows PySem.Builtin.Str
theorem zdB {X:Cx}:zaB X (.builtin "len") (fun xs H Q=>∃ l S n,xs = [.ref l]∧H l=some (.set S n)∧Q (.int (n:Nat)) H):=by
 intro pins s σ H xs us Q I r h
 obtain⟨l,S,n,rfl,hH,q⟩:=h
 obtain⟨u,rfl,rx⟩:=vals1 r
 cases rx
 obtain⟨o,es,ep,t,ho,hex,hd,_,_,hb,hf,hn⟩:=I.hok l _ hH
 subst hn
 exact call_len_set ho hex hd hf (by unfold scanBound at hb; omega) ⟨.int (es.size:Nat),H,I.tok _,⟨_,rfl⟩,q⟩
section
variable {X:Cx} {es:List Expr} {t:St→Hp→Str→(Str→Hp→Prop)→Prop} {e:Expr} {te:TE} {pos:Pos}
end
end L2
end
section
set_option maxHeartbeats 3999000
namespace L2
open PySem PySem.SetTable
def Rs (xs:Array Nat):Prop:=xs.toList.Pairwise (· < ·)
theorem Rs.lt {xs:Array Nat} (h:Rs xs) {i j:Nat} (hj:j < xs.size) (hij:i < j):xs[i]'(by omega) < xs[j]:=by
 have:=(List.pairwise_iff_getElem.mp h) i j (by simpa using (by omega:i < xs.size)) (by simpa using hj) hij
 simpa using this
theorem zco {xs:Array Nat} (h:Rs xs) {j:Nat}:∀ fuel lo hi,hi - lo≤fuel→lo≤hi→hi≤xs.size→(∀ i (hi':i < xs.size),i < lo→xs[i] < j)→(∀ i (hi':i < xs.size),hi≤i→j≤xs[i]) →
  below.go xs j fuel lo hi≤xs.size∧(∀ i (hi':i < xs.size),i < below.go xs j fuel lo hi→xs[i] < j)∧(∀ i (hi':i < xs.size),below.go xs j fuel lo hi≤i→j≤xs[i])
 | 0,lo,hi,hf,hl,hs,h1,h2=>by
  have e:lo=hi:=by omega
  subst e
  exact⟨hs,h1,h2⟩
 | fuel+1,lo,hi,hf,hl,hs,h1,h2=>by
  rw [below.go]
  by_cases hlt:lo < hi
  ·rw [if_pos hlt]
   have hm:(lo+hi) / 2 < xs.size:=by omega
   have e:xs.getD ((lo+hi) / 2) j=xs[(lo+hi) / 2]:=by simp [Array.getD,hm]
   dsimp only
   rw [e]
   by_cases hc:xs[(lo+hi) / 2] < j
   ·rw [if_pos hc]
    refine zco h fuel _ hi (by omega) (by omega) hs (fun i hi' hlt'=>?_) h2
    by_cases e2:i=(lo+hi) / 2
    ·subst e2; exact hc
    ·exact Nat.lt_trans (h.lt hm (by omega)) hc
   ·rw [if_neg hc]
    refine zco h fuel lo _ (by omega) (by omega) (by omega) h1 (fun i hi' hle=>?_)
    by_cases e2:i=(lo+hi) / 2
    ·subst e2; omega
    ·have:=h.lt hi' (show (lo+hi) / 2 < i by omega); omega
  ·rw [if_neg hlt]
   have e:lo=hi:=by omega
   subst e
   exact⟨hs,h1,h2⟩
theorem zbA {xs:Array Nat} (h:Rs xs) (j:Nat):below xs j≤xs.size∧(∀ i (hi':i < xs.size),i < below xs j→xs[i] < j)∧(∀ i (hi':i < xs.size),below xs j≤i→j≤xs[i]) :=
 zco h _ _ _ (by omega) (by omega) (Nat.le_refl _) (fun i _ hi=>absurd hi (by omega)) (fun i hi' hle=>absurd hi' (by omega))
theorem zd9 {xs:Array Nat} (h:Rs xs) {i:Nat} (hi:i < xs.size):below xs (xs[i]+1)=i+1:=by
 obtain⟨a,b,c⟩:=zbA h (xs[i]+1)
 have e1:i < below xs (xs[i]+1):=by
  (refine Classical.byContradiction fun hn=>?_)
  have:=c i hi (by omega)
  omega
 (refine Classical.byContradiction fun hn=>?_)
 have h2:i+1 < xs.size:=by omega
 have:=b (i+1) h2 (by omega)
 have:=h.lt h2 (show i < i+1 by omega)
 omega
theorem zea {xs:Array Nat} (h:Rs xs):below xs 0=0:=by
 obtain⟨a,b,c⟩:=zbA h 0
 (refine Classical.byContradiction fun hn=>?_)
 have:=b 0 (by omega) (by omega)
 omega
theorem ze5 {xs:Array Nat} (h:Rs xs) {j:Nat} (hn:xs[below xs j]?≠some j):Rs (insertAt xs (below xs j) j):=by
 obtain⟨a,b,c⟩:=zbA h j
 unfold Rs insertAt
 simp only [Array.toList_append,Array.toList_push,Array.toList_extract,List.extract_eq_drop_take,Nat.sub_zero,List.drop_zero]
 have hsz:xs.toList.length=xs.size:=by simp
 have e1:List.take (xs.size - below xs j) (List.drop (below xs j) xs.toList)=List.drop (below xs j) xs.toList:=List.take_of_length_le (by rw [List.length_drop]; omega)
 rw [e1,List.append_assoc]
 have hp:(xs.toList.take (below xs j)).Pairwise (· < ·):=h.sublist (List.take_sublist _ _)
 have hq:(xs.toList.drop (below xs j)).Pairwise (· < ·):=h.sublist (List.drop_sublist _ _)
 have ht:∀ x∈xs.toList.take (below xs j),x < j:=fun x hx=>by
  obtain⟨i,hi,rfl⟩:=List.mem_iff_getElem.mp hx
  rw [List.length_take] at hi
  rw [List.getElem_take]
  have:=b i (by omega) (by omega)
  simpa using this
 have hd:∀ x∈xs.toList.drop (below xs j),j < x:=fun x hx=>by
  obtain⟨i,hi,rfl⟩:=List.mem_iff_getElem.mp hx
  rw [List.length_drop] at hi
  rw [List.getElem_drop]
  have h1:below xs j < xs.size:=by omega
  have h2:=c (below xs j) h1 (Nat.le_refl _)
  have h3:xs[below xs j]≠j:=fun e=>hn (by rw [Array.getElem?_eq_getElem h1,e])
  have h4:=c (below xs j+i) (by omega) (by omega)
  by_cases e:i=0
  ·subst e
   have:j < xs[below xs j]:=by omega
   simpa using this
  ·have:=h.lt (show below xs j+i < xs.size by omega) (show below xs j < below xs j+i by omega)
   have:j < xs[below xs j+i]:=by omega
   simpa using this
 refine List.pairwise_append.mpr ⟨hp,?_,?_⟩
 ·show (j :: xs.toList.drop (below xs j)).Pairwise (· < ·)
  exact List.pairwise_cons.mpr ⟨hd,hq⟩
 ·intro x hx y hy
  rcases (List.mem_cons.mp hy) with rfl | hy
  ·exact ht x hx
  ·exact Nat.lt_trans (ht x hx) (hd y hy)
structure Tb (led:Bool) (t:SetTable):Prop where
 r:Rs t.place
 d:t.dummies = #[]
 l:t.led=led
theorem Tb.fresh (f m:Nat) (led:Bool):Tb led (SetTable.fresh f m led):=⟨List.Pairwise.nil,rfl,rfl⟩
theorem Tb.standIn {led:Bool} {t:SetTable} (h:Tb led t) (n:Nat):Tb led (t.standIn n):=⟨by
 show (Array.range n).toList.Pairwise (· < ·)
 rw [Array.toList_range]
 exact List.pairwise_lt_range,rfl,h.l⟩
theorem zdf (j:Nat):has #[] j=false:=by
 unfold has
 simp
theorem Tb.put {led:Bool} {t:SetTable} (h:Tb led t) {j:Nat} (hn:t.place[below t.place j]?≠some j):Tb led (t.put j).1:=⟨ze5 h.r hn,by
 show (if has t.dummies j=true then _ else t.dummies) = #[]
 rw [h.d,zdf]
 rfl,h.l⟩
theorem Tb.relay {led:Bool} {t:SetTable} (h:Tb led t) (es:Array (Int×Value)) (wanted:Nat):Tb led (relayAll t es wanted).2.1:=by
 unfold relayAll
 split
 ·next t' o he =>
  have ht:Tb led t':=by
   unfold SetTable.relaid SetTable.laid at he
   cases hl:layClean (sizeAbove wanted - 1) (es.map (·.1)) with
   | none=>rw [hl] at he; simp at he
   | some ow =>
    rw [hl] at he
    simp only [Option.pure_def,Option.bind_eq_bind,Option.bind_some,Option.some.injEq,Prod.mk.injEq] at he
    obtain⟨rfl,_⟩:=he
    refine⟨?_,rfl,h.l⟩
    show (List.toArray _).toList.Pairwise (· < ·)
    rw [List.map_filterMap]
    refine List.Pairwise.filterMap _ ?_ List.pairwise_lt_range
    intro a a' haa b hb b' hb'
    simp at hb hb'
    obtain⟨_,_,rfl⟩:=hb
    obtain⟨_,_,rfl⟩:=hb'
    exact haa
  dsimp only
  split
  ·exact ht
  ·exact h.standIn _
 ·exact h.standIn _
end L2
end
section
set_option maxHeartbeats 3999000
namespace L2
open PySem PySem.Spec PyProof.Rows
def vInt:Value→Int
 | .int n _=>n
 | _=>0
theorem zbB {prog:Program} {w:World} {k:Int} {v:Value} (h:(intKind prog w).is k v=true):vInt v=k:=by
 have h:Value.isInt k v=true:=h
 cases v with
 | int i t=>unfold Value.isInt at h; simp at h; exact h
 | _=>exact absurd h (by unfold Value.isInt; simp)
section
variable {prog:Program} {w:World} {A:Around} {E:Value→Shared→Prop} {s:Shared}
end
end L2
end
section
set_option maxHeartbeats 3999000
namespace L2
open PySem PySem.SetTable
def tM (mask:Nat):SetTable:={ mask:=mask,place:=#[],dummies:=#[],finger:=0,led:=true,moves:=0,plain:=true }
theorem zfT (t:SetTable) (p:Probe):t.advance p=(tM t.mask).advance p:=rfl
theorem zeb (t:SetTable) (h:Int):t.probeStart h=(tM t.mask).probeStart h:=rfl
def rch (mask:Nat):Nat→Probe→Nat→Bool
 | 0,_,_=>false
 | n+1,p,j=>p.j == j || rch mask n ((tM mask).advance p) j
theorem zic:∀ h,h < 97→∀ j,j < 8→rch 7 220 ((tM 7).probeStart (h:Nat)) j=true:=by decide +kernel
theorem zhP:∀ h,h < 97→∀ j,j < 32→rch 31 460 ((tM 31).probeStart (h:Nat)) j=true:=by decide +kernel
theorem zfU {mask i:Nat} (h:i≤mask):i+(runEnd mask i - i)≤mask:=by
 unfold runEnd
 split <;> omega
theorem zhh {t:SetTable} {p:Probe} (h:p.j+p.more≤t.mask):(t.advance p).j+(t.advance p).more≤t.mask:=by
 unfold advance
 split
 ·show p.j+1+(p.more - 1)≤t.mask
  omega
 ·exact zfU (Nat.le_of_lt_succ (Nat.mod_lt _ (Nat.succ_pos _)))
theorem ze6 {t:SetTable} {p:Probe} (h:p.dummy=none):(t.advance p).dummy=none:=by
 unfold advance
 split <;> exact h
theorem zey {t:SetTable} (hd:t.dummies = #[]) {hashAt:Nat→Int} {h:Int} (hh:∀ i,hashAt i≠h) {j0:Nat} (h0:t.slot j0 = .empty):∀ fuel p,p.dummy=none→p.j+p.more≤t.mask→rch t.mask fuel p j0=true→∃ j,probe.go t hashAt h fuel p=some (.empty j none)∧j≤t.mask∧t.slot j = .empty
 | 0,p,_,_,hr=>by simp [rch] at hr
 | fuel+1,p,hp,hm,hr=>by
  rw [probe.go]
  split
  ·next hs=>exact⟨p.j,by rw [hp],by omega,hs⟩
  ·next hs =>
   unfold slot at hs
   dsimp only at hs
   rw [hd,zdf] at hs
   split at hs
   ·cases hs
   ·simp at hs
  ·next i hs =>
   rw [if_neg (by simpa using hh i)]
   refine zey hd hh h0 fuel _ (ze6 hp) (zhh hm) ?_
   rw [rch,Bool.or_eq_true] at hr
   rcases hr with hr | hr
   ·rw [beq_iff_eq.mp hr,h0] at hs
    cases hs
   ·rw [zfT]; exact hr
theorem zec {t:SetTable} (hd:t.dummies = #[]) {j:Nat} (hn:j∉t.place.toList):t.slot j = .empty:=by
 unfold slot
 dsimp only
 rw [hd,zdf,if_neg,if_neg (by simp)]
 intro hc
 have hc:t.place[below t.place j]? = some j:=by simpa using hc
 exact hn (by rw [Array.mem_toList_iff]; exact Array.mem_of_getElem? hc)
theorem zfV {t:SetTable} (hd:t.dummies = #[]) (hs:t.place.size≤t.mask):∃ j,j≤t.mask∧t.slot j = .empty:=by
 (refine Classical.byContradiction fun hn=>?_)
 have hsub:List.range (t.mask+1) ⊆ t.place.toList:=fun j hj=>Classical.byContradiction fun hc=>hn ⟨j,by have:=List.mem_range.mp hj; omega,zec hd hc⟩
 have:=List.nodup_range.length_le_of_subset hsub
 rw [List.length_range,Array.length_toList] at this
 omega
structure Pb (led:Bool) (t:SetTable) (n:Nat):Prop where
 b:Tb led t
 p:t.plain=true
 z:t.place.size=n
 i:∀ j∈t.place.toList,j≤t.mask
 m:t.mask=7∧n≤4∨t.mask=31∧n≤18
theorem Pb.free {led:Bool} {t:SetTable} {n:Nat} (P:Pb led t n) {h:Nat} (hh:h < 97):∃ j,t.freeSlot (h:Nat)=some (j,false)∧j≤t.mask∧t.slot j = .empty:=by
 obtain⟨j0,hj0,h0⟩:=zfV P.b.d (by have:=P.z; rcases P.m with m | m <;> omega)
 have hst:(t.probeStart (h:Nat)).j+(t.probeStart (h:Nat)).more≤t.mask:=zfU (Nat.le_of_lt_succ (Nat.mod_lt _ (Nat.succ_pos _)))
 have hr:rch t.mask (10*turns t.mask) (t.probeStart (h:Nat)) j0=true:=by
  rw [zeb]
  rcases P.m with ⟨m,_⟩ | ⟨m,_⟩
  ·rw [m]; exact zic h hh j0 (by omega)
  ·rw [m]; exact zhP h hh j0 (by omega)
 obtain⟨j,e,hj,hs⟩:=zey P.b.d (hashAt:=fun _=>(h:Int)+1) (h:=(h:Int)) (fun _=>by omega) h0 _ (t.probeStart (h:Nat)) rfl hst hr
 refine⟨j,?_,hj,hs⟩
 unfold freeSlot probe
 rw [e]
 rfl
theorem zbY {α:Type} {xs:Array α} {p:Nat} {x:α} (hp:p≤xs.size):(insertAt xs p x).size=xs.size+1:=by
 unfold insertAt
 simp only [Array.size_append,Array.size_push,Array.size_extract]
 omega
theorem zez {k a b:Nat} {l:List Nat} (h:k∈l.extract a b):k∈l:=by
 rw [List.extract_eq_drop_take] at h
 exact List.mem_of_mem_drop (List.mem_of_mem_take h)
theorem Pb.lay {led:Bool} {t:SetTable} {n:Nat} (P:Pb led t n) {h:Nat} (hh:h < 97) {es:Array (Int×Value)} (he:es.size=n) (x:Value) :
  ∃ es1 t1,layNew t es (h:Nat) x=(es1,t1,false,false)∧Tb led t1∧t1.plain=true∧t1.mask=t.mask∧t1.place.size=n+1∧(∀ j∈t1.place.toList,j≤t1.mask):=by
 obtain⟨j,e,hj,hs⟩:=P.free hh
 have hn:t.place[below t.place j]?≠some j:=fun hc=>by
  unfold slot at hs
  dsimp only at hs
  rw [hc] at hs
  simp at hs
 have hb:=(zbA P.b.r j).1
 have hT:=P.b.put hn
 have hz:(t.put j).1.place.size=n+1:=by
  show (insertAt t.place (below t.place j) j).size=n+1
  rw [zbY hb,P.z]
 have hes:(insertAt es (below t.place j) ((h:Int),x)).size=n+1:=by rw [zbY (by rw [he,← P.z]; exact hb),he]
 have hf:(t.put j).1.fits (n+1)=true:=by
  unfold fits fill
  rw [hT.d,hz]
  have:(t.put j).1.mask=t.mask:=rfl
  rw [this]
  rcases P.m with m | m <;> simp <;> omega
 refine⟨insertAt es (below t.place j) ((h:Int),x),(t.put j).1,?_,hT,P.p,rfl,hz,?_⟩
 ·unfold layNew
  rw [e]
  show (insertAt es (below t.place j) ((h:Int),x),(t.put j).1.orStandIn (insertAt es (below t.place j) ((h:Int),x)).size,false,!(t.put j).1.fits (insertAt es (below t.place j) ((h:Int),x)).size)=_
  rw [hes]
  unfold orStandIn
  rw [if_pos hf,hf]
  rfl
 ·intro k hk
  show k≤t.mask
  have hk:k∈(insertAt t.place (below t.place j) j).toList:=hk
  unfold insertAt at hk
  simp only [Array.toList_append,Array.toList_push,Array.toList_extract,List.mem_append,List.mem_singleton] at hk
  rcases hk with (hk | hk) | hk
  ·exact P.i k (zez hk)
  ·omega
  ·exact P.i k (zez hk)
end L2
end
section
set_option maxHeartbeats 3999000
namespace L2
open PySem PySem.SetTable
def rF (mask:Nat):Nat→Nat→Nat→Nat→Bool
 | 0,_,_,_=>false
 | n+1,i,q,j=>(decide (i≤j) && decide (j≤runEnd mask i)) || rF mask n (leap mask i q).1 (leap mask i q).2 j
theorem zid:∀ h,h < 97→∀ j,j < 32→rF 31 46 (bits (h:Nat) % 32) (bits (h:Nat)) j=true:=by decide +kernel
theorem zcX {ow:Array (Option Nat)} {mask j0:Nat} (hz:ow.size=mask+1) (h0:ow[j0]? = some none):∀ fuel i q,i≤mask→rF mask fuel i q j0=true→∃ j,layClean.free mask ow fuel i q=some j∧ow[j]? = some none
 | 0,i,q,_,h=>by simp [rF] at h
 | fuel+1,i,q,hi,h=>by
  rw [layClean.free]
  cases hf:(List.range (runEnd mask i+1 - i)).find? (fun k=>(ow.getD (i+k) (some 0)).isNone) with
  | some k =>
   refine⟨i+k,rfl,?_⟩
   have hk:=List.find?_some hf
   have hk:(ow.getD (i+k) (some 0)).isNone=true:=hk
   by_cases hs:i+k < ow.size
   ·rw [Array.getElem?_eq_getElem hs]
    have:ow.getD (i+k) (some 0)=ow[i+k]:=by simp [Array.getD,hs]
    rw [this] at hk
    rw [Option.isNone_iff_eq_none.mp hk]
   ·have:ow.getD (i+k) (some 0)=some 0:=by simp [Array.getD,hs]
    rw [this] at hk
    cases hk
  | none =>
   dsimp only
   have hn:=List.find?_eq_none.mp hf
   rw [rF,Bool.or_eq_true,Bool.and_eq_true,decide_eq_true_eq,decide_eq_true_eq] at h
   rcases h with ⟨h1,h2⟩ | h
   ·exfalso
    refine hn (j0 - i) (List.mem_range.mpr (by omega)) ?_
    have hlt:j0 < ow.size:=by
     rcases Nat.lt_or_ge j0 ow.size with h | h
     ·exact h
     ·rw [Array.getElem?_eq_none h] at h0; cases h0
    have e:ow[j0]=none:=by rw [Array.getElem?_eq_getElem hlt] at h0; injection h0
    have:ow.getD (i+(j0 - i)) (some 0)=none:=by rw [show i+(j0 - i)=j0 by omega]; simp [Array.getD,hlt,e]
    rw [this]
    rfl
   ·exact zcX hz h0 fuel _ _ (Nat.le_of_lt_succ (Nat.mod_lt _ (Nat.succ_pos _))) h
theorem zfW {k:Nat}:∀ {l:List (Option Nat)} {j:Nat},l[j]? = some none→((l.set j (some k)).filterMap id).Perm (k :: l.filterMap id)
 | [],j,h=>by simp at h
 | a :: l,0,h=>by
  simp at h
  subst h
  simp
 | a :: l,j+1,h=>by
  (simp only [List.getElem?_cons_succ] at h)
  have ih:=zfW (k:=k) h
  cases a with
  | none=>simpa using ih
  | some a =>
   simp only [List.set_cons_succ,List.filterMap_cons,id]
   exact (ih.cons a).trans (.swap k a _)
theorem zeA:∀ {l:List (Option Nat)},(l.filterMap id).length < l.length→∃ j:Nat,l[j]? = some none
 | [],h=>by simp at h
 | none :: l,_=>⟨0,rfl⟩
 | some a :: l,h=>by
  simp only [List.filterMap_cons,id,List.length_cons] at h
  obtain⟨j,hj⟩:=zeA (l:=l) (by omega)
  exact⟨j+1,by simpa using hj⟩
def Ow (ow:Array (Option Nat)) (k:Nat):Prop:=ow.size=32∧(ow.toList.filterMap id).Perm (List.range k)
theorem zgB {ow:Array (Option Nat)} {k:Nat} (O:Ow ow k) (hk:k < 32) {h:Nat} (hh:h < 97):∃ j,layClean.free 31 ow (turns 31) (bits (h:Nat) % (31+1)) (bits (h:Nat))=some j∧Ow (ow.setIfInBounds j (some k)) (k+1):=by
 obtain⟨j0,h0⟩:=zeA (l:=ow.toList) (by rw [O.2.length_eq,List.length_range,Array.length_toList,O.1]; exact hk)
 rw [Array.getElem?_toList] at h0
 have hj0:j0 < 32:=by
  rcases Nat.lt_or_ge j0 ow.size with h | h
  ·rw [← O.1]; exact h
  ·rw [Array.getElem?_eq_none h] at h0; cases h0
 obtain⟨j,e,hj⟩:=zcX (mask:=31) O.1 h0 46 (bits (h:Nat) % 32) (bits (h:Nat)) (by omega) (zid h hh j0 hj0)
 refine⟨j,e,by rw [Array.size_setIfInBounds]; exact O.1,?_⟩
 rw [Array.toList_setIfInBounds]
 refine (zfW (by rw [Array.getElem?_toList]; exact hj)).trans ?_
 rw [List.range_succ]
 exact (O.2.cons k).trans (List.perm_append_singleton k (List.range k)).symm
theorem zhi {hs:List Nat} (hh:∀ h∈hs,h < 97) (hl:hs.length≤31):∃ ow,layClean 31 (hs.map fun (h:Nat)=>(h:Int)).toArray=some ow∧Ow ow hs.length:=by
 have key:∀ (hs:List Nat) (ow:Array (Option Nat)) (k:Nat),(∀ h∈hs,h < 97)→k+hs.length≤31→Ow ow k→∃ ow',(hs.map fun (h:Nat)=>(h:Int)).foldl (fun (acc:Option (Array (Option Nat)×Nat)) (h:Int)=>do
   let (owner,k) ← acc
   let j ← layClean.free 31 owner (turns 31) (bits h % (31+1)) (bits h)
   pure (owner.setIfInBounds j (some k),k+1)) (some (ow,k))=some (ow',k+hs.length)∧Ow ow' (k+hs.length):=by
  intro hs
  induction hs with
  | nil=>intro ow k _ _ O; exact⟨ow,rfl,O⟩
  | cons h hs ih =>
   intro ow k hh hl O
   rw [List.length_cons] at hl
   obtain⟨j,e,O2⟩:=zgB O (by omega) (hh h List.mem_cons_self)
   obtain⟨ow',e2,O3⟩:=ih _ (k+1) (fun x hx=>hh x (List.mem_cons_of_mem _ hx)) (by omega) O2
   refine⟨ow',?_,by rw [List.length_cons,show k+(hs.length+1)=k+1+hs.length by omega]; exact O3⟩
   rw [List.map_cons,List.foldl_cons,List.length_cons,show k+(hs.length+1)=k+1+hs.length by omega,← e2]
   congr 1
   show (layClean.free 31 ow (turns 31) (bits (h:Nat) % (31+1)) (bits (h:Nat))).bind _=_
   rw [e]
   rfl
 obtain⟨ow,e,O⟩:=key hs (Array.replicate 32 none) 0 hh (by omega) ⟨by simp,by
  rw [Array.toList_replicate,List.range_zero]
  have:∀ n,(List.replicate n (none:Option Nat)).filterMap id = []:=fun n=>by
   induction n with
   | zero=>rfl
   | succ n ih=>simp [List.replicate_succ,ih]
  rw [this]⟩
 rw [Nat.zero_add] at e O
 refine⟨ow,?_,O⟩
 unfold layClean
 rw [← Array.foldl_toList]
 rw [e]
 rfl
end L2
end
section
set_option maxHeartbeats 3999000
namespace L2
open PySem PySem.SetTable
theorem range_getD {α:Type} {d:α}:∀ (l:List α),(List.range l.length).map (fun j=>l.getD j d)=l:=fun l=>by
 refine List.ext_getElem (by simp) fun i h1 h2=>?_
 simp [List.getD_eq_getElem?_getD,List.getElem?_eq_getElem h2]
theorem ze7 {ow:Array (Option Nat)} (hz:ow.size=32):((List.range 32).filterMap fun j=>(ow.getD j none).map (j,·)).map (·.2)=ow.toList.filterMap id:=by
 have e:ow.toList.filterMap id=((List.range 32).map fun j=>ow.toList.getD j none).filterMap id:=by
  have:=range_getD (d:=(none:Option Nat)) ow.toList
  rw [Array.length_toList,hz] at this
  rw [this]
 rw [e,List.map_filterMap,List.filterMap_map]
 congr 1
 funext j
 have:ow.toList.getD j none=ow.getD j none:=by
  rw [List.getD_eq_getElem?_getD,Array.getElem?_toList,Array.getD_eq_getD_getElem?]
 simp only [Function.comp,id]
 rw [this]
 cases ow.getD j none <;> rfl
theorem ze8 {α:Type} (es:Array α):(List.range es.size).filterMap (fun i=>es[i]?)=es.toList:=by
 have h:∀ (l:List α),(List.range l.length).filterMap (fun i=>l[i]?)=l:=fun l=>by
  induction l with
  | nil=>rfl
  | cons a l ih =>
   rw [List.length_cons,List.range_succ_eq_map,List.filterMap_cons]
   simp only [List.getElem?_cons_zero]
   rw [List.filterMap_map]
   show a :: _=_
   congr 1
 have:=h es.toList
 rw [Array.length_toList] at this
 simpa using this
theorem Pb.relay {led:Bool} {t:SetTable} {n wanted:Nat} {es:Array (Int×Value)} (T:Tb led t) (hp:t.plain=true) (hh:∀ e∈es.toList,∃ h:Nat,h < 97∧e.1=h) (he:es.size=n) (hn:n≤18) (hw:sizeAbove wanted=32) :
  ∃ es' t',relayAll t es wanted=(es',t',false)∧Pb led t' n:=by
 have hT:=T.relay es wanted
 obtain⟨hs,ehs⟩:∃ hs:List Nat,hs=es.toList.map fun e=>e.1.toNat:=⟨_,rfl⟩
 have hl:hs.length=n:=by rw [ehs,List.length_map,Array.length_toList,he]
 have hlt:∀ h∈hs,h < 97:=fun h hm=>by
  rw [ehs] at hm
  obtain⟨e,hem,rfl⟩:=List.mem_map.mp hm
  obtain⟨h',h1,h2⟩:=hh e hem
  rw [h2]
  simpa using h1
 have eh:es.map (·.1)=(hs.map fun (h:Nat)=>(h:Int)).toArray:=by
  refine Array.toList_inj.mp ?_
  rw [Array.toList_map,ehs,List.map_map]
  refine List.map_congr_left fun e hem=>?_
  obtain⟨h',h1,h2⟩:=hh e hem
  simp [h2]
 obtain⟨ow,e,O⟩:=zhi hlt (by omega)
 rw [hl] at O
 obtain⟨live,elv⟩:∃ live,live=(List.range 32).filterMap fun j=>(ow.getD j none).map (j,·):=⟨_,rfl⟩
 have hv:(live.map (·.2)).Perm (List.range n):=by rw [elv,ze7 O.1]; exact O.2
 have hll:live.length=n:=by rw [← List.length_map (f:=(·.2)),hv.length_eq,List.length_range]
 have er:t.relaid (es.map (·.1)) wanted=some ({ mask:=31,place:=(live.map (·.1)).toArray,dummies:=#[],finger:=t.finger,led:=t.led,moves:=t.movedTo 31,plain:=t.plain },(live.map (·.2)).toArray):=by
  unfold relaid laid
  rw [hw,eh]
  show (layClean 31 (hs.map fun (h:Nat)=>(h:Int)).toArray).bind _=_
  rw [e,elv]
  rfl
 have hes:((live.map (·.2)).toArray.filterMap (es[·]?)).size=n:=by
  rw [← Array.length_toList,Array.toList_filterMap]
  rw [(hv.filterMap _).length_eq,← he,ze8,Array.length_toList]
 have hc:coversAll (live.map (·.2)).toArray n=true:=by
  unfold coversAll
  exact List.isPerm_iff.mpr hv
 unfold relayAll at hT ⊢
 rw [er] at hT ⊢
 dsimp only at hT ⊢
 have hf:SetTable.fits { mask:=31,place:=(live.map (·.1)).toArray,dummies:=#[],finger:=t.finger,led:=t.led,moves:=t.movedTo 31,plain:=t.plain } n=true:=by
  unfold fits fill
  simp [hll]
  omega
 rw [hes,he,hc,hf] at hT ⊢
 refine⟨_,_,rfl,hT,hp,by simp [hll],fun j hj=>?_,.inr ⟨rfl,hn⟩⟩
 have hj:j∈live.map (·.1):=hj
 obtain⟨q,hq,rfl⟩:=List.mem_map.mp hj
 rw [elv] at hq
 obtain⟨j',hj',e'⟩:=List.mem_filterMap.mp hq
 have:=List.mem_range.mp hj'
 cases h:ow.getD j' none with
 | none=>rw [h] at e'; cases e'
 | some v =>
  rw [h] at e'
  injection e' with e'
  subst e'
  show j'≤31
  omega
end L2
end
section
set_option maxHeartbeats 3999000
namespace L2
open PySem PySem.Spec PyProof.Rows PySem.SetTable
theorem zcp:∀ n:Nat,n < 97→hashInt (n:Nat)=(n:Nat):=by decide +kernel
theorem Pb.fits {led:Bool} {t:SetTable} {n:Nat} (P:Pb led t n):t.fits n=true:=by
 unfold SetTable.fits SetTable.fill
 rw [P.b.d,P.z]
 rcases P.m with m | m <;> simp <;> omega
theorem Pb.next {led:Bool} {t1:SetTable} {n:Nat} (T:Tb led t1) (hp:t1.plain=true) (hz:t1.place.size=n) (hi:∀ j∈t1.place.toList,j≤t1.mask) (hm:t1.mask=7∧n≤5∨t1.mask=31∧n≤18) :
  (t1.tooFull=true→n=5)∧(t1.tooFull=false→Pb led t1 n):=by
 have ef:t1.fill=n:=by unfold SetTable.fill; rw [T.d,hz]; rfl
 constructor
 ·intro h
  unfold tooFull at h
  rw [ef] at h
  simp at h
  rcases hm with ⟨m,h2⟩ | ⟨m,h2⟩ <;> rw [m] at h <;> omega
 ·intro h
  unfold tooFull at h
  rw [ef] at h
  simp at h
  refine⟨T,hp,hz,hi,?_⟩
  rcases hm with ⟨m,h2⟩ | ⟨m,h2⟩ <;> rw [m] at h
  ·exact .inl ⟨m,by omega⟩
  ·exact .inr ⟨m,h2⟩
section
variable {prog:Program} {w:World} {A:Around} {E:Value→Shared→Prop} {s:Shared}
def zb2 (prog:Program) (w:World) (led:Bool) (h:Heap) (a:Addr) (ns:List Int):Prop :=
 ∃ o es ep t,h.get? a=some o∧o.ExactSet∧o.data = .set es ep t∧ElemsOf (intKind prog w) es.toList∧(es.toList.map fun e=>vInt e.2).Perm ns∧(∀ n∈ns,0≤n∧n < 97)∧Pb led t es.size
theorem zcY {h:Heap} {a:Addr} {o:Obj} {es es':Array (Int×Value)} {ep:Nat} {t t':SetTable} (ho:h.get? a=some o) (hex:o.ExactSet) (hd:o.data = .set es ep t) :
  (h.update a (Obj.putSet es' t')).get? a=some { o with data:=.set es' (ep+1) t' }:=by
 (have:=Heap.get?_update_self (Obj.putSet es' t') ho (by rw [putSet_of es' t' hd]; rfl))
 rw [putSet_of es' t' hd] at this
 exact this
theorem zfX {a:Addr} {ns:List Int} {led:Bool} {n:Int} {tk:Nat} {Q:Bool→Shared→Prop} (hS:zb2 prog w led s.heap a ns) (hroom:ns.length+1≤18) (h0:0≤n) (h97:n < 97)
  (h:∀ h' b,Heap.SameBut a s.heap h'→zb2 prog w led h' a (step_dedup ns n)→Q b { s with heap:=h' }) :
  wpAny (model prog w) A (setAddHashed a (.int n tk) ((intKind prog w).hash n)) Q E s:=by
 obtain⟨o,es,ep,t,ho,hex,hd,hel,hp,hsm,P⟩:=hS
 have hf:=P.fits
 have hn:es.size=ns.length:=by rw [← hp.length_eq,List.length_map,Array.length_toList]
 have hb:es.size < scanBound:=by unfold scanBound; omega
 have hkey:(intKind prog w).is n (.int n tk)=true:=intKind_is _ _ _ _
 have hmemI:∀ k:Int,(∃ e∈es.toList,(intKind prog w).is k e.2=true)↔k∈ns:=fun k=>by
  rw [← hp.mem_iff,List.mem_map]
  constructor
  ·rintro⟨e,he,hk⟩
   exact⟨e,he,zbB hk⟩
  ·rintro⟨e,he,rfl⟩
   obtain⟨⟨k',hk',_⟩,_⟩:=hel e he
   exact⟨e,he,by rw [zbB hk']; exact hk'⟩
 (unfold setAddHashed setAddHashedIn)
 (refine wpAny_holding (wpAny_bind (wpAny_setState_of ho hd hf ?_)))
 dsimp only
 rw [byScan_of (knd:=intKind prog w) (x:=.int n tk) rfl hb hel]
 simp only [↓reduceIte]
 unfold setAddByScan
 refine wpAny_bind (wpAny_bind (wpAny_rule (wpAny_bind (wpAny_setScan_of hkey ho hd hf hel ?_))))
 have e0:s = { s with heap:=s.heap }:=by cases s; rfl
 cases hr:List.findIdx? (fun e=>(intKind prog w).is n e.2) es.toList with
 | some j =>
  dsimp only
  (obtain⟨hj,hpj,_⟩:=List.findIdx?_eq_some_iff_getElem.mp hr)
  have hin:n∈ns:=(hmemI n).mp ⟨es.toList[j],List.getElem_mem hj,hpj⟩
  have e1:step_dedup ns n=ns:=by
   unfold step_dedup
   rw [if_pos (List.any_eq_true.mpr ⟨n,hin,by simp⟩)]
  (refine wpAny_pure (wpAny_pure ?_))
  rw [e0]
  exact h s.heap _ (Heap.SameBut.refl a s.heap) (by rw [e1]; exact⟨o,es,ep,t,ho,hex,hd,hel,hp,hsm,P⟩)
 | none =>
  dsimp only
  have hout:n∉ns:=fun hin=>by
   obtain⟨e,he,hk⟩:=(hmemI n).mpr hin
   (have:=List.findIdx?_eq_none_iff.mp hr e he)
   rw [hk] at this
   cases this
  have e1:step_dedup ns n=ns++[n]:=by
   unfold step_dedup
   rw [if_neg fun hc=>by
    obtain⟨x,hx,hxe⟩:=List.any_eq_true.mp hc
    exact hout (by rw [← beq_iff_eq.mp hxe]; exact hx)]
  rw [e1] at h
  obtain⟨m,rfl⟩:∃ m:Nat,n=m:=⟨n.toNat,by omega⟩
  have hm:m < 97:=by omega
  have eh:(intKind prog w).hash (m:Int)=(m:Int):=zcp m hm
  have hperm:=layNew_perm t es ((intKind prog w).hash (m:Int)) (.int m tk)
  obtain⟨es1,t1,eL,T1,p1,m1,z1,i1⟩:=P.lay hm rfl (.int m tk)
  rw [eh] at hperm ⊢
  rw [eL] at hperm ⊢
  dsimp only at hperm ⊢
  (rw [Array.toList_push] at hperm)
  have hel1:ElemsOf (intKind prog w) es1.toList:=(hel.push (k:=(m:Int)) hkey rfl).perm (by rw [eh]; exact hperm)
  have hp1:(es1.toList.map fun e=>vInt e.2).Perm (ns++[(m:Int)]):=by
   refine (hperm.map _).trans ?_
   rw [List.map_append]
   exact hp.append (.refl _)
  have hz1:es1.size=es.size+1:=by
   rw [← Array.length_toList,hperm.length_eq,List.length_append,Array.length_toList]
   rfl
  have hb1:es1.size < scanBound:=by unfold scanBound; omega
  have hsm1:∀ x∈ns++[(m:Int)],0≤x∧x < 97:=fun x hx=>by
   rcases (List.mem_append.mp hx) with hx | hx
   ·exact hsm x hx
   ·rw [List.mem_singleton.mp hx]; exact⟨h0,h97⟩
  have hhs:∀ e∈es1.toList,∃ k:Nat,k < 97∧e.1=k:=fun e he=>by
   obtain⟨⟨k',hk',hh'⟩,_⟩:=hel1 e he
   have hin:k'∈ns++[(m:Int)]:=hp1.mem_iff.mp (List.mem_map.mpr ⟨e,he,zbB hk'⟩)
   obtain⟨c0,c1⟩:=hsm1 k' hin
   obtain⟨q,rfl⟩:∃ q:Nat,k'=q:=⟨k'.toNat,by omega⟩
   exact⟨q,by omega,by rw [hh']; exact zcp q (by omega)⟩
  have hmm:t1.mask=7∧es.size+1≤5∨t1.mask=31∧es.size+1≤18:=by
   rw [m1]
   rcases P.m with ⟨a,b⟩ | ⟨a,b⟩
   ·exact .inl ⟨a,by omega⟩
   ·exact .inr ⟨a,by omega⟩
  obtain⟨nx1,nx2⟩:=Pb.next T1 p1 z1 i1 hmm
  have hsb:=fun t2=>Heap.SameBut.update s.heap a (Obj.putSet es1 t2)
  refine wpAny_bind (wpAny_pure ?_)
  rw [if_pos p1]
  refine wpAny_bind ?_
  rw [hashByValue_scannable 8 (x:=.int m tk) rfl]
  refine wpAny_pure ?_
  rw [show plainKind (.int (m:Int) tk)=true from rfl]
  simp only [↓reduceIte,Bool.not_false,Bool.true_and]
  (refine wpAny_bind (wpAny_storeSet_of ho hd ?_ (fits_of_scanBound hb1)))
  have ho1:=zcY (es':=es1) (t':=t1) ho hex hd
  by_cases hfl:t1.tooFull=true
  ·rw [if_pos hfl]
   have h5:=nx1 hfl
   obtain⟨es2,t3,e2,P2⟩:=Pb.relay (wanted:=SetTable.grown es1.size) T1 p1 hhs hz1 (by omega) (by rw [hz1,h5]; decide)
   have hpr:=relayAll_perm t1 es1 (SetTable.grown es1.size)
   rw [e2] at hpr ⊢
   dsimp only at hpr ⊢
   have hsz:es2.size=es1.size:=by rw [← Array.length_toList,hpr.length_eq,Array.length_toList]
   refine wpAny_bind (wpAny_pure ?_)
   refine wpAny_bind (wpAny_storeSet_of ho1 rfl ?_ (fits_of_scanBound (by omega)))
   have ho2:=zcY (es':=es2) (t':=t3) ho1 hex rfl
   exact wpAny_pure (wpAny_pure (h _ _ ((hsb t1).trans (Heap.SameBut.update _ a _)) ⟨_,es2,_,t3,ho2,hex,rfl,hel1.perm hpr,(hpr.map _).trans hp1,hsm1,by rw [hsz,hz1]; exact P2⟩))
  ·rw [if_neg hfl]
   exact wpAny_pure (wpAny_pure (h _ _ (hsb t1) ⟨_,es1,_,t1,ho1,hex,rfl,hel1,hp1,hsm1,by rw [hz1]; exact nx2 (by simpa using hfl)⟩))
end
end L2
end
section
set_option maxHeartbeats 3999000
namespace L2
open PySem PySem.Spec PyProof.Rows
section
variable {St:Nat→Shared→Prop} {prog:Program} {w:World} {A:Around} {R:Result→Shared→Prop} {I:Addr} {fp wr:List Addr} {G:Array GenState→Array GenState→Prop} {n:Nat} {P:Nat→Value→Prop}
theorem zb2.at {led:Bool} {h h':Heap} {a:Addr} {ns:List Int} (hS:zb2 prog w led h a ns) (e:∀ o,h.get? a=some o→h'.get? a=some o):zb2 prog w led h' a ns:=by
 (obtain⟨o,es,ep,t,ho,rest⟩:=hS)
 exact⟨o,es,ep,t,e o ho,rest⟩
theorem ze9 (W:WalksS prog w A.in1 I fp wr G n P St) (S:Addr) (hSf:S∉fp) (val:Nat→Int) (hval:∀ i v,P i v→∃ t,v = .int (val i) t) (hb:n≤17) (hv:∀ i,i < n→0≤val i∧val i < 97) {led:Bool} :
  ∀ (k i:Nat) (s:Shared),n - i=k→i≤n→St i s→zb2 prog w led s.heap S (firstMet val i) →
   (∀ s',Moved (S :: wr) G s s'→zb2 prog w led s'.heap S (firstMet val n)→R (.ok (.ret .none)) s')→codeAny (model prog w) A (.builtin "set.update.loop" ⟨[.ref S,.ref I],[]⟩) R s:=by
 (have hSw:S∉wr:=fun h=>hSf (W.sub _ h))
 (have hsub:∀ b∈wr,b∈S :: wr:=fun b hb=>List.mem_cons_of_mem _ hb)
 intro k
 induction k with
 | zero =>
  intro i s hk hi hst hS hR
  obtain rfl:i=n:=by omega
  refine codeAny_builtin PyProof.Rows.F.entry_set_update_loop ?_
  rw [Around.under_plainId PyProof.Rows.F.plain_set_update_loop _]
  (refine wpAny_bind (W.done s _ _ hst fun s' hm=>?_))
  exact wpAny_pure (hR s' (hm.mono hsub) (hS.at fun o e=>hm.heap S _ hSw e))
 | succ k ih =>
  intro i s hk hi hst hS hR
  have hlt:i < n:=by omega
  refine codeAny_builtin PyProof.Rows.F.entry_set_update_loop ?_
  rw [Around.under_plainId PyProof.Rows.F.plain_set_update_loop _]
  (refine wpAny_bind (W.item i s _ _ hlt hst fun v s' hP hst' hm=>?_))
  (obtain⟨t,rfl⟩:=hval i v hP)
  have hS':=hS.at (h':=s'.heap) fun o e=>hm.heap S _ hSw e
  (show wpAny _ A.in1 (holding [Value.int (val i) t] (setAdd S (.int (val i) t)) >>= _) _ _ s')
  (refine wpAny_bind (wpAny_holding ?_))
  unfold setAdd
  refine wpAny_holding (wpAny_bind ((intKind prog w).pyHash (k:=val i) (intKind_is _ _ _ _) ?_))
  have hroom:(firstMet val i).length+1≤18:=by have:=firstMet_length_le val i; omega
  refine zfX (s:={ s' with toks:=s'.toks+1 }) hS' hroom (hv i hlt).1 (hv i hlt).2 fun h' b hsb hS2=>?_
  rw [← firstMet_succ] at hS2
  refine wpAny_pure ⟨plainId_quiet PyProof.Rows.F.plain_set_update_loop _,ih (i+1) _ (by omega) hlt (W.frame _ s' _ _ hst' (Nat.le_succ _) fun b hb o e=>?_) hS2 fun s'' hm'' hS''=>?_⟩
  ·(rw [hsb.2 b (fun h:b=S=>hSf (by rw [← h]; exact hb))]; exact e)
  ·(refine hR s'' (Moved.trans W.gtrans ((hm.mono hsub).then_heap (Nat.le_succ _) fun b o hb e=>?_) hm'') hS'')
   (rw [hsb.2 b (fun h:b=S=>hb (by rw [h]; exact List.mem_cons_self))]; exact e)
end
def zT (w:World):Bool:=!w.params.followText "set-order"
def zbl (led:Bool):Obj:={ cls:=.type "set",dict:=none,data:=.set #[] 0 (.fresh 0 0 led) }
section
variable {prog:Program} {w:World} {A:Around} {E:Value→Shared→Prop} {s:Shared}
theorem zfY (a:Value) {Q₁:Value→Shared→Prop} (h:Q₁ (.ref s.heap.objs.size) { s with heap:=s.heap.push (zbl (zT w)) }):codeAny (model prog w) A (.call (.builtin "set.__new__") ⟨[.type "set",a],[]⟩) (wants Q₁ E) s:=by
 refine codeAny_of_tree ?_
 show wpAny _ A.in1 (checkBuiltinCall "set.__new__" ⟨[.type "set",a],[]⟩ >>= fun _=>again (.builtin "set.__new__" ⟨[.type "set",a],[]⟩)) _ _ s
 refine wpAny_bind (wpAny_of_eq (PySem.F.newCall_set_1 a) (wpAny_pure ⟨plainId_quiet PySem.F.plain_set_new _,codeAny_builtin PySem.F.entry_set_new ?_⟩))
 rw [Around.under_plainId PySem.F.plain_set_new _]
 (unfold Builtin.«set.__new__» Builtin.Frozenset.newClass)
 have hsub:=sub_set_self
 (obtain⟨hp,g,d,tk,os⟩:=s)
 dsimp only
 wp_walk
 (refine wpAny_askSetting (wpAny_pure ?_))
 dsimp only
 simp only [newObj]
 (refine wpAny_bind (wpAny_alloc (wpAny_pure ?_)))
 exact wpAny_pure h
theorem zed {h:Heap} {a:Addr} {led:Bool} (ho:h.get? a=some (zbl led)):zb2 prog w led h a [] :=
 ⟨_,#[],0,_,ho,⟨rfl,rfl,rfl⟩,rfl,fun e he=>by simp at he,.refl _,(fun n hn=>by cases hn),⟨.fresh _ _ _,rfl,rfl,(fun j hj=>by cases hj),.inl ⟨rfl,Nat.zero_le _⟩⟩⟩
theorem zie:isSubtype (.type "tuple") (.type "set")=pure false:=by rw [isSubtype_type]; kernel_rfl
theorem zif:isSubtype (.type "tuple") (.type "frozenset")=pure false:=by rw [isSubtype_type]; kernel_rfl
abbrev zeB (prog:Program) (w:World) (s:Shared) (ns:List Int) (n:Nat) (h':Heap):Prop :=
 zb2 prog w (zT w) h' s.heap.objs.size (firstMet (fun i=>ns.getD i 0) n)∧∀ b o,b < s.heap.objs.size→s.heap.get? b=some o→h'.get? b=some o
theorem zfa {l:Addr} {items:Array Value} {ns:List Int} {R:Result→Shared→Prop} (hh:A.handled=none) (hl:s.heap.IsTuple l items) (hi:IntsAre items.toList ns) (hb:items.size≤17) (hv:∀ n∈ns,0≤n∧n < 97)
  (h:∀ h' tk,zeB prog w s ns items.size h'→R (.ok (.ret .none)) { s with heap:=h',toks:=tk }) :
  wpAny (model prog w) A.in1 (Builtin.«set.__init__» ⟨[.ref s.heap.objs.size,.ref l],[]⟩) (fun fin s'=>match fin with | .done f=>R (.ok f) s' | .again c'=>c'.quiet=true∧codeAny (model prog w) A c' R s') (fun e s'=>R (.error e) s') { s with heap:=s.heap.push (zbl (zT w)) }:=by
 have hvs:∀ i,i < items.size→0≤ns.getD i 0∧ns.getD i 0 < 97:=fun i hi'=>by
  have hl':items.toList.length=ns.length:=IntsAre.length hi
  rw [Array.length_toList] at hl'
  have hin:i < ns.length:=by omega
  have e:ns.getD i 0=ns[i]:=by simp [List.getD_eq_getElem?_getD,List.getElem?_eq_getElem hin]
  rw [e]
  exact hv _ (List.getElem_mem hin)
 have hS:(s.heap.push (zbl (zT w))).get? s.heap.objs.size=some (zbl (zT w)):=Heap.get?_push_size _ rfl
 have hlt:l < s.heap.objs.size:=by obtain⟨o,ho,_⟩:=hl; exact Heap.lt_size ho
 have zz:(s.heap.push (zbl (zT w))).objs.size=s.heap.objs.size+1:=Heap.size_push ..
 have hl1:(s.heap.push (zbl (zT w))).IsTuple l items:=hl.push _
 have hT:Shared.TypeIs { s with heap:=s.heap.push (zbl (zT w)) } (.ref s.heap.objs.size) "set":=⟨_,hS,rfl⟩
 have q1:=zie
 have q2:=zif
 have q3:(Value.type "tuple" == Value.type "dict")=false:=by decide
 have hS2:=zed (prog:=prog) (w:=w) hS
 unfold zeB at h
 generalize zT w=led at *
 obtain⟨ol,hol,hcl,nl,hdl⟩:=id hl1
 (obtain⟨ocls,odict,odata,oslots⟩:=ol)
 simp only at hcl hdl
 subst hcl hdl
 unfold Builtin.«set.__init__» noKeywords Builtin.Frozenset.updateFrom zbl
 unfold zbl at hS hT hol hl1 zz hS2
 generalize hPI:pyIter=PI
 wp_walk
 subst hPI
 refine wpAny_pyIter_tuple hl1 (wpAny_bind (wpAny_runValue ?_))
 have z0:s.heap.objs.size≠s.heap.objs.size+1:=Nat.ne_of_lt (Nat.lt_succ_self _)
 refine ze9 (led:=led) ((Walks.tuple (show A.in1.in1.handled=none by simp [hh]) (s.heap.push (zbl led)).objs.size l (by rw [Heap.size_push]; exact Nat.ne_of_lt (Nat.lt_succ_of_lt hlt)) items).toS) s.heap.objs.size (by
   rw [Heap.size_push]
   intro m
   rcases (List.mem_cons.mp m) with e | e
   ·exact z0 e
   ·exact Nat.ne_of_gt hlt (List.mem_singleton.mp e)) (fun i=>ns.getD i 0) (fun i v hv=>IntsAre.int_at hi i v (by rw [Array.getElem?_toList]; exact hv)) hb (fun i hi'=>hvs i hi') (items.size - 0) 0 _ (by omega) (Nat.zero_le _) ⟨⟨_,Heap.get?_push_size _ rfl,rfl,rfl⟩,hl1.push _⟩
  (hS2.at fun o e=>Heap.get?_push_of_some _ e) fun s' hm hS'=>?_
 (obtain⟨h',g',d',tk',os'⟩:=s')
 obtain rfl:g'=s.gens:=hm.gens
 obtain rfl:d'=s.drawn:=hm.drawn
 obtain rfl:os'=s.os:=hm.os
 refine wpAny_pure ?_
 (show wpAny _ _ (ret Value.none) _ _ _)
 refine wpAny_pure (h h' tk' ⟨hS',fun b o hb' e=>?_⟩)
 refine hm.heap b o ?_ (Heap.get?_push_of_some _ (Heap.get?_push_of_some _ e))
 intro m
 rcases (List.mem_cons.mp m) with e | e
 ·exact Nat.ne_of_lt hb' e
 ·have e:=List.mem_singleton.mp e
  rw [Heap.size_push] at e
  exact Nat.ne_of_lt (Nat.lt_succ_of_lt hb') e
theorem zcZ {l:Addr} {items:Array Value} {ns:List Int} {Q:Value→Shared→Prop} (hh:A.handled=none) (hl:s.heap.IsTuple l items) (hi:IntsAre items.toList ns) (hb:items.size≤17) (hv:∀ n∈ns,0≤n∧n < 97)
  (h:∀ h' tk,zeB prog w s ns items.size h'→Q (.ref s.heap.objs.size) { s with heap:=h',toks:=tk }):wpAny (model prog w) A (call (.type "set") [.ref l]) Q E s:=by
 have ft:=PySem.F.called_set
 (obtain⟨c,tl,hmro⟩:=ft.mro)
 have p1:=ft.made
 have p2:=ft.sub
 have p3:=ft.notType
 have p4:=ft.canCreate
 have p5:=PySem.F.typeCall_set_1 (.ref l)
 refine wpAny_call (codeAny_of_tree ?_); show wpAny _ _ (callAny (.type "set") _) _ _ _
 refine wpAny_pure ⟨Code.quiet_builtin _ (by decide +kernel),codeAny_builtin PySem.F.entry_type_call ?_⟩; rw [Around.under_plain (weight_type_call_type "set" [.ref l] []) rfl]; repeat (any_goals (first | assumption | wp_step))
 refine codeAny_mono (zfY (.ref l) (E:=E) (Q₁:=fun obj s₁=>obj = .ref s.heap.objs.size∧s₁ = { s with heap:=s.heap.push (zbl (zT w)) }) ⟨rfl,rfl⟩) fun r s₁ hr=>?_
 cases r with
 | error e=>exact hr
 | ok fl =>
  cases fl with
  | ret obj =>
   obtain⟨rfl,rfl⟩:=hr
   have hS:(s.heap.push (zbl (zT w))).get? s.heap.objs.size=some (zbl (zT w)):=Heap.get?_push_size _ rfl
   have hT:Shared.TypeIs { s with heap:=s.heap.push (zbl (zT w)) } (.ref s.heap.objs.size) "set":=⟨_,hS,rfl⟩
   have p6:=ft.init.lookup
   have p7:=ft.init.bind (.ref s.heap.objs.size); repeat (any_goals (first | assumption | wp_step))
   refine codeAny_mono (codeAny_call_builtin (R:=wants (fun r s₂=>r = .none∧∃ h' tk,s₂ = { s with heap:=h',toks:=tk }∧zeB prog w s ns items.size h') E) ft.init.plain PySem.F.entry_set_init (check_set_init_1 hT (zfa (A:=A.in1) (by simp [hh]) hl hi hb hv fun h' tk fl=>⟨rfl,h',tk,rfl,fl⟩))) fun r₂ s₂ hr₂=>?_
   cases r₂ with
   | error e=>exact hr₂
   | ok fl₂ =>
    cases fl₂ with
    | ret r =>
     obtain⟨rfl,h',tk,rfl,fl⟩:=hr₂; repeat (any_goals (first | assumption | wp_step))
     exact h _ _ fl
    | _=>exact hr₂.elim
  | _=>exact hr.elim
end
end L2
end
section
set_option maxHeartbeats 3999000
namespace L2
open PySem PySem.Spec PyProof.Rows
theorem erase_perm {α:Type}:∀ {l:List α} {i:Nat} (h:i < l.length),(l[i] :: l.eraseIdx i).Perm l
 | [],i,h=>by simp at h
 | a :: l,0,h=>by simp
 | a :: l,i+1,h=>by
  have:=erase_perm (l:=l) (i:=i) (by simpa using h)
  simp only [List.getElem_cons_succ,List.eraseIdx_cons_succ]
  exact (List.Perm.swap _ _ _).trans (this.cons a)
theorem zeC {α:Type} {next:Nat→Nat}:∀ (fuel k:Nat) (left:List α) (out:Array α),left.length≤fuel→(pickOrder.go next fuel k left out).toList.Perm (out.toList++left)
 | 0,k,left,out,h=>by
  have:left = []:=List.length_eq_zero_iff.mp (by omega)
  subst this
  simp [pickOrder.go]
 | fuel+1,k,left,out,h=>by
  rw [pickOrder.go]
  split
  ·next x hx =>
   have hi:next k % left.length < left.length:=by
    rcases Nat.lt_or_ge (next k % left.length) left.length with h' | h'
    ·exact h'
    ·rw [List.getElem?_eq_none h'] at hx; cases hx
   have e:left[next k % left.length]=x:=by rw [List.getElem?_eq_getElem hi] at hx; injection hx
   refine (zeC fuel (k+1) _ _ (by rw [List.length_eraseIdx_of_lt hi]; omega)).trans ?_
   rw [Array.toList_push,List.append_assoc]
   (refine List.Perm.append_left _ ?_)
   rw [List.singleton_append,← e]
   exact erase_perm hi
  ·next hx =>
   have:left = []:=by
    cases left with
    | nil=>rfl
    | cons a l=>rw [List.getElem?_eq_getElem (Nat.mod_lt _ (by simp))] at hx; cases hx
   subst this
   simp
theorem zfb {α:Type} (next:Nat→Nat) (xs:Array α):(pickOrder next xs).toList.Perm xs.toList:=by
 have:=zeC (next:=next) xs.size 0 xs.toList #[] (by simp)
 simpa [pickOrder] using this
def zaj (w:World) (a:Addr) (ep:Nat) (es:Array (Int×Value)):Array (Int×Value):=if zT w=true then es else pickOrder (w.params.setOrder a ep) es
theorem zaD (w:World) (a:Addr) (ep:Nat) (es:Array (Int×Value)):(zaj w a ep es).toList.Perm es.toList:=by
 unfold zaj
 split
 ·exact .refl _
 ·exact zfb _ _
def slotAt (w:World) (t:SetTable) (i:Nat):Nat:=if zT w=true then (if i=0 then 0 else t.place.getD (i - 1) 0+1) else 0
section
variable {prog:Program} {w:World} {A:Around} {E:Value→Shared→Prop} {s:Shared}
theorem zbm {Q:Bool→Shared→Prop} (h:Q (!zT w) s):wpAny (model prog w) A setsByText Q E s:=by
 unfold setsByText
 refine wpAny_bind (wpAny_askSetting (wpAny_pure ?_))
 unfold zT at h
 rw [Bool.not_not] at h
 exact h
theorem zdC {a:Addr} {o:Obj} {es:Array (Int×Value)} {ep i:Nat} {t:SetTable} {Q:Option (Value×Nat)→Shared→Prop} (ho:s.heap.get? a=some o) (hd:o.data = .set es ep t) (P:Pb (zT w) t es.size) (hi:i≤es.size)
  (h:Q (((zaj w a ep es)[i]?).map fun e=>(e.2,slotAt w t (i+1))) s):wpAny (model prog w) A (setNext a (slotAt w t i) i ep) Q E s:=by
 have hf:=P.fits
 unfold setNext
 (refine wpAny_bind (wpAny_setState_of ho hd hf ?_))
 dsimp only
 refine wpAny_bind (zbm ?_)
 cases hl:zT w with
 | false =>
  rw [Bool.not_false,if_pos rfl]
  rw [if_neg (by simp)]
  have e1:zaj w a ep es=pickOrder (w.params.setOrder a ep) es:=by unfold zaj; rw [hl]; rfl
  have e2:∀ j,slotAt w t j=0:=fun j=>by unfold slotAt; rw [hl]; rfl
  rw [e1,e2] at h
  rw [e2]
  refine wpAny_bind ?_
  unfold setWalk
  (refine wpAny_bind (wpAny_setState_of ho hd hf ?_))
  dsimp only
  refine wpAny_bind (zbm ?_)
  rw [hl,Bool.not_false,if_pos rfl]
  refine wpAny_bind (wpAny_askSetting (wpAny_pure ?_))
  exact wpAny_pure h
 | true =>
  rw [Bool.not_true,if_neg (by simp)]
  have e1:zaj w a ep es=es:=by unfold zaj; rw [hl]; rfl
  have hbl:SetTable.below t.place (slotAt w t i)=i:=by
   unfold slotAt
   rw [hl,if_pos rfl]
   by_cases h0:i=0
   ·rw [if_pos h0,h0]; exact zea P.b.r
   ·rw [if_neg h0]
    have hlt:i - 1 < t.place.size:=by rw [P.z]; omega
    have:t.place.getD (i - 1) 0=t.place[i - 1]:=by simp [Array.getD,hlt]
    rw [this,zd9 P.b.r hlt]
    omega
  have h2:slotAt w t (i+1)=t.place.getD i 0+1:=by unfold slotAt; rw [hl]; rfl
  rw [e1,h2] at h
  split
  ·next hdr =>
   exfalso
   have hdr:(!t.plain && decide (es.size > 1))=true:=hdr
   rw [P.p] at hdr
   simp at hdr
  ·refine wpAny_bind ?_
   show wpAny _ _ (if (!t.led && !es.isEmpty)=true then _ else _) _ _ _
   rw [P.b.l,hl]
   rw [if_neg (by simp)]
   refine wpAny_pure ?_
   rw [hbl]
   by_cases hlt:i < es.size
   ·have hz:i < t.place.size:=by rw [P.z]; exact hlt
    rw [Array.getElem?_eq_getElem hlt,Array.getElem?_eq_getElem hz]
    rw [Array.getElem?_eq_getElem hlt] at h
    have:t.place.getD i 0=t.place[i]:=by simp [Array.getD,hz]
    rw [this] at h
    exact wpAny_pure h
   ·rw [Array.getElem?_eq_none (by omega)] at h ⊢
    exact wpAny_pure h
end
end L2
end
section
set_option maxHeartbeats 3999000
namespace L2
open PySem PySem.Spec PyProof.Rows
theorem zaa:Slot "set_iterator" "__next__" "set_iterator.__next__" :=
 .of (owner:="set_iterator") (n:="__next__") (by rw [typeLookup_type,builtinLookup_eq_fast]; kernel_rfl) (by decide +kernel) (by decide +kernel) (by decide +kernel) (by first | exact .inl (by decide +kernel) | exact .inr (by decide +kernel)) (by rw [isSubtype_type]; kernel_rfl)
theorem zbC:Slot "set_iterator" "__iter__" "set_iterator.__iter__" :=
 .of (owner:="set_iterator") (n:="__iter__") (by rw [typeLookup_type,builtinLookup_eq_fast]; kernel_rfl) (by decide +kernel) (by decide +kernel) (by decide +kernel) (by first | exact .inl (by decide +kernel) | exact .inr (by decide +kernel)) (by rw [isSubtype_type]; kernel_rfl)
theorem zbi:entryFor table "set_iterator.__next__" = some Builtin.«set_iterator.__next__»:=entryFor_of_fast (by kernel_rfl)
theorem zcE:entryFor table "set_iterator.__iter__" = some Builtin.«dict_keyiterator.__iter__»:=entryFor_alias (id':="dict_keyiterator.__iter__") (by kernel_rfl) rfl (by decide +kernel) (by kernel_rfl)
theorem zcq:entryFor table "set.__iter__" = some Builtin.«frozenset.__iter__»:=entryFor_alias (id':="frozenset.__iter__") (by kernel_rfl) rfl (by decide +kernel) (by kernel_rfl)
theorem zbD (a:Value):argsOk "set_iterator.__next__" ⟨[a],[]⟩:=by unfold argsOk; kernel_rfl
theorem zdg (a:Value):argsOk "set_iterator.__iter__" ⟨[a],[]⟩:=by unfold argsOk; kernel_rfl
def SIt (h:Heap) (it a:Addr) (sl i n ep:Nat):Prop:=∃ o,h.get? it=some o∧o.cls = .type "set_iterator"∧o.data = .fields #[rawInt sl,rawInt i,.ref a,rawInt n,rawInt ep]
section
variable {prog:Program} {w:World} {A:Around} {E:Value→Shared→Prop} {s:Shared}
theorem SIt.typeIs {it a:Addr} {sl i n ep:Nat} (h:SIt s.heap it a sl i n ep):s.TypeIs (.ref it) "set_iterator":=let ⟨o,ho,hc,_⟩:=h; ⟨o,ho,hc⟩
theorem zgC {it a:Addr} {sl i n ep:Nat} {Q:Value→Shared→Prop} (hit:SIt s.heap it a sl i n ep) (h:Q (.ref it) s):wpAny (model prog w) A (pyIter (.ref it)) Q E s:=by
 refine wpAny_pyIter_slot hit.typeIs zbC (wpAny_call_entry zbC hit.typeIs zcE ?_ (zdg _))
 (show wpAny _ _ (ret (.ref it)) _ _ s)
 exact wpAny_pure ⟨_,rfl,"set_iterator",_,hit.typeIs,zaa.lookup,h⟩
theorem zfZ {a:Addr} {o:Obj} {es:Array (Int×Value)} {ep:Nat} {t:SetTable} {Q:Value→Shared→Prop} (ho:s.heap.get? a=some o) (hex:o.ExactSet) (hd:o.data = .set es ep t) (P:Pb (zT w) t es.size)
  (h:Q (.ref s.heap.objs.size) { s with heap:=s.heap.push { cls:=.type "set_iterator",data:=.fields #[rawInt 0,rawInt 0,.ref a,rawInt es.size,rawInt ep] } }):wpAny (model prog w) A (pyIter (.ref a)) Q E s:=by
 have hf:=P.fits
 (have hT:s.TypeIs (.ref a) "set":=⟨o,ho,hex.1⟩)
 refine wpAny_pyIter_slot hT F.slot_set_iter (wpAny_call_entry F.slot_set_iter hT zcq ?_ (F.args_set_iter_1 _))
 unfold Builtin.«frozenset.__iter__» Builtin.Frozenset.slot0 slotArgs
 (simp only [List.isEmpty_nil,Bool.not_true,Bool.false_eq_true,↓reduceIte,bind_assoc,List.length_nil,bne_self_eq_false])
 (unfold Builtin.Frozenset.addrOf Builtin.Frozenset.sizeOf)
 refine wpAny_bind (wpAny_pure ?_)
 try dsimp only
 refine wpAny_bind (wpAny_pure ?_)
 (refine wpAny_bind (wpAny_bind (wpAny_setEntries_of ho hd hf (wpAny_pure ?_))))
 unfold setDrawn
 refine wpAny_bind (wpAny_bind (wpAny_setState_of ho hd hf ?_))
 dsimp only
 refine wpAny_bind (zbm (wpAny_pure ?_))
 split
 ·next hdr =>
  exfalso
  have hdr:(!!zT w && (!t.plain && decide (es.size > 1)))=true:=hdr
  rw [P.p] at hdr
  simp at hdr
 ·exact wpAny_bind (wpAny_pure (wpAny_bind (wpAny_setEpoch_of ho hd hf (wpAny_bind (wpAny_newObj_type (wpAny_pure ⟨_,rfl,"set_iterator",_,⟨_,Heap.get?_push_size _ rfl,rfl⟩,zaa.lookup,h⟩))))))
theorem next_item {it a:Addr} {o:Obj} {es:Array (Int×Value)} {ep i:Nat} {t:SetTable} {x:Int×Value} {Q:Option Value→Shared→Prop} (hit:SIt s.heap it a (slotAt w t i) i es.size ep) (hne:a≠it)
  (ho:s.heap.get? a=some o) (hd:o.data = .set es ep t) (P:Pb (zT w) t es.size) (hx:(zaj w a ep es)[i]? = some x)
  (hQ:∀ h',SIt h' it a (slotAt w t (i+1)) (i+1) es.size ep→Heap.SameBut it s.heap h'→Q (some x.2) { s with heap:=h' }):wpAny (model prog w) A (pyNext (.ref it)) Q E s:=by
 have hf:=P.fits
 have hi:i≤es.size:=by
  have h1:(zaj w a ep es).size=es.size:=by rw [← Array.length_toList,(zaD w a ep es).length_eq,Array.length_toList]
  rcases (Nat.lt_or_ge i es.size) with h | h
  ·omega
  ·rw [Array.getElem?_eq_none (by omega)] at hx; cases hx
 obtain⟨oi,hoi,hci,hdi⟩:=id hit
 unfold pyNext
 refine wpAny_bind (wpAny_attempt (wpAny_callSpecial?_slot (name:=Str.ofString "__next__") hit.typeIs zaa (wpAny_call_entry zaa hit.typeIs zbi ?_ (zbD _))))
 unfold Builtin.«set_iterator.__next__» slotArgs
 (simp only [List.isEmpty_nil,Bool.not_true,Bool.false_eq_true,↓reduceIte,bind_assoc,List.length_nil,bne_self_eq_false])
 refine wpAny_bind (wpAny_pure ?_)
 refine wpAny_bind (wpAny_fieldsOf hoi hdi ?_)
 dsimp only [rawInt]
 refine wpAny_bind (wpAny_setEntries_of ho hd hf ?_)
 rw [if_neg (by simp)]
 refine wpAny_bind ?_
 simp only [Int.toNat_natCast]
 refine zdC ho hd P hi ?_
 rw [hx]
 show wpAny _ _ (setField (Value.ref it) 0 (Value.int (slotAt w t (i+1):Nat) 0) >>= fun _=>setField (Value.ref it) 1 (Value.int ((i:Int)+1) 0) >>= fun _=>ret x.2) _ _ s
 refine wpAny_bind (wpAny_setField hoi hdi (by simp) ?_)
 have g1:=Heap.get?_update_self (Obj.mapFields (·.setIfInBounds 0 (Value.int (slotAt w t (i+1):Nat) 0))) hoi (Obj.isFreed_of_fields (Obj.data_mapFields hdi _))
 have d1:=Obj.data_mapFields hdi (·.setIfInBounds 0 (Value.int (slotAt w t (i+1):Nat) 0))
 refine wpAny_bind (wpAny_setField g1 d1 (by simp) ?_)
 have g2:=Heap.get?_update_self (Obj.mapFields (·.setIfInBounds 1 (Value.int ((i:Int)+1) 0))) g1 (Obj.isFreed_of_fields (Obj.data_mapFields d1 _))
 refine wpAny_pure ⟨x.2,rfl,wpAny_pure (hQ _ ⟨_,g2,?_,?_⟩ ((Heap.SameBut.update ..).trans (Heap.SameBut.update ..)))⟩
 ·exact (Obj.cls_mapFields ..).trans ((Obj.cls_mapFields ..).trans hci)
 ·rw [Obj.data_mapFields d1]
  simp [rawInt]
theorem next_end {it a:Addr} {o:Obj} {es:Array (Int×Value)} {ep:Nat} {t:SetTable} {Q:Option Value→Shared→Prop} (hh:A.handled=none) (hit:SIt s.heap it a (slotAt w t es.size) es.size es.size ep)
  (ho:s.heap.get? a=some o) (hd:o.data = .set es ep t) (P:Pb (zT w) t es.size) (hQ:∀ h',Heap.ExtBut it s.heap h'→Q none { s with heap:=h' }):wpAny (model prog w) A (pyNext (.ref it)) Q E s:=by
 have hf:=P.fits
 have hx:(zaj w a ep es)[es.size]? = none:=Array.getElem?_eq_none (by rw [← Array.length_toList,(zaD w a ep es).length_eq,Array.length_toList]; omega)
 obtain⟨oi,hoi,hci,hdi⟩:=id hit
 unfold pyNext
 refine wpAny_bind (wpAny_attempt (wpAny_callSpecial?_slot (name:=Str.ofString "__next__") hit.typeIs zaa (wpAny_call_entry zaa hit.typeIs zbi ?_ (zbD _))))
 unfold Builtin.«set_iterator.__next__» slotArgs
 (simp only [List.isEmpty_nil,Bool.not_true,Bool.false_eq_true,↓reduceIte,bind_assoc,List.length_nil,bne_self_eq_false])
 refine wpAny_bind (wpAny_pure ?_)
 refine wpAny_bind (wpAny_fieldsOf hoi hdi ?_)
 dsimp only [rawInt]
 refine wpAny_bind (wpAny_setEntries_of ho hd hf ?_)
 rw [if_neg (by simp)]
 refine wpAny_bind ?_
 simp only [Int.toNat_natCast]
 refine zdC ho hd P (Nat.le_refl _) ?_
 rw [hx]
 show wpAny _ _ (setField (Value.ref it) 2 Value.none >>= fun _=>newExc (.type "StopIteration") [] >>= fun e=>raiseNew e) _ _ s
 refine wpAny_bind (wpAny_setField hoi hdi (by simp) ?_)
 refine wpAny_bind ?_
 simp only [newExc,newTuple]
 (refine wpAny_bind (wpAny_newObj_type ?_ (by size_fits)))
 (refine wpAny_bind (m:=firstArgMember _ _) (wpAny_of_eq (a:=Value.none) (by first | rfl | (simp only [firstArgMember]; rfl)) ?_))
 (refine wpAny_newObj_type ?_ (by size_fits))
 simp only [raiseNew]
 (refine wpAny_bind (wpAny_handled ?_))
 (rw [show A.in1.handled=none from hh])
 (refine wpAny_bind (wpAny_pure (wpAny_throw ?_)))
 (refine wpAny_bind (wpAny_isInstance (T:="StopIteration") (b:=true) ⟨_,Heap.get?_push_size _ rfl,rfl⟩ isSubtype_stop ?_))
 (exact wpAny_pure (hQ _ (((Heap.SameBut.update ..).extBut.push _).push _)))
theorem SIt.at {h h':Heap} {it a:Addr} {sl i n ep:Nat} (x:SIt h it a sl i n ep) (e:∀ o,h.get? it=some o→h'.get? it=some o):SIt h' it a sl i n ep:=let ⟨o,ho,r⟩:=x; ⟨o,e _ ho,r⟩
theorem zfc (hh:A.handled=none) (I a:Addr) (hne:a≠I) {o:Obj} {es:Array (Int×Value)} {ep:Nat} {t:SetTable} (hd:o.data = .set es ep t) (P:Pb (zT w) t es.size) :
  Walks prog w A I [I,a] [I] es.size (fun i v=>((zaj w a ep es)[i]?).map (·.2)=some v) (fun i h=>SIt h I a (slotAt w t i) i es.size ep∧h.get? a=some o) where
 sub:=(fun b hb=>by simp at hb; simp [hb])
 frame:=fun _ _ _ st hk=>⟨st.1.at fun o e=>hk I (by simp) o e,hk a (by simp) o st.2⟩; item:=fun i s Q E hi st hQ=>by
  have h1:(zaj w a ep es).size=es.size:=by rw [← Array.length_toList,(zaD w a ep es).length_eq,Array.length_toList]
  have hx:(zaj w a ep es)[i]? = some ((zaj w a ep es)[i]'(by omega)):=Array.getElem?_eq_getElem (by omega)
  refine next_item st.1 hne st.2 hd P hx fun h' hit' hs'=>?_
  refine hQ _ h' s.toks (by rw [hx]; rfl) ⟨hit',hs'.extBut a o hne st.2⟩ fun b o hb e=>hs'.extBut b o (fun h=>hb (by simp [h])) e
 done:=fun s Q E st hQ=>next_end hh st.1 st.2 hd P fun h' he'=>hQ h' s.toks fun b o hb e=>he' b o (fun h=>hb (by simp [h])) e
 self:=fun _ _ _ _ st hQ=>zgC st.1 hQ
end
end L2
end
section
set_option maxHeartbeats 3999000
namespace L2
open PySem PySem.Spec PyProof.Rows
section
variable {prog:Program} {w:World} {A:Around} {E:Value→Shared→Prop} {s:Shared}
theorem zfd {ord:Array (Int×Value)} {acc:Array Value} (h:ItemsOf (fun i v=>(ord[i]?).map (·.2)=some v) acc ord.size):acc.toList=ord.toList.map (·.2):=by
 refine List.ext_getElem? fun i=>?_
 rw [List.getElem?_map,Array.getElem?_toList,Array.getElem?_toList]
 by_cases hi:i < acc.size
 ·rw [h.2 i _ (Array.getElem?_eq_getElem hi),Array.getElem?_eq_getElem hi]
 ·rw [Array.getElem?_eq_none (by omega),Array.getElem?_eq_none (by have:=h.1; omega)]
  rfl
theorem zdD {a:Addr} {o:Obj} {es:Array (Int×Value)} {ep:Nat} {t:SetTable} {Q:List Value→Shared→Prop} (hh:A.handled=none) (ho:s.heap.get? a=some o) (hex:o.ExactSet) (hd:o.data = .set es ep t) (P:Pb (zT w) t es.size)
  (hQ:∀ h' tk,(∀ b o,s.heap.get? b=some o→h'.get? b=some o)→Q ((zaj w a ep es).toList.map (·.2)) { s with heap:=h',toks:=tk }):wpAny (model prog w) A (collect (.ref a)) Q E s:=by
 have hsz:es.size≤18:=by have:=P.m; omega
 have hordz:(zaj w a ep es).size=es.size:=by rw [← Array.length_toList,(zaD w a ep es).length_eq,Array.length_toList]
 have hlt:=Heap.lt_size ho
 unfold collect
 (refine wpAny_bind (wpAny_runValue (codeAny_builtin F.entry_proto_collect ?_)))
 (rw [Around.under_plainId F.plain_proto_collect _])
 show wpAny _ A.in1 (newList [] >>= fun l=>again (.builtin "list.__iadd__" ⟨[l,.ref a],[]⟩)) _ _ s
 (refine wpAny_bind (wpAny_newObj_type ?_))
 (refine wpAny_pure ⟨plainId_quiet F.plain_list_iadd _,codeAny_builtin F.entry_list_iadd ?_⟩)
 (rw [Around.under_plainId F.plain_list_iadd _])
 show wpAny _ A.in1 (Builtin.List.listExtendWith (.ref s.heap.objs.size) (.ref a) (.ref s.heap.objs.size)) _ _ _
 (unfold Builtin.List.listExtendWith)
 generalize hH:s.heap.push { cls:=.type "list",data:=.seq ([]:List Value).toArray }=H
 (have hHs:H.objs.size=s.heap.objs.size+1:=by rw [← hH,Heap.size_push])
 have ho1:H.get? a=some o:=hH ▸ Heap.get?_push_of_some _ ho
 have hS:H.get? s.heap.objs.size=some { cls:=.type "list",data:=.seq ([]:List Value).toArray }:=hH ▸ Heap.get?_push_size _ rfl
 refine wpAny_bind (wpAny_typeOf (T:="set") ⟨o,ho1,hex.1⟩ ?_)
 have h1:Builtin.List.listSameRef (.ref s.heap.objs.size) (.ref a)=false:=by
  unfold Builtin.List.listSameRef
  simpa using Nat.ne_of_gt hlt
 have h2:(Value.type "set" == Value.type "list")=false:=by decide
 have h3:(Value.type "set" == Value.type "tuple")=false:=by decide
 (simp only [h1,h2,h3,Bool.or_false,Bool.false_eq_true,if_false])
 refine wpAny_bind (zfZ ho1 hex hd P ?_)
 (refine wpAny_bind (wpAny_holding ?_))
 generalize hG:H.push { cls:=.type "set_iterator",data:=.fields #[rawInt 0,rawInt 0,.ref a,rawInt es.size,rawInt ep] }=G
 have ho2:G.get? a=some o:=hG ▸ Heap.get?_push_of_some _ ho1
 have hS2:G.get? s.heap.objs.size=some { cls:=.type "list",data:=.seq ([]:List Value).toArray }:=hG ▸ Heap.get?_push_of_some _ hS
 have hI2:G.get? H.objs.size=some { cls:=.type "set_iterator",data:=.fields #[rawInt 0,rawInt 0,.ref a,rawInt es.size,rawInt ep] }:=hG ▸ Heap.get?_push_size _ rfl
 (unfold Builtin.List.listLengthHint)
 refine wpAny_bind (wpAny_specialOf (T:="set") ⟨o,ho2,hex.1⟩ F.slot_set_len.lookup ?_)
 wp_delta
 refine wpAny_bind (wpAny_isInstance (T:="set") (b:=true) ⟨o,ho2,hex.1⟩ (by rw [isSubtype_type]; kernel_rfl) ?_)
 show wpAny _ A.in1 (typeOf (Value.ref a) >>= _) _ _ _
 refine wpAny_bind (wpAny_typeOf (T:="set") ⟨o,ho2,hex.1⟩ ?_)
 refine wpAny_pure ?_
 rw [if_pos (by decide)]
 refine wpAny_bind (wpAny_rule ?_)
 refine wpAny_bind ?_
 (show wpAny _ A.in1 (updateSeq s.heap.objs.size (·.push .none) >>= fun _=>updateSeq s.heap.objs.size (·.pop)) _ _ _)
 refine wpAny_bind (wpAny_updateSeq hS2 rfl ?_)
 have hS3:=Heap.get?_update_self (Obj.mapSeq (·.push Value.none)) hS2 rfl
 refine wpAny_updateSeq hS3 rfl ?_
 have hS4:=Heap.get?_update_self (Obj.mapSeq (·.pop)) hS3 rfl
 have oth:∀ b o,b≠s.heap.objs.size→G.get? b=some o→((G.update s.heap.objs.size (Obj.mapSeq (·.push Value.none))).update s.heap.objs.size (Obj.mapSeq (·.pop))).get? b=some o :=
  fun b o hb e=>(Heap.get?_update_other _ _ (Ne.symm hb)).trans ((Heap.get?_update_other _ _ (Ne.symm hb)).trans e)
 have hneI:H.objs.size≠s.heap.objs.size:=by rw [hHs]; exact Nat.succ_ne_self _
 have hSf:s.heap.objs.size∉[H.objs.size,a]:=fun hm=>by
  rcases List.mem_cons.mp hm with e | e
  ·exact hneI e.symm
  ·exact Nat.ne_of_gt hlt (List.mem_singleton.mp e)
 have h0:slotAt w t 0=0:=by unfold slotAt; split <;> rfl
 refine wpAny_pure ⟨plainId_quiet F.plain_extend_loop _,codeAny_extend_loopS ((zfc (prog:=prog) (A:=A.in1) (by simp [hh]) H.objs.size a (by rw [hHs]; exact Nat.ne_of_lt (Nat.lt_succ_of_lt hlt)) hd P).toS) (Nat.le_trans hsz (by rw [show sizeLine=16777216 from rfl]; decide)) _ hSf _ es.size 0 _ _ _ rfl (Nat.zero_le _)
  ⟨⟨_,oth _ _ hneI hI2,rfl,by rw [h0]; rfl⟩,oth a o (Nat.ne_of_lt hlt) ho2⟩ hS4 (ItemsOf.nil _) fun s' acc' c' hm hS' hacc=>?_⟩
 (show wpAny _ A (load s.heap.objs.size >>= _) _ _ s')
 (refine wpAny_bind (wpAny_load hS' ?_))
 (obtain⟨h',g',d',tk',os'⟩:=s')
 obtain rfl:g'=s.gens:=hm.gens
 obtain rfl:d'=s.drawn:=hm.drawn
 obtain rfl:os'=s.os:=hm.os
 show wpAny _ A (pure acc'.toList) _ _ _
 rw [zfd (ord:=zaj w a ep es) (by rw [hordz]; exact hacc)]
 refine wpAny_pure (hQ h' tk' fun b ob e=>?_)
 have hb:=Heap.lt_size e
 refine hm.heap b ob (fun hm'=>?_) (oth b ob (Nat.ne_of_lt hb) (hG ▸ Heap.get?_push_of_some _ (hH ▸ Heap.get?_push_of_some _ e)))
 rcases List.mem_cons.mp hm' with e' | e'
 ·exact Nat.ne_of_lt hb e'
 ·rw [List.mem_singleton.mp e',hHs] at hb
  exact absurd hb (Nat.not_lt.mpr (Nat.le_succ _))
end
end L2
end
section
set_option maxHeartbeats 3995000
namespace Srt
open PySem PyProof.Rows
def Vk (val:Keyed→Int) (xs:Array Keyed) (i:Nat):Int:=match xs[i]? with
 | some p=>val p
 | none=>0
theorem zB {val:Keyed→Int} {xs ys:Array Keyed} {i j:Nat} (h:xs[i]? = ys[j]?):Vk val xs i=Vk val ys j:=by unfold Vk; rw [h]
theorem zq {val:Keyed→Int} {xs:Array Keyed} {i:Nat} {p:Keyed} (h:xs[i]? = some p):Vk val xs i=val p:=by unfold Vk; rw [h]
def SIn (val:Keyed→Int) (xs:Array Keyed) (lo hi:Nat):Prop:=∀ i j,lo≤i→i≤j→j < hi→Vk val xs i≤Vk val xs j
def DIn (val:Keyed→Int) (xs:Array Keyed) (lo hi:Nat):Prop:=∀ i j,lo≤i→i≤j→j < hi→Vk val xs j≤Vk val xs i
structure SB (κ:SortKind) (a₀:Array Keyed) (st:SortSt):Prop where
 perm:(arrOf st).Perm a₀
 kind:kindOf st=κ
 failed:failedOf st=none
theorem SB.size {κ:SortKind} {a₀:Array Keyed} {st:SortSt} (h:SB κ a₀ st):(arrOf st).size=a₀.size:=h.perm.size_eq
theorem SB.mem {κ:SortKind} {a₀:Array Keyed} {st:SortSt} (h:SB κ a₀ st) {i:Nat} (hi:i < a₀.size):∃ p,(arrOf st)[i]? = some p∧p∈a₀.toList:=by
 (have hi':i < (arrOf st).size:=by rw [h.size]; exact hi)
 exact⟨(arrOf st)[i],getElem?_pos _ i hi',(Array.perm_iff_toList_perm.mp h.perm).mem_iff.mp (by simp)⟩
structure SF (κ:SortKind) (a₀:Array Keyed) (lo:Nat) (st₀ st:SortSt):Prop where
 b:SB κ a₀ st
 low:∀ k,k < lo→(arrOf st)[k]? = (arrOf st₀)[k]?
 pend:pendingOf st=pendingOf st₀
theorem SF.refl {κ:SortKind} {a₀:Array Keyed} {lo:Nat} {st:SortSt} (h:SB κ a₀ st):SF κ a₀ lo st st:=⟨h,fun _ _=>rfl,rfl⟩
theorem SF.setArr {κ:SortKind} {a₀:Array Keyed} {lo:Nat} {st₀ st:SortSt} (h:SF κ a₀ lo st₀ st) {xs:Array Keyed} (hp:xs.Perm (arrOf st)) (hl:∀ k,k < lo→xs[k]? = (arrOf st)[k]?):SF κ a₀ lo st₀ (setArr st xs) :=
 ⟨⟨hp.trans h.b.perm,h.b.kind,h.b.failed⟩,fun k hk=>(hl k hk).trans (h.low k hk),h.pend⟩
section
variable {prog:Program} {w:World} {A:Around} {E:Value→Shared→Prop} {s:Shared} {a₀:Array Keyed} {κ:SortKind} {val:Keyed→Int}
def Cmp (prog:Program) (w:World) (A:Around) (s:Shared) (κ:SortKind) (val:Keyed→Int) (a₀:Array Keyed):Prop :=
 ∀ x y,x∈a₀.toList→y∈a₀.toList→∀ (Q:Bool→Shared→Prop) (E:Value→Shared→Prop),Q (decide (val x < val y)) s→wpAny (model prog w) A (keyLt' κ x.1 y.1) Q E s
theorem zf0 {st:SortSt} {x y:Keyed} {Q:Option Bool→SortSt→Prop} (hC:Cmp prog w A s κ val a₀) (hk:kindOf st=κ) (hx:x∈a₀.toList) (hy:y∈a₀.toList) (h:Q (some (decide (val x < val y))) st) :
  wpS (model prog w) A E s (lt' x y) Q st:=by
 rw [lt'_eq]
 refine wpS_bind (wpS_get ?_)
 rw [hk]
 refine wpS_bind (wpS_lift (wpAny_attempt (hC x y hx hy _ _ ⟨rfl,?_⟩)))
 exact wpS_pure h
theorem zo {st:SortSt} {arr:Array Keyed} {i:Nat} {p:Keyed} {Q:Keyed→SortSt→Prop} (hi:arr[i]? = some p) (h:Q p st):wpS (model prog w) A E s (elem' arr i) Q st:=by
 rw [elem'_eq,hi]
 exact wpS_pure h
theorem zcr {st:SortSt} {i j:Nat} {Q:Option Bool→SortSt→Prop} (hC:Cmp prog w A s κ val a₀) (hB:SB κ a₀ st) (hi:i < a₀.size) (hj:j < a₀.size) (h:Q (some (decide (Vk val (arrOf st) i < Vk val (arrOf st) j))) st) :
  (wpS (model prog w) A E s (ltAt' i j) Q st):=by
 obtain⟨x,ex,mx⟩:=hB.mem hi
 obtain⟨y,ey,my⟩:=hB.mem hj
 rw [ltAt'_eq]
 refine wpS_bind (wpS_get ?_)
 (show wpS _ _ _ _ (do let x ← elem' (arrOf st) i; let y ← elem' (arrOf st) j; lt' x y) Q st)
 refine wpS_bind (zo ex (wpS_bind (zo ey (zf0 hC hB.kind mx my ?_))))
 rw [zq ex,zq ey] at h
 exact h
theorem zeD {st:SortSt} {i j:Nat} {Q:Unit→SortSt→Prop} (h:Q () (setArr st (mirror (arrOf st) i j ((j - i) / 2)))) :
  (wpS (model prog w) A E s (reverseSlice' i j) Q st):=by
 ((rw [reverseSlice'_eq]; exact wpS_modify h))
theorem zcs {xs:Array Keyed} {i j:Nat} (hj:j≤xs.size) (k:Nat):Vk val (mirror xs i j ((j - i) / 2)) k=if i≤k∧k < j then Vk val xs (i+j - 1 - k) else Vk val xs k:=by
 (have e:=getElem?_mirror_all (i:=i) hj k)
 by_cases h1:i≤k∧k < j
 ·rw [if_pos h1] at e ⊢; exact zB e
 ·rw [if_neg h1] at e ⊢; exact zB e
theorem zap {xs:Array Keyed} {i j:Nat} (hj:j≤xs.size) (heq:∀ k,i≤k→k < j→Vk val xs k=Vk val xs (j - 1)) (k:Nat):Vk val (mirror xs i j ((j - i) / 2)) k=Vk val xs k:=by
 rw [zcs hj]
 split
 ·(rw [heq _ (by omega) (by omega),heq k (by omega) (by omega)])
 ·rfl
theorem zaW {xs:Array Keyed} {lo i j:Nat} (hj:j≤xs.size) (hi:lo≤i):∀ k,k < lo→(mirror xs i j ((j - i) / 2))[k]? = xs[k]?:=fun k hk=>by
 rw [getElem?_mirror_all hj,if_neg (by omega)]
theorem zee {xs:Array Keyed} {lo src d:Nat} (hs:src < xs.size) (hd:d≤src) (hl:lo≤src - d):∀ k,k < lo→(bubble xs src d)[k]? = xs[k]?:=fun k hk=>by
 rw [getElem?_bubble hs d hd,if_neg (by omega),if_neg (by omega)]
def zf1 (lo a nrem:Nat):StateT SortSt Sem AscSt :=
 forIn [a:nrem] ((none,a):AscSt) fun _ st=>do
  let x ← ltAt' (lo+st.snd) (lo+st.snd - 1)
  match x with
  | some smaller=>if smaller=true then pure (ForInStep.done (none,st.snd)) else pure (ForInStep.yield (none,st.snd+1))
  | _=>pure (ForInStep.done (some none,st.snd))
def zdE (lo n nrem:Nat):StateT SortSt Sem (Option Nat):=do
 reverseSlice' lo (lo+n)
 let st ← zf1 lo n nrem
 match st.fst with
 | some r=>pure r
 | none=>pure (some st.snd)
def zeE (lo n nrem:Nat):StateT SortSt Sem DescSt :=
 forIn [n:nrem] ((none,n,0):DescSt) fun _ st=>do
  let x ← ltAt' (lo+st.snd.fst) (lo+st.snd.fst - 1)
  match x with
  | some smaller =>
   if smaller=true then
    if st.snd.snd > 0 then do
     reverseSlice' (lo+st.snd.fst - (st.snd.snd+1)) (lo+st.snd.fst)
     pure (ForInStep.yield (none,st.snd.fst+1,0))
    else pure (ForInStep.yield (none,st.snd.fst+1,0))
   else do
    let x ← ltAt' (lo+st.snd.fst - 1) (lo+st.snd.fst)
    match x with
    | some larger =>
     if larger=true then pure (ForInStep.done (none,st.snd.fst,st.snd.snd))
     else pure (ForInStep.yield (none,st.snd.fst+1,st.snd.snd+1))
    | _=>pure (ForInStep.done (some none,st.snd.fst,st.snd.snd))
  | _=>pure (ForInStep.done (some none,st.snd.fst,st.snd.snd))
def zdF (lo n nrem:Nat):StateT SortSt Sem (Option Nat):=do
 liftM (rule "list.sort.descending-run"); let st ← zeE lo (n+1) nrem
 match st.fst with
 | some r=>pure r
 | none =>
  if st.snd.snd > 0 then do
   reverseSlice' (lo+st.snd.fst - (st.snd.snd+1)) (lo+st.snd.fst)
   zdE lo st.snd.fst nrem
  else zdE lo st.snd.fst nrem
theorem zdh (lo nrem:Nat):countRun' lo nrem=(do
  let st ← zf1 lo 1 nrem
  match st.fst with
  | some r=>pure r
  | none =>
   if (st.snd == nrem)=true then pure (some st.snd)
   else if st.snd > 1 then do
    let x ← ltAt' lo (lo+st.snd - 1)
    match x with
    | some rose=>if rose=true then pure (some st.snd) else do
      reverseSlice' lo (lo+st.snd)
      zdF lo st.snd nrem
    | _=>pure none
   else zdF lo st.snd nrem):=by
 rw [countRun'_eq]
 unfold zdF zdE zeE zf1
 dsimp only
 refine congrArg (bind _) ?_
 funext c
 obtain⟨r,n⟩:=c
 cases r with
 | some r=>rfl
 | none =>
  dsimp only
  split
  ·rfl
  ·split
   ·congr 1
    funext x
    cases x with
    | none=>rfl
    | some rose =>
     dsimp only
     split
     ·rfl
     ·congr 1
      funext _r
      congr 1; funext _u; congr 1; congr 1; funext s2; obtain⟨r2,n2,q2⟩:=s2
      cases r2 with
      | some r2=>rfl
      | none =>
       dsimp only
       split
       ·congr 1; funext _v; congr 1; funext _w; congr 1; funext s3; obtain⟨r3,n3⟩:=s3; cases r3 <;> rfl
       ·congr 1; funext _w; congr 1; funext s3; obtain⟨r3,n3⟩:=s3; cases r3 <;> rfl
   ·congr 1; funext _u; congr 1; congr 1; funext s2; obtain⟨r2,n2,q2⟩:=s2
    cases r2 with
    | some r2=>rfl
    | none =>
     dsimp only
     split
     ·congr 1; funext _v; congr 1; funext _w; congr 1; funext s3; obtain⟨r3,n3⟩:=s3; cases r3 <;> rfl
     ·congr 1; funext _w; congr 1; funext s3; obtain⟨r3,n3⟩:=s3; cases r3 <;> rfl
theorem zgR {st₀ st:SortSt} {lo a nrem:Nat} {Q:AscSt→SortSt→Prop} (hC:Cmp prog w A s κ val a₀) (hn:lo+nrem≤a₀.size) (ha:1≤a) (han:a≤nrem) (hB:SF κ a₀ lo st₀ st)
  (hs:SIn val (arrOf st) lo (lo+a))
  (h:∀ n,a≤n→n≤nrem→SIn val (arrOf st) lo (lo+n)→(n=nrem∨Vk val (arrOf st) (lo+n) < Vk val (arrOf st) (lo+n - 1))→Q (none,n) st) :
  wpS (model prog w) A E s (zf1 lo a nrem) Q st:=by
 unfold zf1
 refine wpS_forRange (I:=fun x c st'=>st'=st∧c=(none,x)∧SIn val (arrOf st) lo (lo+x)) ?step ?fin ⟨rfl,rfl,hs⟩
 case fin =>
  rintro c st' ⟨rfl,rfl,hs'⟩
  (rw [show max a nrem=nrem by omega] at hs' ⊢)
  (exact h nrem han (Nat.le_refl _) hs' (.inl rfl))
 case step =>
  (rintro x c st' hax hxn ⟨rfl,rfl,hs'⟩)
  dsimp only
  refine wpS_bind (zcr hC hB.b (by omega) (by omega) ?_)
  by_cases hless:Vk val (arrOf st') (lo+x) < Vk val (arrOf st') (lo+x - 1)
  ·(simp only [hless,decide_true,if_true])
   (exact wpS_pure (h x hax (by omega) hs' (.inr hless)))
  ·(simp only [hless,decide_false,Bool.false_eq_true,if_false])
   refine wpS_pure ⟨rfl,rfl,fun i j hli hij hj=>?_⟩
   by_cases hjx:j < lo+x
   ·exact hs' i j hli hij hjx
   ·have hj':j=lo+x:=by omega
    subst hj'
    by_cases hi':i=lo+x
    ·(subst hi'; exact Int.le_refl _)
    ·exact Int.le_trans (hs' i (lo+x - 1) hli (by omega) (by omega)) (Int.not_lt.mp hless)
theorem zf2 {st₀ st:SortSt} {lo n nrem:Nat} {Q:Option Nat→SortSt→Prop} (hC:Cmp prog w A s κ val a₀) (hn:lo+nrem≤a₀.size) (h1:1≤n) (hnn:n≤nrem) (hB:SF κ a₀ lo st₀ st)
  (hs:DIn val (arrOf st) lo (lo+n)) (h:∀ m st',SF κ a₀ lo st₀ st'→1≤m→m≤nrem→SIn val (arrOf st') lo (lo+m)→Q (some m) st') :
  wpS (model prog w) A E s (zdE lo n nrem) Q st:=by
 unfold zdE
 have hsz:lo+n≤(arrOf st).size:=by rw [hB.b.size]; omega
 refine wpS_bind (zeD ?_)
 have hB':=hB.setArr (mirror_perm (arrOf st) lo (lo+n) ((lo+n - lo) / 2)) (zaW hsz (Nat.le_refl _))
 refine wpS_bind (zgR hC hn h1 hnn hB' ?_ fun m hm1 hm2 hsm _=>wpS_pure (h m _ hB' (by omega) hm2 hsm))
 intro i j hli hij hj
 show Vk val (mirror (arrOf st) lo (lo+n) ((lo+n - lo) / 2)) i≤Vk val (mirror (arrOf st) lo (lo+n) ((lo+n - lo) / 2)) j
 rw [zcs hsz,zcs hsz,if_pos (by omega),if_pos (by omega)]
 exact hs _ _ (by omega) (by omega) (by omega)
theorem zhj {st₀ st:SortSt} {lo n nrem:Nat} {Q:DescSt→SortSt→Prop} (hC:Cmp prog w A s κ val a₀) (hn:lo+nrem≤a₀.size) (h1:1≤n) (hnn:n≤nrem) (hB:SF κ a₀ lo st₀ st)
  (hs:DIn val (arrOf st) lo (lo+n))
  (h:∀ m neq st',SF κ a₀ lo st₀ st'→n≤m→m≤nrem→DIn val (arrOf st') lo (lo+m)→neq+1≤m→(∀ i,lo+m - (neq+1)≤i→i < lo+m→Vk val (arrOf st') i=Vk val (arrOf st') (lo+m - 1))→Q (none,m,neq) st') :
  wpS (model prog w) A E s (zeE lo n nrem) Q st:=by
 unfold zeE
 refine wpS_forRange (I:=fun x c st'=>∃ neq,c=(none,x,neq)∧SF κ a₀ lo st₀ st'∧DIn val (arrOf st') lo (lo+x)∧neq+1≤x ∧
   (∀ i,lo+x - (neq+1)≤i→i < lo+x→Vk val (arrOf st') i=Vk val (arrOf st') (lo+x - 1))) ?step ?fin ⟨0,rfl,hB,hs,by omega,fun i h1 h2=>by congr 1; omega⟩
 case fin =>
  (rintro c st' ⟨neq,rfl,hB',hs',hq,he⟩)
  (rw [show max n nrem=nrem by omega] at hs' hq he ⊢)
  (exact h nrem neq st' hB' hnn (Nat.le_refl _) hs' hq he)
 case step =>
  (rintro x c st' hax hxn ⟨neq,rfl,hB',hs',hq,he⟩)
  dsimp only
  have hsz:lo+x≤(arrOf st').size:=by rw [hB'.b.size]; omega
  refine wpS_bind (zcr hC hB'.b (by omega) (by omega) ?_)
  by_cases hless:Vk val (arrOf st') (lo+x) < Vk val (arrOf st') (lo+x - 1)
  ·(simp only [hless,decide_true,if_true])
   have step1:∀ xs:Array Keyed,(∀ k,Vk val xs k=Vk val (arrOf st') k)→DIn val xs lo (lo+(x+1)):=by
    intro xs hk i j hli hij hj
    rw [hk,hk]
    by_cases hjx:j < lo+x
    ·exact hs' i j hli hij hjx
    ·have hj':j=lo+x:=by omega
     subst hj'
     by_cases hi':i=lo+x
     ·(subst hi'; exact Int.le_refl _)
     ·exact Int.le_trans (Int.le_of_lt hless) (hs' i (lo+x - 1) hli (by omega) (by omega))
   by_cases hneq:neq > 0
   ·rw [if_pos hneq]
    refine wpS_bind (zeD (wpS_pure ⟨0,rfl,hB'.setArr (mirror_perm _ _ _ _) (zaW hsz (by omega)),step1 _ (zap hsz he),by omega,fun i h1 h2=>by congr 1; omega⟩))
   ·rw [if_neg hneq]
    (exact wpS_pure ⟨0,rfl,hB',step1 _ (fun _=>rfl),by omega,fun i h1 h2=>by congr 1; omega⟩)
  ·(simp only [hless,decide_false,Bool.false_eq_true,if_false])
   refine wpS_bind (zcr hC hB'.b (by omega) (by omega) ?_)
   by_cases hlarger:Vk val (arrOf st') (lo+x - 1) < Vk val (arrOf st') (lo+x)
   ·(simp only [hlarger,decide_true,if_true])
    (exact wpS_pure (h x neq st' hB' hax (by omega) hs' hq he))
   ·(simp only [hlarger,decide_false,Bool.false_eq_true,if_false])
    have heqx:Vk val (arrOf st') (lo+x)=Vk val (arrOf st') (lo+x - 1):=by omega
    refine wpS_pure ⟨neq+1,rfl,hB',fun i j hli hij hj=>?_,by omega,fun i h1 h2=>?_⟩
    ·by_cases hjx:j < lo+x
     ·exact hs' i j hli hij hjx
     ·have hj':j=lo+x:=by omega
      subst hj'
      by_cases hi':i=lo+x
      ·(subst hi'; exact Int.le_refl _)
      ·rw [heqx]; exact hs' i (lo+x - 1) hli (by omega) (by omega)
    ·rw [show lo+(x+1) - 1=lo+x by omega]
     by_cases hix:i=lo+x
     ·subst hix; rfl
     ·(rw [heqx]; exact he i (by omega) (by omega))
theorem zeF {st₀ st:SortSt} {lo n nrem:Nat} {Q:Option Nat→SortSt→Prop} (hC:Cmp prog w A s κ val a₀) (hn:lo+nrem≤a₀.size) (hnn:n+1≤nrem) (hB:SF κ a₀ lo st₀ st)
  (hs:DIn val (arrOf st) lo (lo+(n+1))) (h:∀ m st',SF κ a₀ lo st₀ st'→1≤m→m≤nrem→SIn val (arrOf st') lo (lo+m)→Q (some m) st') :
  wpS (model prog w) A E s (zdF lo n nrem) Q st:=by
 unfold zdF
 (refine wpS_bind (wpS_lift (wpAny_rule ⟨rfl,?_⟩)))
 refine wpS_bind (zhj hC hn (by omega) hnn hB hs fun m neq st' hB' hm1 hm2 hs' hq he=>?_)
 dsimp only
 have hsz:lo+m≤(arrOf st').size:=by rw [hB'.b.size]; omega
 by_cases hneq:neq > 0
 ·rw [if_pos hneq]
  refine wpS_bind (zeD (zf2 hC hn (by omega) hm2 (hB'.setArr (mirror_perm _ _ _ _) (zaW hsz (by omega))) ?_ h))
  intro i j hli hij hj
  show Vk val (mirror (arrOf st') _ _ _) j≤Vk val (mirror (arrOf st') _ _ _) i
  rw [zap hsz he,zap hsz he]
  exact hs' i j hli hij hj
 ·rw [if_neg hneq]
  exact zf2 hC hn (by omega) hm2 hB' hs' h
theorem zgD {st₀ st:SortSt} {lo nrem:Nat} {Q:Option Nat→SortSt→Prop} (hC:Cmp prog w A s κ val a₀) (hn:lo+nrem≤a₀.size) (h1:1≤nrem) (hB:SF κ a₀ lo st₀ st)
  (h:∀ m st',SF κ a₀ lo st₀ st'→1≤m→m≤nrem→SIn val (arrOf st') lo (lo+m)→Q (some m) st') :
  wpS (model prog w) A E s (countRun' lo nrem) Q st:=by
 rw [zdh]
 refine wpS_bind (zgR hC hn (Nat.le_refl 1) h1 hB (fun i j hli hij hj=>(by
   have e:i=j:=by omega
   rw [e]
   exact Int.le_refl _)) fun n hn1 hn2 hsn hor=>?_)
 dsimp only
 by_cases hnn:n=nrem
 ·(rw [if_pos (by simpa using hnn)])
  (exact wpS_pure (h n st hB hn1 hn2 hsn))
 ·(rw [if_neg (by simpa using hnn)])
  have hlt:Vk val (arrOf st) (lo+n) < Vk val (arrOf st) (lo+n - 1):=hor.resolve_left hnn
  by_cases hgt:n > 1
  ·rw [if_pos hgt]
   refine wpS_bind (zcr hC hB.b (by omega) (by omega) ?_)
   by_cases hrose:Vk val (arrOf st) lo < Vk val (arrOf st) (lo+n - 1)
   ·(simp only [hrose,decide_true,if_true])
    (exact wpS_pure (h n st hB hn1 hn2 hsn))
   ·(simp only [hrose,decide_false,Bool.false_eq_true,if_false])
    have hsz:lo+n≤(arrOf st).size:=by rw [hB.b.size]; omega
    have hall:∀ k,lo≤k→k < lo+n→Vk val (arrOf st) k=Vk val (arrOf st) (lo+n - 1):=by
     intro k hk0 hk
     have a1:=hsn lo k (Nat.le_refl _) hk0 hk
     have a2:=hsn k (lo+n - 1) hk0 (by omega) (by omega)
     omega
    refine wpS_bind (zeD (zeF hC hn (by omega) (hB.setArr (mirror_perm _ _ _ _) (zaW hsz (Nat.le_refl _))) ?_ h))
    intro i j hli hij hj
    show Vk val (mirror (arrOf st) _ _ _) j≤Vk val (mirror (arrOf st) _ _ _) i
    rw [zap hsz hall,zap hsz hall]
    by_cases hjn:j < lo+n
    ·(rw [hall i (by omega) (by omega),hall j (by omega) hjn]; exact Int.le_refl _)
    ·have hj':j=lo+n:=by omega
     subst hj'
     by_cases hi':i=lo+n
     ·(subst hi'; exact Int.le_refl _)
     ·(rw [hall i (by omega) (by omega)]; exact Int.le_of_lt hlt)
  ·rw [if_neg hgt]
   have hn1':n=1:=by omega
   subst hn1'
   refine zeF hC hn (by omega) hB ?_ h
   intro i j hli hij hj
   by_cases hi':i=j
   ·(subst hi'; exact Int.le_refl _)
   ·have hi0:i=lo:=by omega
    have hj1:j=lo+1:=by omega
    subst hi0; subst hj1
    exact Int.le_of_lt hlt
theorem zdG {xs:Array Keyed} {src d:Nat} (hs:src < xs.size) (hd:d≤src) (k:Nat) :
  Vk val (bubble xs src d) k=if k=src - d then Vk val xs src else if src - d < k∧k≤src then Vk val xs (k - 1) else Vk val xs k:=by
 (have e:=getElem?_bubble hs d hd k)
 by_cases h1:k=src - d
 ·rw [if_pos h1] at e ⊢; exact zB e
 ·rw [if_neg h1] at e ⊢
  (by_cases h2:src - d < k∧k≤src)
  ·rw [if_pos h2] at e ⊢; exact zB e
  ·rw [if_neg h2] at e ⊢; exact zB e
theorem zhQ {st₀ st:SortSt} {lo n ok:Nat} {Q:Bool→SortSt→Prop} (hC:Cmp prog w A s κ val a₀) (hn:lo+n≤a₀.size) (hok:ok≤n) (hB:SF κ a₀ lo st₀ st) (hs:SIn val (arrOf st) lo (lo+ok))
  (h:∀ st',SF κ a₀ lo st₀ st'→SIn val (arrOf st') lo (lo+n)→Q true st'):wpS (model prog w) A E s (binarySort' lo n ok) Q st:=by
 rw [binarySort'_eq]
 refine wpS_bind (wpS_mono (wpS_forRange (I:=fun k c st'=>c=(none,())∧SF κ a₀ lo st₀ st'∧SIn val (arrOf st') lo (lo+min k n))
  (Q:=fun c st'=>c=(none,())∧SF κ a₀ lo st₀ st'∧SIn val (arrOf st') lo (lo+n)) ?step ?fin ?init) ?post)
 case post =>
  rintro c st' ⟨rfl,hB',hs'⟩
  (exact wpS_pure (h st' hB' hs'))
 case init =>
  refine⟨rfl,hB,fun i j hli hij hj=>?_⟩
  by_cases h1:ok=0
  ·have e:i=j:=by omega
   rw [e]; exact Int.le_refl _
  ·exact hs i j hli hij (by omega)
 case fin =>
  rintro c st' ⟨hc,hB',hs'⟩
  refine⟨hc,hB',?_⟩
  (rwa [show min (max (max ok 1) n) n=n by omega] at hs')
 case step =>
  (rintro k c st' hak hkn ⟨rfl,hB',hs'⟩)
  (rw [show min k n=k by omega] at hs')
  have hk:lo+k < a₀.size:=(by omega); refine wpS_bind (wpS_mono (wpS_forRange (I:=fun x c st''=>st''=st'∧∃ l r,c=(none,l,r)∧l≤r∧r≤k∧r - l≤k - x ∧
    (∀ i,i < l→Vk val (arrOf st') (lo+i)≤Vk val (arrOf st') (lo+k))∧(∀ i,r≤i→i < k→Vk val (arrOf st') (lo+k) < Vk val (arrOf st') (lo+i)))
   (Q:=fun c st''=>st''=st'∧∃ l r,c=(none,l,r)∧l≤k∧(∀ i,i < l→Vk val (arrOf st') (lo+i)≤Vk val (arrOf st') (lo+k))∧(∀ i,l≤i→i < k→Vk val (arrOf st') (lo+k) < Vk val (arrOf st') (lo+i))) ?istep ?ifin ?iinit) ?ipost)
  case iinit=>(exact⟨rfl,0,k,rfl,by omega,by omega,by omega,fun i hi=>by omega,fun i h1 h2=>by omega⟩)
  case ifin =>
   (rintro c st'' ⟨rfl,l,r,rfl,hlr,hrk,hm,hlo,hhi⟩)
   have:l=r:=by omega
   subst this
   (exact⟨rfl,l,l,rfl,hrk,hlo,hhi⟩)
  case istep =>
   (rintro x c st'' _ hxk ⟨rfl,l,r,rfl,hlr,hrk,hm,hlo,hhi⟩)
   dsimp only
   by_cases hge:l≥r
   ·rw [if_pos hge]
    have:l=r:=by omega
    subst this
    (exact wpS_pure ⟨rfl,l,l,rfl,hrk,hlo,hhi⟩)
   ·rw [if_neg hge]
    refine wpS_bind (zcr hC hB'.b hk (by omega) ?_)
    by_cases hless:Vk val (arrOf st'') (lo+k) < Vk val (arrOf st'') (lo+(l+r) / 2)
    ·(simp only [hless,decide_true,if_true])
     (refine wpS_pure ⟨rfl,l,(l+r) / 2,rfl,by omega,by omega,by omega,hlo,fun i h1 h2=>?_⟩)
     exact Int.lt_of_lt_of_le hless (hs' _ _ (by omega) (by omega) (by omega))
    ·(simp only [hless,decide_false,Bool.false_eq_true,if_false])
     (refine wpS_pure ⟨rfl,(l+r) / 2+1,r,rfl,by omega,by omega,by omega,fun i h1=>?_,hhi⟩)
     exact Int.le_trans (hs' (lo+i) (lo+(l+r) / 2) (by omega) (by omega) (by omega)) (Int.not_lt.mp hless)
  case ipost =>
   (rintro c st'' ⟨rfl,l,r,rfl,hlk,hlo,hhi⟩)
   show wpS _ _ _ _ (do moveDown' (lo+k) (lo+l); pure (ForInStep.yield (none,()))) _ _
   rw [moveDown'_eq]
   have hks:lo+k < (arrOf st'').size:=by rw [hB'.b.size]; exact hk
   refine wpS_bind (wpS_modify (wpS_pure ⟨rfl,hB'.setArr (bubble_perm _ _ _) (zee hks (by omega) (by omega)),?_⟩))
   (rw [show min (k+1) n=k+1 by omega])
   intro i j hli hij hj
   show Vk val (bubble (arrOf st'') (lo+k) (lo+k - (lo+l))) i≤Vk val (bubble (arrOf st'') (lo+k) (lo+k - (lo+l))) j
   rw [zdG hks (by omega),zdG hks (by omega),show lo+k - (lo+k - (lo+l))=lo+l by omega]
   have hlo':∀ i,lo≤i→i < lo+l→Vk val (arrOf st'') i≤Vk val (arrOf st'') (lo+k):=fun i h1 h2=>by
    have:=hlo (i - lo) (by omega)
    rwa [show lo+(i - lo)=i by omega] at this
   have hhi':∀ i,lo+l≤i→i < lo+k→Vk val (arrOf st'') (lo+k) < Vk val (arrOf st'') i:=fun i h1 h2=>by
    have:=hhi (i - lo) (by omega) (by omega)
    rwa [show lo+(i - lo)=i by omega] at this
   repeat' split
   all_goals first
    | (exfalso; omega)
    | exact Int.le_refl _
    | exact hlo' _ (by omega) (by omega)
    | exact Int.le_of_lt (hhi' _ (by omega) (by omega))
    | exact hs' _ _ (by omega) (by omega) (by omega)
end
end Srt
end
section
set_option maxHeartbeats 3995000
namespace Srt
open PySem PyProof.Rows
def zgE:Bool→Keyed→Array Keyed→Nat→Nat→Nat→StateT SortSt Sem (Option Nat):=sortPriv% PySem.Builtin.gallop
def zf3:Array Keyed→Array Keyed→StateT SortSt Sem (Array Keyed):=sortPriv% PySem.Builtin.mergeLo
def zf4:Array Keyed→Array Keyed→StateT SortSt Sem (Array Keyed):=sortPriv% PySem.Builtin.mergeHi
def zbj:Nat→StateT SortSt Sem Unit:=sortPriv% PySem.Builtin.setMinGallop
theorem zdi {M:Model} {A:Around} {E:Value→Shared→Prop} {s:Shared} {α:Type} {m:StateT SortSt Sem α} {Q:α→SortSt→Prop} {st:SortSt} (h:wpAny M A (m st) (fun r s'=>s'=s∧Q r.1 r.2) E s):wpS M A E s m Q st:=h
theorem zdj {M:Model} {A:Around} {E:Value→Shared→Prop} {s:Shared} {α:Type} {m:StateT SortSt Sem α} {Q:α→SortSt→Prop} {st:SortSt} (h:wpS M A E s m Q st):wpAny M A (m st) (fun r s'=>s'=s∧Q r.1 r.2) E s:=h
section
variable {prog:Program} {w:World} {A:Around} {E:Value→Shared→Prop} {s:Shared} {a₀:Array Keyed} {κ:SortKind} {val:Keyed→Int}
def bB (val:Keyed→Int) (left:Bool) (key:Keyed) (arr:Array Keyed) (base i:Nat):Bool:=if left then decide (Vk val arr (base+i) < val key) else !decide (val key < Vk val arr (base+i))
theorem zbE {left:Bool} {key:Keyed} {arr:Array Keyed} {base n i j:Nat} (hs:SIn val arr base (base+n)) (hij:i≤j) (hj:j < n) (h:bB val left key arr base j=true):bB val left key arr base i=true:=by
 have:=hs (base+i) (base+j) (by omega) (by omega) (by omega)
 unfold bB at h ⊢
 cases left <;> simp at h ⊢ <;> omega
theorem za6 {st:SortSt} {left:Bool} {key:Keyed} {arr:Array Keyed} {base i:Nat} {Q:Option Bool→SortSt→Prop} {p:Keyed} (hC:Cmp prog w A s κ val a₀) (hk:kindOf st=κ) (hkey:key∈a₀.toList) (he:arr[base+i]? = some p) (hp:p∈a₀.toList)
  (h:Q (some (bB val left key arr base i)) st):wpS (model prog w) A E s (do
   let x ← elem' arr (base+i)
   if left then lt' x key else do
    let r ← lt' key x
    return r.map (!·)) Q st:=by
 refine wpS_bind (zo he ?_)
 unfold bB at h
 rw [zq he] at h
 cases left with
 | true=>exact zf0 hC hk hp hkey h
 | false=>exact wpS_bind (zf0 hC hk hkey hp (wpS_pure h))
abbrev zgF:=Option (Option Nat)×Nat×Nat
theorem zf5 {st:SortSt} {left:Bool} {key:Keyed} {arr:Array Keyed} {base n lo hi:Nat} {f:Nat→zgF→StateT SortSt Sem (ForInStep zgF)} (hs:SIn val arr base (base+n)) (hlh:lo≤hi) (hhn:hi≤n)
  (h1:∀ i,i < lo→bB val left key arr base i=true) (h2:∀ i,hi≤i→i < n→bB val left key arr base i=false)
  (hf:∀ (x l r:Nat) (R:ForInStep zgF→SortSt→Prop),r≤n→(l≥r→R (.done (none,l,r)) st)→(l < r→R (if bB val left key arr base (l+(r - l) / 2)=true then .yield (none,l+(r - l) / 2+1,r) else .yield (none,l,l+(r - l) / 2)) st)→wpS (model prog w) A E s (f x (none,l,r)) R st) :
  wpS (model prog w) A E s (forIn [0:n] ((none,lo,hi):zgF) f) (fun c st'=>st'=st∧∃ l,c=(none,l,l)∧l≤n∧(∀ i,i < l→bB val left key arr base i=true)∧(∀ i,l≤i→i < n→bB val left key arr base i=false)) st:=by
 refine wpS_forRange (I:=fun x c st'=>st'=st∧∃ l r,c=(none,l,r)∧l≤r∧r≤n∧r - l≤n - x∧(∀ i,i < l→bB val left key arr base i=true)∧(∀ i,r≤i→i < n→bB val left key arr base i=false)) ?step ?fin ⟨rfl,lo,hi,rfl,hlh,hhn,by omega,h1,h2⟩
 case fin =>
  rintro c st' ⟨rfl,l,r,rfl,hlr,hrn,hm,a1,a2⟩
  have:l=r:=by omega
  subst this
  exact⟨rfl,l,rfl,hrn,a1,a2⟩
 case step =>
  rintro x c st' _ hxn ⟨rfl,l,r,rfl,hlr,hrn,hm,a1,a2⟩
  refine hf x l r _ hrn (fun hge=>?_) (fun hlt=>?_)
  ·have:l=r:=by omega
   subst this
   exact⟨rfl,l,rfl,hrn,a1,a2⟩
  ·cases hb:bB val left key arr base (l+(r - l) / 2) with
   | true =>
    rw [if_pos rfl]
    exact⟨rfl,l+(r - l) / 2+1,r,rfl,by omega,hrn,by omega,fun i hi=>zbE hs (by omega) (by omega) hb,a2⟩
   | false =>
    rw [if_neg (by decide)]
    refine⟨rfl,l,l+(r - l) / 2,rfl,by omega,by omega,by omega,a1,fun i hi hin=>?_⟩
    cases e:bB val left key arr base i with
    | false=>rfl
    | true=>rw [zbE hs hi hin e] at hb; cases hb
theorem zaq {st:SortSt} {left:Bool} {key:Keyed} {arr:Array Keyed} {base n hint:Nat} {Q:Option Nat→SortSt→Prop} (hC:Cmp prog w A s κ val a₀) (hk:kindOf st=κ) (hkey:key∈a₀.toList)
  (ha:∀ i,i < n→∃ p,arr[base+i]? = some p∧p∈a₀.toList) (hs:SIn val arr base (base+n)) (hh:hint < n)
  (h:∀ k,k≤n→(∀ i,i < k→bB val left key arr base i=true)→(∀ i,k≤i→i < n→bB val left key arr base i=false)→Q (some k) st) :
  wpS (model prog w) A E s (zgE left key arr base n hint) Q st:=by
 refine zdi ?_
 wp_delta
 wp_delta
 refine zdj ?_
 dsimp only
 obtain⟨p,ep,mp⟩:=ha hint hh
 refine wpS_bind (za6 hC hk hkey ep mp ?_)
 dsimp only
 have up:∀ {i j:Nat},i≤j→j < n→bB val left key arr base i=false→bB val left key arr base j=false:=fun {i j} hij hj h=>by
  cases e:bB val left key arr base j with
  | false=>rfl
  | true=>rw [zbE hs hij hj e] at h; cases h
 cases hr:bB val left key arr base hint with
 | true =>
  simp only [if_true]
  refine wpS_bind (wpS_mono (wpS_forRange (I:=fun x c st'=>st'=st∧∃ l o,c=(none,l,o)∧l < o∧x+1≤o∧hint+l < n∧bB val left key arr base (hint+l)=true)
   (Q:=fun c st'=>st'=st∧∃ l o,c=(none,l,o)∧l < o∧hint+l < n∧bB val left key arr base (hint+l)=true∧(hint+o < n→bB val left key arr base (hint+o)=false)) ?step ?fin ⟨rfl,0,1,rfl,by omega,by omega,hh,hr⟩) ?post)
  case fin =>
   rintro c st' ⟨rfl,l,o,rfl,hlo,hx,hl,hb⟩
   exact⟨rfl,l,o,rfl,hlo,hl,hb,fun z=>by omega⟩
  case step =>
   rintro x c st' _ hxn ⟨rfl,l,o,rfl,hlo,hx,hl,hb⟩
   dsimp only
   by_cases hge:o≥n - hint
   ·rw [if_pos hge]
    exact wpS_pure ⟨rfl,l,o,rfl,hlo,hl,hb,fun z=>by omega⟩
   ·rw [if_neg hge]
    obtain⟨p,ep,mp⟩:=ha (hint+o) (by omega)
    refine wpS_bind (za6 hC hk hkey ep mp ?_)
    dsimp only
    cases hb2:bB val left key arr base (hint+o) with
    | true =>
     rw [if_neg (by decide)]
     exact wpS_pure ⟨rfl,o,2*o+1,rfl,by omega,by omega,by omega,hb2⟩
    | false =>
     rw [if_pos (by decide)]
     exact wpS_pure ⟨rfl,l,o,rfl,hlo,hl,hb,fun _=>hb2⟩
  case post =>
   rintro c st' ⟨rfl,l,o,rfl,hlo,hl,hb,hb2⟩
   dsimp only
   refine wpS_bind (wpS_mono (zf5 (val:=val) (left:=left) (key:=key) (arr:=arr) (base:=base) hs (by omega) (by omega) (fun i hi=>zbE hs (by omega) hl hb) (fun i hi hin=>(by
    by_cases ho:hint+o < n
    ·exact up (by omega) hin (hb2 ho)
    ·omega)) (fun x l' r' R hrn k1 k2=>?_)) ?_)
   ·dsimp only
    by_cases hge:l'≥r'
    ·rw [if_pos hge]
     exact wpS_pure (k1 hge)
    ·rw [if_neg hge]
     obtain⟨p,ep,mp⟩:=ha (l'+(r' - l') / 2) (by omega)
     refine wpS_bind (za6 hC hk hkey ep mp ?_)
     have k3:=k2 (by omega)
     dsimp only
     cases hb3:bB val left key arr base (l'+(r' - l') / 2) with
     | true=>rw [hb3] at k3; rw [if_pos rfl] at k3 ⊢; exact wpS_pure k3
     | false=>rw [hb3] at k3; rw [if_neg (by decide)] at k3 ⊢; exact wpS_pure k3
   ·rintro c st'' ⟨rfl,l,rfl,hl,b1,b2⟩
    exact wpS_pure (h l hl b1 b2)
 | false =>
  (simp only [Bool.false_eq_true,if_false])
  refine wpS_bind (wpS_mono (wpS_forRange (I:=fun x c st'=>st'=st∧∃ l o,c=(none,l,o)∧l < o∧x+1≤o∧l≤hint∧bB val left key arr base (hint - l)=false)
   (Q:=fun c st'=>st'=st∧∃ l o,c=(none,l,o)∧l < o∧l≤hint∧bB val left key arr base (hint - l)=false∧(o≤hint→bB val left key arr base (hint - o)=true)) ?step ?fin ⟨rfl,0,1,rfl,by omega,by omega,by omega,hr⟩) ?post)
  case fin =>
   rintro c st' ⟨rfl,l,o,rfl,hlo,hx,hl,hb⟩
   exact⟨rfl,l,o,rfl,hlo,hl,hb,fun z=>by omega⟩
  case step =>
   rintro x c st' _ hxn ⟨rfl,l,o,rfl,hlo,hx,hl,hb⟩
   dsimp only
   by_cases hge:o≥hint+1
   ·rw [if_pos hge]
    exact wpS_pure ⟨rfl,l,o,rfl,hlo,hl,hb,fun z=>by omega⟩
   ·rw [if_neg hge]
    obtain⟨p,ep,mp⟩:=ha (hint - o) (by omega)
    refine wpS_bind (za6 hC hk hkey ep mp ?_)
    dsimp only
    cases hb2:bB val left key arr base (hint - o) with
    | false =>
     rw [if_neg (by decide)]
     exact wpS_pure ⟨rfl,o,2*o+1,rfl,by omega,by omega,by omega,hb2⟩
    | true =>
     rw [if_pos rfl]
     exact wpS_pure ⟨rfl,l,o,rfl,hlo,hl,hb,fun _=>hb2⟩
  case post =>
   rintro c st' ⟨rfl,l,o,rfl,hlo,hl,hb,hb2⟩
   dsimp only
   refine wpS_bind (wpS_mono (zf5 (val:=val) (left:=left) (key:=key) (arr:=arr) (base:=base) hs (by omega) (by omega) (fun i hi=>(by
    by_cases ho:o≤hint
    ·exact zbE hs (by omega) (by omega) (hb2 ho)
    ·omega)) (fun i hi hin=>up hi hin hb) (fun x l' r' R hrn k1 k2=>?_)) ?_)
   ·dsimp only
    by_cases hge:l'≥r'
    ·rw [if_pos hge]
     exact wpS_pure (k1 hge)
    ·rw [if_neg hge]
     obtain⟨p,ep,mp⟩:=ha (l'+(r' - l') / 2) (by omega)
     refine wpS_bind (za6 hC hk hkey ep mp ?_)
     have k3:=k2 (by omega)
     dsimp only
     cases hb3:bB val left key arr base (l'+(r' - l') / 2) with
     | true=>rw [hb3] at k3; rw [if_pos rfl] at k3 ⊢; exact wpS_pure k3
     | false=>rw [hb3] at k3; rw [if_neg (by decide)] at k3 ⊢; exact wpS_pure k3
   ·rintro c st'' ⟨rfl,l,rfl,hl,b1,b2⟩
    exact wpS_pure (h l hl b1 b2)
end
end Srt
end
section
set_option maxHeartbeats 3995000
namespace Srt
open PySem PyProof.Rows
abbrev zI (st:SortSt) (g:Nat):SortSt:=SortSt.mk' (kindOf st) (arrOf st) (pendingOf st) g (failedOf st)
theorem zbR (g:Nat):zbj g=modify fun s=>zI s g:=rfl
def Le (val:Keyed→Int) (xs ys:List Keyed):Prop:=∀ x∈xs,∀ y∈ys,val x≤val y
def Ris (val:Keyed→Int) (xs:List Keyed):Prop:=xs.Pairwise fun x y=>val x≤val y
theorem zP {val:Keyed→Int} {xs ys:List Keyed}:Ris val (xs++ys)↔Ris val xs∧Ris val ys∧Le val xs ys:=List.pairwise_append
structure MI (val:Keyed→Int) (T o l r:List Keyed):Prop where
 perm:(o++l++r).Perm T
 so:Ris val o
 sl:Ris val l
 sr:Ris val r
 ol:Le val o l
 or':Le val o r
def Good (val:Keyed→Int) (T res:List Keyed):Prop:=res.Perm T∧Ris val res
section
variable {val:Keyed→Int} {T o l l1 l2 r r1 r2:List Keyed}
theorem Le.left {xs ys zs:List Keyed} (h:Le val (xs++ys) zs):Le val xs zs:=fun x hx y hy=>h x (List.mem_append_left _ hx) y hy
theorem Le.right {xs ys zs:List Keyed} (h:Le val (xs++ys) zs):Le val ys zs:=fun x hx y hy=>h x (List.mem_append_right _ hx) y hy
theorem Le.app {xs ys zs:List Keyed} (h1:Le val xs zs) (h2:Le val ys zs):Le val (xs++ys) zs:=fun x hx y hy=>by
 rcases List.mem_append.mp hx with h | h
 ·exact h1 x h y hy
 ·exact h2 x h y hy
theorem Le.app' {xs ys zs:List Keyed} (h1:Le val xs ys) (h2:Le val xs zs):Le val xs (ys++zs):=fun x hx y hy=>by
 rcases List.mem_append.mp hy with h | h
 ·exact h1 x hx y h
 ·exact h2 x hx y h
theorem Le.sub {xs ys zs:List Keyed} (h1:Le val xs (ys++zs)):Le val xs ys∧Le val xs zs:=⟨fun x hx y hy=>h1 x hx y (List.mem_append_left _ hy),fun x hx y hy=>h1 x hx y (List.mem_append_right _ hy)⟩
theorem MI.takeA (h:MI val T o (l1++l2) r) (hle:Le val l1 r):MI val T (o++l1) l2 r:=by
 obtain⟨a1,a2,a3⟩:=zP.mp h.sl
 obtain⟨b1,b2⟩:=h.ol.sub
 exact⟨by have:=h.perm; simpa [List.append_assoc] using this,zP.mpr ⟨h.so,a1,b1⟩,a2,h.sr,b2.app a3,h.or'.app hle⟩
theorem MI.takeB (h:MI val T o l (r1++r2)) (hle:Le val r1 l):MI val T (o++r1) l r2:=by
 obtain⟨a1,a2,a3⟩:=zP.mp h.sr
 obtain⟨b1,b2⟩:=h.or'.sub
 refine⟨?_,zP.mpr ⟨h.so,a1,b1⟩,h.sl,a2,h.ol.app hle,b2.app a3⟩
 refine List.Perm.trans ?_ h.perm
 have:(r1++l++r2).Perm (l++r1++r2):=List.perm_append_comm.append_right _
 simpa [List.append_assoc] using this.append_left o
theorem MI.doneA (h:MI val T o l []):Good val T (o++l):=⟨by have:=h.perm; simpa using this,zP.mpr ⟨h.so,h.sl,h.ol⟩⟩
theorem MI.doneB (h:MI val T o [] r):Good val T (o++r):=⟨by have:=h.perm; simpa using this,zP.mpr ⟨h.so,h.sr,h.or'⟩⟩
theorem MI.last (h:MI val T o l r) (hle:Le val r l):Good val T (o++r++l):=by
 refine⟨List.Perm.trans ?_ h.perm,?_⟩
 ·rw [List.append_assoc,List.append_assoc]
  exact List.perm_append_comm.append_left o
 ·exact zP.mpr ⟨zP.mpr ⟨h.so,h.sr,h.or'⟩,h.sl,h.ol.app hle⟩
end
section
variable {val:Keyed→Int} {T:List Keyed} {a b out:Array Keyed} {ia ib:Nat}
abbrev MA (val:Keyed→Int) (T:List Keyed) (a b out:Array Keyed) (ia ib:Nat):Prop:=MI val T out.toList (a.toList.drop ia) (b.toList.drop ib)
theorem zb6 {xs:Array Keyed} {i:Nat} {p:Keyed} (h:xs[i]? = some p):xs.toList.drop i=p :: xs.toList.drop (i+1):=by
 have hi:i < xs.toList.length:=by
  have:=(Array.getElem?_eq_some_iff.mp h).1
  simpa using this
 rw [List.drop_eq_getElem_cons hi]
 congr 1
 have:=(Array.getElem?_eq_some_iff.mp h).2
 simpa using this
theorem zbF {xs:Array Keyed} (h:SIn val xs 0 xs.size):∀ i,Ris val (xs.toList.drop i):=by
 have all:Ris val xs.toList:=by
  unfold Ris
  (rw [List.pairwise_iff_getElem])
  intro i j hi hj hij
  (have hi':i < xs.size:=by simpa using hi)
  (have hj':j < xs.size:=by simpa using hj)
  have:=h i j (Nat.zero_le _) (by omega) hj'
  rw [zq (getElem?_pos xs i hi'),zq (getElem?_pos xs j hj')] at this
  simpa using this
 exact fun i=>List.Pairwise.sublist (List.drop_sublist _ _) all
theorem zb7 {xs:Array Keyed} {i:Nat} {p q:Keyed} (h:SIn val xs 0 xs.size) (hp:xs[i]? = some p) (hq:q∈xs.toList.drop i):val p≤val q:=by
 have:=zbF h i
 rw [zb6 hp] at this hq
 rcases (List.mem_cons.mp hq) with rfl | hq
 ·exact Int.le_refl _
 ·exact List.rel_of_pairwise_cons this hq
theorem MA.pushB {y x:Keyed} (h:MA val T a b out ia ib) (sa:SIn val a 0 a.size) (hy:b[ib]? = some y) (hx:a[ia]? = some x) (hle:val y≤val x):MA val T a b (out.push y) ia (ib+1):=by
 unfold MA at h ⊢
 rw [zb6 hy] at h
 have:=MI.takeB (r1:=[y]) h fun p hp q hq=>by
  rw [List.mem_singleton.mp hp]
  exact Int.le_trans hle (zb7 sa hx hq)
 simpa using this
theorem MA.pushA {y x:Keyed} (h:MA val T a b out ia ib) (sb:SIn val b 0 b.size) (hy:b[ib]? = some y) (hx:a[ia]? = some x) (hle:val x≤val y):MA val T a b (out.push x) (ia+1) ib:=by
 unfold MA at h ⊢
 rw [zb6 hx] at h
 have:=MI.takeA (l1:=[x]) h fun p hp q hq=>by
  rw [List.mem_singleton.mp hp]
  exact Int.le_trans hle (zb7 sb hy hq)
 simpa using this
theorem zf6 (xs:Array Keyed) (i k:Nat):xs.toList.drop i=(xs.extract i (i+k)).toList++xs.toList.drop (i+k):=by
 rw [Array.toList_extract]
 have:(xs.toList.extract i (i+k))=(xs.toList.drop i).take k:=by
  simp [List.extract_eq_take_drop] <;> omega
 rw [this,← List.drop_drop,List.take_append_drop]
theorem zb8 {xs:Array Keyed} {i k:Nat} {p:Keyed} (h:p∈(xs.extract i (i+k)).toList):∃ j,j < k∧xs[i+j]? = some p:=by
 have e0:(xs.extract i (i+k)).toList=(xs.toList.drop i).take k:=by
  rw [Array.toList_extract]
  simp [List.extract_eq_take_drop] <;> omega
 rw [e0] at h
 (obtain⟨j,hj,e⟩:=List.getElem_of_mem h)
 have hj2:j < k∧j < (xs.toList.drop i).length:=by
  rw [List.length_take] at hj
  omega
 refine⟨j,hj2.1,?_⟩
 rw [← Array.getElem?_toList,← List.getElem?_drop,List.getElem?_eq_getElem hj2.2,← e,List.getElem_take]
theorem MA.takeA {y:Keyed} {k:Nat} (h:MA val T a b out ia ib) (sb:SIn val b 0 b.size) (hy:b[ib]? = some y) (hle:∀ i,i < k→Vk val a (ia+i)≤val y):MA val T a b (out++a.extract ia (ia+k)) (ia+k) ib:=by
 unfold MA at h ⊢
 rw [zf6 a ia k] at h
 have:=MI.takeA h fun p hp q hq=>by
  obtain⟨j,hj,e⟩:=zb8 hp
  have:=hle j hj
  rw [zq e] at this
  exact Int.le_trans this (zb7 sb hy hq)
 simpa using this
theorem MA.takeB {x:Keyed} {k:Nat} (h:MA val T a b out ia ib) (sa:SIn val a 0 a.size) (hx:a[ia]? = some x) (hle:∀ i,i < k→Vk val b (ib+i)≤val x):MA val T a b (out++b.extract ib (ib+k)) ia (ib+k):=by
 unfold MA at h ⊢
 rw [zf6 b ib k] at h
 have:=MI.takeB h fun p hp q hq=>by
  obtain⟨j,hj,e⟩:=zb8 hp
  have:=hle j hj
  rw [zq e] at this
  exact Int.le_trans this (zb7 sa hx hq)
 simpa using this
theorem zbc (xs:Array Keyed) (i:Nat):(xs.extract i xs.size).toList=xs.toList.drop i:=by
 rw [Array.toList_extract]
 simp only [List.extract_eq_take_drop]
 (exact List.take_of_length_le (by simp))
theorem MA.doneB (h:MA val T a b out ia ib) (e:ib=b.size):Good val T (out++a.extract ia a.size++b.extract ib b.size).toList:=by
 unfold MA at h
 rw [show b.toList.drop ib = [] from List.drop_eq_nil_of_le (by simp [e])] at h
 have:=h.doneA
 rw [Array.toList_append,Array.toList_append,zbc,zbc,show b.toList.drop ib = [] from List.drop_eq_nil_of_le (by simp [e]),List.append_nil]
 exact this
theorem MA.doneA (h:MA val T a b out ia ib) (e:ia=a.size):Good val T (out++a.extract ia a.size++b.extract ib b.size).toList:=by
 unfold MA at h
 rw [show a.toList.drop ia = [] from List.drop_eq_nil_of_le (by simp [e])] at h
 have:=h.doneB
 rw [Array.toList_append,Array.toList_append,zbc,zbc,show a.toList.drop ia = [] from List.drop_eq_nil_of_le (by simp [e]),List.append_nil]
 exact this
theorem MA.last (h:MA val T a b out ia ib) (e:ia+1=a.size) (hl:∀ i,i < b.size→Vk val b i≤Vk val a (a.size - 1)):Good val T (out++b.extract ib b.size++a.extract ia a.size).toList:=by
 unfold MA at h
 have hx:a[ia]? = some (a[ia]'(by omega)):=getElem?_pos a ia (by omega)
 have:=h.last fun p hp q hq=>by
  rw [zb6 hx,show a.toList.drop (ia+1) = [] from List.drop_eq_nil_of_le (by simp [e])] at hq
  rw [List.mem_singleton.mp hq]
  obtain⟨j,hj,ej⟩:=List.getElem_of_mem (List.mem_of_mem_drop hp)
  have hj':j < b.size:=by simpa using hj
  have:=hl j hj'
  rw [zq (getElem?_pos b j hj'),show a.size - 1=ia by omega,zq hx] at this
  rw [← ej]
  simpa using this
 rw [Array.toList_append,Array.toList_append,zbc,zbc]
 exact this
end
end Srt
end
section
set_option maxHeartbeats 3995000
namespace Srt
open PySem PyProof.Rows
section
variable {prog:Program} {w:World} {A:Around} {E:Value→Shared→Prop} {s:Shared} {a₀:Array Keyed} {κ:SortKind} {val:Keyed→Int}
theorem zbG {st:SortSt} {g:Nat} {Q:Unit→SortSt→Prop} (h:Q () (zI st g)):wpS (model prog w) A E s (zbj g) Q st:=by
 rw [zbR]
 exact wpS_modify h
theorem zO {xs:Array Keyed} {i:Nat} (h:i < xs.size):∃ p,xs[i]? = some p∧p∈xs.toList:=⟨xs[i],getElem?_pos xs i h,by simp⟩
theorem zaX {key:Keyed} {arr:Array Keyed} {base i:Nat} (h:bB val true key arr base i=true):Vk val arr (base+i) < val key:=by
 unfold bB at h
 simpa using h
theorem zbH {key:Keyed} {arr:Array Keyed} {base i:Nat} (h:bB val false key arr base i=true):Vk val arr (base+i)≤val key:=by
 unfold bB at h
 simp at h
 omega
theorem zbn {key:Keyed} {arr:Array Keyed} {base i:Nat} (h:bB val true key arr base i=false):val key≤Vk val arr (base+i):=by
 unfold bB at h
 simp at h
 omega
theorem zb9 {key:Keyed} {arr:Array Keyed} {base i:Nat} (h:bB val false key arr base i=false):val key < Vk val arr (base+i):=by
 unfold bB at h
 simp at h
 exact h
theorem SIn.sub {xs:Array Keyed} {lo hi lo' hi':Nat} (h:SIn val xs lo hi) (h1:lo≤lo') (h2:hi'≤hi):SIn val xs lo' hi':=fun i j a b c=>h i j (by omega) b (by omega)
theorem zh {σ α:Type} {M:Model} {c:Prop} {inst:Decidable c} {x y:StateT σ Sem α} {Q:α→σ→Prop} {st:σ} (h:c) (k:wpS M A E s x Q st):wpS M A E s (@ite _ c inst x y) Q st:=by rw [if_pos h]; exact k
theorem zi {σ α:Type} {M:Model} {c:Prop} {inst:Decidable c} {x y:StateT σ Sem α} {Q:α→σ→Prop} {st:σ} (h:¬ c) (k:wpS M A E s y Q st):wpS M A E s (@ite _ c inst x y) Q st:=by rw [if_neg h]; exact k
theorem zad {σ α:Type} {M:Model} {c:Prop} {inst:Decidable c} {x y:StateT σ Sem α} {Q:α→σ→Prop} {st:σ} (h:c→wpS M A E s x Q st) (k:¬ c→wpS M A E s y Q st):wpS M A E s (@ite _ c inst x y) Q st:=by
 by_cases hc:c
 ·rw [if_pos hc]; exact h hc
 ·rw [if_neg hc]; exact k hc
theorem zfe {st:SortSt} {a b:Array Keyed} {Q:Array Keyed→SortSt→Prop} (hC:Cmp prog w A s κ val a₀) (hk:kindOf st=κ) (ma:∀ p∈a.toList,p∈a₀.toList) (mb:∀ p∈b.toList,p∈a₀.toList)
  (sa:SIn val a 0 a.size) (sb:SIn val b 0 b.size) (h1:1≤a.size) (h2:1≤b.size) (hf:Vk val b 0≤Vk val a 0) (hl:∀ i,i < b.size→Vk val b i≤Vk val a (a.size - 1))
  (h:∀ out g,Good val (a.toList++b.toList) out.toList→Q out (zI st g)):wpS (model prog w) A E s (zf3 a b) Q st:=by
 refine zdi ?_
 wp_delta
 wp_delta
 refine zdj ?_
 (refine wpS_bind (wpS_lift (wpAny_rule ⟨rfl,?_⟩)))
 obtain⟨y0,ey0,my0⟩:=zO (xs:=b) (i:=0) (by omega)
 obtain⟨x0,ex0,mx0⟩:=zO (xs:=a) (i:=0) (by omega)
 refine wpS_bind (zo ey0 ?_)
 have I0:MA val (a.toList++b.toList) a b #[] 0 0:=⟨by simp,List.Pairwise.nil,zbF sa 0,zbF sb 0,fun x hx=>by simp at hx,fun x hx=>by simp at hx⟩
 have I1:MA val (a.toList++b.toList) a b #[y0] 0 1:=I0.pushB sa ey0 ex0 (by rw [zq ey0,zq ex0] at hf; exact hf)
 dsimp only
 by_cases hb1:1=b.size
 ·refine zh (by simpa using hb1) ?_
  exact wpS_pure (h _ (gallopOf st) (I1.doneB hb1))
 refine zi (by simpa using hb1) ?_
 by_cases ha1:0+1=a.size
 ·refine zh (by simpa using ha1) ?_
  exact wpS_pure (h _ (gallopOf st) (I1.last (by omega) hl))
 refine zi (by simpa using ha1) ?_
 refine wpS_bind (wpS_get ?_)
 refine wpS_bind (wpS_mono (wpS_forRange (I:=fun x c st'=>∃ g out ia ib mg,st'=zI st g∧c=(none,out,ia,ib,mg)∧MA val (a.toList++b.toList) a b out ia ib∧ia+1 < a.size∧ib < b.size∧x+1≤ia+ib)
  (Q:=fun c st'=>∃ g r o,st'=zI st g∧c=(some r,o)∧Good val (a.toList++b.toList) r.toList) ?step ?fin ⟨gallopOf st,#[y0],0,1,gallopOf st,rfl,rfl,I1,by omega,by omega,by omega⟩) ?post)
 case post =>
  rintro c st' ⟨g,r,o,rfl,rfl,hG⟩
  exact wpS_pure (h _ g hG)
 case fin =>
  rintro c st' ⟨g,out,ia,ib,mg,rfl,rfl,hI,b1,b2,b3⟩
  omega
 case step =>
  rintro x c st' _ hx ⟨g,out,ia,ib,mg,rfl,rfl,hI,b1,b2,b3⟩
  dsimp only
  refine wpS_bind (wpS_mono (wpS_forRange (I:=fun x c st'=>st'=zI st g∧∃ out' ia' ib' ac bc,c=(none,out',ia',ib',ac,bc)∧MA val (a.toList++b.toList) a b out' ia' ib'∧ia'+1 < a.size∧ib' < b.size∧ia+ib+x≤ia'+ib')
   (Q:=fun c st'=>st'=zI st g∧((∃ r o,c=(some r,o)∧Good val (a.toList++b.toList) r.toList)∨∃ out' ia' ib' ac bc,c=(none,out',ia',ib',ac,bc)∧MA val (a.toList++b.toList) a b out' ia' ib'∧ia'+1 < a.size∧ib' < b.size∧ia+ib+1≤ia'+ib')) ?step1 ?fin1 ⟨rfl,out,ia,ib,0,0,rfl,hI,b1,b2,by omega⟩) ?post1)
  case fin1 =>
   rintro c st' ⟨rfl,out',ia',ib',ac,bc,rfl,hI,b1,b2,b3⟩
   exact⟨rfl,.inr ⟨out',ia',ib',ac,bc,rfl,hI,b1,b2,by omega⟩⟩
  case step1 =>
   rintro x1 c st' _ hx1 ⟨rfl,out',ia',ib',ac,bc,rfl,hI,b1,b2,b3⟩
   dsimp only
   obtain⟨y,ey,my⟩:=zO (xs:=b) (i:=ib') (by omega)
   obtain⟨z,ez,mz⟩:=zO (xs:=a) (i:=ia') (by omega)
   refine wpS_bind (zo ey (wpS_bind (zo ez (wpS_bind (zf0 hC hk (mb y my) (ma z mz) ?_)))))
   dsimp only
   by_cases hyz:val y < val z
   ·refine zh (by simpa using hyz) ?_
    refine wpS_bind (zo ey ?_)
    have hI2:=hI.pushB sa ey ez (by omega)
    by_cases e1:ib'+1=b.size
    ·refine zh (by simpa using e1) ?_
     exact wpS_pure ⟨rfl,.inl ⟨_,_,rfl,hI2.doneB e1⟩⟩
    refine zi (by simpa using e1) ?_
    refine zad (fun _=>?_) (fun _=>?_)
    ·exact wpS_pure ⟨rfl,.inr ⟨_,_,_,_,_,rfl,hI2,b1,by omega,by omega⟩⟩
    ·exact wpS_pure ⟨rfl,_,_,_,_,_,rfl,hI2,b1,by omega,by omega⟩
   ·refine zi (by simpa using hyz) ?_
    refine wpS_bind (zo ez ?_)
    have hI2:=hI.pushA sb ey ez (by omega)
    by_cases e1:ia'+1+1=a.size
    ·refine zh (by simpa using e1) ?_
     exact wpS_pure ⟨rfl,.inl ⟨_,_,rfl,hI2.last e1 hl⟩⟩
    refine zi (by simpa using e1) ?_
    refine zad (fun _=>?_) (fun _=>?_)
    ·exact wpS_pure ⟨rfl,.inr ⟨_,_,_,_,_,rfl,hI2,by omega,b2,by omega⟩⟩
    ·exact wpS_pure ⟨rfl,_,_,_,_,_,rfl,hI2,by omega,b2,by omega⟩
  case post1 =>
   rintro c st' ⟨rfl,hc⟩
   rcases hc with ⟨r,o,rfl,hG⟩ | ⟨out1,ia1,ib1,ac1,bc1,rfl,hI1,c1,c2,c3⟩
   ·exact wpS_pure ⟨g,r,_,rfl,rfl,hG⟩
   dsimp only
   (refine wpS_bind (wpS_lift (wpAny_rule ⟨rfl,?_⟩)))
   refine wpS_bind (wpS_mono (wpS_forRange (I:=fun x c st'=>∃ g out' ia' ib' mg ac bc,st'=zI st g∧c=(none,out',ia',ib',mg,ac,bc)∧MA val (a.toList++b.toList) a b out' ia' ib'∧ia'+1 < a.size∧ib' < b.size∧ia1+ib1≤ia'+ib')
    (Q:=fun c st'=>∃ g,st'=zI st g∧((∃ r o,c=(some r,o)∧Good val (a.toList++b.toList) r.toList)∨∃ out' ia' ib' mg ac bc,c=(none,out',ia',ib',mg,ac,bc)∧MA val (a.toList++b.toList) a b out' ia' ib'∧ia'+1 < a.size∧ib' < b.size∧ia1+ib1≤ia'+ib')) ?step2 ?fin2 ⟨g,out1,ia1,ib1,_,ac1,bc1,rfl,rfl,hI1,c1,c2,Nat.le_refl _⟩) ?post2)
   case fin2 =>
    rintro c st' ⟨g,out',ia',ib',mg,ac,bc,rfl,rfl,hI,b1,b2,b3⟩
    exact⟨g,rfl,.inr ⟨out',ia',ib',mg,ac,bc,rfl,hI,b1,b2,b3⟩⟩
   case post2 =>
    rintro c st' ⟨g,rfl,hc⟩
    rcases hc with ⟨r,o,rfl,hG⟩ | ⟨out2,ia2,ib2,mg2,ac2,bc2,rfl,hI2,d1,d2,d3⟩
    ·exact wpS_pure ⟨g,r,_,rfl,rfl,hG⟩
    dsimp only
    refine wpS_bind (zbG (wpS_pure ⟨_,out2,ia2,ib2,_,rfl,rfl,hI2,d1,d2,by omega⟩))
   case step2 =>
    rintro x2 c st' _ hx2 ⟨g,out',ia',ib',mg',ac,bc,rfl,rfl,hI,b1,b2,b3⟩
    dsimp only
    obtain⟨y,ey,my⟩:=zO (xs:=b) (i:=ib') (by omega)
    by_cases hmg:mg' > 1
    all_goals
     first
      | refine zh hmg ?_
      | refine zi hmg ?_
     refine wpS_bind (zbG (wpS_bind (zo ey (wpS_bind (zaq hC hk (mb y my) (fun i hi=>(by
      obtain⟨p,ep,mp⟩:=zO (xs:=a) (i:=ia'+i) (by omega)
      exact⟨p,ep,ma p mp⟩)) (sa.sub (by omega) (by omega)) (by omega) fun k hk1 hk2 hk3=>?_)))))
     dsimp only
     have hI2:=hI.takeA (k:=k) sb ey fun i hi=>zbH (hk2 i hi)
     by_cases hk0:k > 0
     ·refine zh hk0 ?_
      by_cases e1:ia'+k+1=a.size
      ·refine zh (by simpa using e1) ?_
       exact wpS_pure ⟨_,rfl,.inl ⟨_,_,rfl,hI2.last e1 hl⟩⟩
      refine zi (by simpa using e1) ?_
      by_cases e2:ia'+k=a.size
      ·refine zh (by simpa using e2) ?_
       exact wpS_pure ⟨_,rfl,.inl ⟨_,_,rfl,hI2.doneA e2⟩⟩
      refine zi (by simpa using e2) ?_
      refine wpS_bind (zo ey ?_)
      obtain⟨z,ez,mz⟩:=zO (xs:=a) (i:=ia'+k) (by omega)
      have hI3:=hI2.pushB sa ey ez (by have:=zb9 (hk3 k (Nat.le_refl _) (by omega)); rw [zq ez] at this; omega)
      by_cases e3:ib'+1=b.size
      ·refine zh (by simpa using e3) ?_
       exact wpS_pure ⟨_,rfl,.inl ⟨_,_,rfl,hI3.doneB e3⟩⟩
      refine zi (by simpa using e3) ?_
      refine wpS_bind (zo ez (wpS_bind (zaq hC hk (ma z mz) (fun i hi=>(by
       obtain⟨p,ep,mp⟩:=zO (xs:=b) (i:=ib'+1+i) (by omega)
       exact⟨p,ep,mb p mp⟩)) (sb.sub (by omega) (by omega)) (by omega) fun j hj1 hj2 hj3=>?_)))
      dsimp only
      have hI4:=hI3.takeB (k:=j) sa ez fun i hi=>Int.le_of_lt (zaX (hj2 i hi))
      by_cases hj0:j > 0
      ·refine zh hj0 ?_
       by_cases e4:ib'+1+j=b.size
       ·refine zh (by simpa using e4) ?_
        exact wpS_pure ⟨_,rfl,.inl ⟨_,_,rfl,hI4.doneB e4⟩⟩
       refine zi (by simpa using e4) ?_
       obtain⟨y2,ey2,my2⟩:=zO (xs:=b) (i:=ib'+1+j) (by omega)
       refine wpS_bind (zo ez ?_)
       have hIc:=hI4.pushA sb ey2 ez (by have:=zbn (hj3 j (Nat.le_refl _) (by omega)); rw [zq ey2] at this; exact this)
       by_cases e9:ia'+k+1+1=a.size
       ·refine zh (by simpa using e9) ?_
        exact wpS_pure ⟨_,rfl,.inl ⟨_,_,rfl,hIc.last e9 hl⟩⟩
       refine zi (by simpa using e9) ?_
       refine zad (fun _=>?_) (fun _=>?_)
       ·exact wpS_pure ⟨_,rfl,.inr ⟨_,_,_,_,_,_,rfl,hIc,by omega,by omega,by omega⟩⟩
       ·exact wpS_pure ⟨_,_,_,_,_,_,_,rfl,rfl,hIc,by omega,by omega,by omega⟩
      ·refine zi hj0 ?_
       have hj00:j=0:=by omega
       subst hj00
       obtain⟨y2,ey2,my2⟩:=zO (xs:=b) (i:=ib'+1) (by omega)
       refine wpS_bind (zo ez ?_)
       have hIc:=hI3.pushA sb ey2 ez (by have:=zbn (hj3 0 (Nat.le_refl _) (by omega)); rw [Nat.add_zero,zq ey2] at this; exact this)
       by_cases e9:ia'+k+1+1=a.size
       ·refine zh (by simpa using e9) ?_
        exact wpS_pure ⟨_,rfl,.inl ⟨_,_,rfl,hIc.last e9 hl⟩⟩
       refine zi (by simpa using e9) ?_
       refine zad (fun _=>?_) (fun _=>?_)
       ·exact wpS_pure ⟨_,rfl,.inr ⟨_,_,_,_,_,_,rfl,hIc,by omega,by omega,by omega⟩⟩
       ·exact wpS_pure ⟨_,_,_,_,_,_,_,rfl,rfl,hIc,by omega,by omega,by omega⟩
     ·refine zi hk0 ?_
      have hk00:k=0:=by omega
      subst hk00
      refine wpS_bind (zo ey ?_)
      obtain⟨z,ez,mz⟩:=zO (xs:=a) (i:=ia') (by omega)
      have hI3:=hI.pushB sa ey ez (by have:=zb9 (hk3 0 (Nat.le_refl _) (by omega)); rw [Nat.add_zero,zq ez] at this; omega)
      by_cases e3:ib'+1=b.size
      ·refine zh (by simpa using e3) ?_
       exact wpS_pure ⟨_,rfl,.inl ⟨_,_,rfl,hI3.doneB e3⟩⟩
      refine zi (by simpa using e3) ?_
      refine wpS_bind (zo ez (wpS_bind (zaq hC hk (ma z mz) (fun i hi=>(by
       obtain⟨p,ep,mp⟩:=zO (xs:=b) (i:=ib'+1+i) (by omega)
       exact⟨p,ep,mb p mp⟩)) (sb.sub (by omega) (by omega)) (by omega) fun j hj1 hj2 hj3=>?_)))
      dsimp only
      have hI4:=hI3.takeB (k:=j) sa ez fun i hi=>Int.le_of_lt (zaX (hj2 i hi))
      by_cases hj0:j > 0
      ·refine zh hj0 ?_
       by_cases e4:ib'+1+j=b.size
       ·refine zh (by simpa using e4) ?_
        exact wpS_pure ⟨_,rfl,.inl ⟨_,_,rfl,hI4.doneB e4⟩⟩
       refine zi (by simpa using e4) ?_
       obtain⟨y2,ey2,my2⟩:=zO (xs:=b) (i:=ib'+1+j) (by omega)
       refine wpS_bind (zo ez ?_)
       have hIc:=hI4.pushA sb ey2 ez (by have:=zbn (hj3 j (Nat.le_refl _) (by omega)); rw [zq ey2] at this; exact this)
       by_cases e9:ia'+1+1=a.size
       ·refine zh (by simpa using e9) ?_
        exact wpS_pure ⟨_,rfl,.inl ⟨_,_,rfl,hIc.last e9 hl⟩⟩
       refine zi (by simpa using e9) ?_
       refine zad (fun _=>?_) (fun _=>?_)
       ·exact wpS_pure ⟨_,rfl,.inr ⟨_,_,_,_,_,_,rfl,hIc,by omega,by omega,by omega⟩⟩
       ·exact wpS_pure ⟨_,_,_,_,_,_,_,rfl,rfl,hIc,by omega,by omega,by omega⟩
      ·refine zi hj0 ?_
       have hj00:j=0:=by omega
       subst hj00
       obtain⟨y2,ey2,my2⟩:=zO (xs:=b) (i:=ib'+1) (by omega)
       refine wpS_bind (zo ez ?_)
       have hIc:=hI3.pushA sb ey2 ez (by have:=zbn (hj3 0 (Nat.le_refl _) (by omega)); rw [Nat.add_zero,zq ey2] at this; exact this)
       by_cases e9:ia'+1+1=a.size
       ·refine zh (by simpa using e9) ?_
        exact wpS_pure ⟨_,rfl,.inl ⟨_,_,rfl,hIc.last e9 hl⟩⟩
       refine zi (by simpa using e9) ?_
       refine zad (fun _=>?_) (fun _=>?_)
       ·exact wpS_pure ⟨_,rfl,.inr ⟨_,_,_,_,_,_,rfl,hIc,by omega,by omega,by omega⟩⟩
       ·exact wpS_pure ⟨_,_,_,_,_,_,_,rfl,rfl,hIc,by omega,by omega,by omega⟩
end
end Srt
end
section
set_option maxHeartbeats 3995000
namespace Srt
open PySem PyProof.Rows
structure MH (val:Keyed→Int) (T l r o:List Keyed):Prop where
 perm:(l++r++o).Perm T
 so:Ris val o
 sl:Ris val l
 sr:Ris val r
 lo:Le val l o
 ro:Le val r o
section
variable {val:Keyed→Int} {T o l l1 l2 r r1 r2:List Keyed}
theorem MH.takeA (h:MH val T (l1++l2) r o) (hle:Le val r l2):MH val T l1 r (l2++o):=by
 obtain⟨a1,a2,a3⟩:=zP.mp h.sl
 refine⟨?_,zP.mpr ⟨a2,h.so,h.lo.right⟩,a1,h.sr,a3.app' h.lo.left,hle.app' h.ro⟩
 refine List.Perm.trans ?_ h.perm
 have:(r++l2).Perm (l2++r):=List.perm_append_comm
 have:=(this.append_left l1).append_right o
 simpa [List.append_assoc] using this
theorem MH.takeB (h:MH val T l (r1++r2) o) (hle:Le val l r2):MH val T l r1 (r2++o):=by
 obtain⟨a1,a2,a3⟩:=zP.mp h.sr
 exact⟨by have:=h.perm; simpa [List.append_assoc] using this,zP.mpr ⟨a2,h.so,h.ro.right⟩,h.sl,a1,hle.app' h.lo,a3.app' h.ro.left⟩
theorem MH.doneA (h:MH val T [] r o):Good val T (r++o):=⟨by have:=h.perm; simpa using this,zP.mpr ⟨h.sr,h.so,h.ro⟩⟩
theorem MH.doneB (h:MH val T l [] o):Good val T (l++o):=⟨by have:=h.perm; simpa using this,zP.mpr ⟨h.sl,h.so,h.lo⟩⟩
theorem MH.first (h:MH val T l r o) (hle:Le val r l):Good val T (r++l++o):=by
 refine⟨List.Perm.trans (List.perm_append_comm.append_right _) h.perm,?_⟩
 exact zP.mpr ⟨zP.mpr ⟨h.sr,h.sl,hle⟩,h.so,h.ro.app h.lo⟩
end
section
variable {val:Keyed→Int} {T:List Keyed} {a b out:Array Keyed} {na nb:Nat}
abbrev MB (val:Keyed→Int) (T:List Keyed) (a b out:Array Keyed) (na nb:Nat):Prop:=MH val T (a.toList.take na) (b.toList.take nb) out.toList.reverse
theorem zeG {xs:Array Keyed} {n:Nat} {p:Keyed} (h:xs[n]? = some p):xs.toList.take (n+1)=xs.toList.take n++[p]:=by
 rw [List.take_succ,Array.getElem?_toList,h]
 rfl
theorem zdH {xs:Array Keyed} (h:SIn val xs 0 xs.size) (i:Nat):Ris val (xs.toList.take i):=by
 have:=zbF h 0
 rw [List.drop_zero] at this
 exact List.Pairwise.sublist (List.take_sublist _ _) this
theorem zct {xs:Array Keyed} {n:Nat} {p:Keyed} (h:p∈xs.toList.take n):∃ j,j < n∧j < xs.size∧xs[j]? = some p:=by
 (obtain⟨j,hj,e⟩:=List.getElem_of_mem h)
 have hj2:j < n∧j < xs.toList.length:=by
  rw [List.length_take] at hj
  omega
 refine⟨j,hj2.1,by simpa using hj2.2,?_⟩
 rw [← Array.getElem?_toList,List.getElem?_eq_getElem hj2.2,← e,List.getElem_take]
theorem zca {xs:Array Keyed} {n:Nat} {p q:Keyed} (h:SIn val xs 0 xs.size) (hp:xs[n]? = some p) (hq:q∈xs.toList.take (n+1)):val q≤val p:=by
 obtain⟨j,hj,hjs,e⟩:=zct hq
 have hn:=(Array.getElem?_eq_some_iff.mp hp).1
 have:=h j n (Nat.zero_le _) (by omega) hn
 rw [zq e,zq hp] at this
 exact this
theorem MB.pushA {y x:Keyed} (h:MB val T a b out (na+1) nb) (sb:SIn val b 0 b.size) (hn:1≤nb) (hy:b[nb - 1]? = some y) (hx:a[na]? = some x) (hle:val y≤val x):MB val T a b (out.push x) na nb:=by
 unfold MB at h ⊢
 rw [zeG hx] at h
 have:=MH.takeA h fun p hp q hq=>by
  rw [List.mem_singleton.mp hq]
  exact Int.le_trans (zca sb hy (by rw [show nb - 1+1=nb by omega]; exact hp)) hle
 simpa using this
theorem MB.pushB {y x:Keyed} (h:MB val T a b out na (nb+1)) (sa:SIn val a 0 a.size) (hn:1≤na) (hy:b[nb]? = some y) (hx:a[na - 1]? = some x) (hle:val x≤val y):MB val T a b (out.push y) na nb:=by
 unfold MB at h ⊢
 rw [zeG hy] at h
 have:=MH.takeB h fun p hp q hq=>by
  rw [List.mem_singleton.mp hq]
  exact Int.le_trans (zca sa hx (by rw [show na - 1+1=na by omega]; exact hp)) hle
 simpa using this
theorem zeH (xs:Array Keyed) {i n:Nat} (h:i≤n):xs.toList.take n=xs.toList.take i++(xs.extract i n).toList:=by
 rw [Array.toList_extract]
 simp only [List.extract_eq_take_drop]
 rw [← List.take_append_drop i (xs.toList.take n),List.take_take,Nat.min_eq_left h,List.drop_take]
theorem MB.takeA {y:Keyed} {at':Nat} (h:MB val T a b out na nb) (sb:SIn val b 0 b.size) (hat:at'≤na) (hn:1≤nb) (hy:b[nb - 1]? = some y) (hle:∀ i,at'≤i→i < na→val y≤Vk val a i):MB val T a b (out++(a.extract at' na).reverse) at' nb:=by
 unfold MB at h ⊢
 rw [zeH a hat] at h
 have:=MH.takeA h fun p hp q hq=>by
  have hq2:q∈(a.extract at' (at'+(na - at'))).toList:=by rw [show at'+(na - at')=na by omega]; exact hq
  obtain⟨j,hj,e⟩:=zb8 hq2
  have:=hle (at'+j) (by omega) (by omega)
  rw [zq e] at this
  exact Int.le_trans (zca sb hy (by rw [show nb - 1+1=nb by omega]; exact hp)) this
 simpa using this
theorem MB.takeB {x:Keyed} {at':Nat} (h:MB val T a b out na nb) (sa:SIn val a 0 a.size) (hat:at'≤nb) (hn:1≤na) (hx:a[na - 1]? = some x) (hle:∀ i,at'≤i→i < nb→val x≤Vk val b i):MB val T a b (out++(b.extract at' nb).reverse) na at':=by
 unfold MB at h ⊢
 rw [zeH b hat] at h
 have:=MH.takeB h fun p hp q hq=>by
  have hq2:q∈(b.extract at' (at'+(nb - at'))).toList:=by rw [show at'+(nb - at')=nb by omega]; exact hq
  obtain⟨j,hj,e⟩:=zb8 hq2
  have:=hle (at'+j) (by omega) (by omega)
  rw [zq e] at this
  exact Int.le_trans (zca sa hx (by rw [show na - 1+1=na by omega]; exact hp)) this
 simpa using this
theorem zaM (xs:Array Keyed) (n:Nat):(xs.extract 0 n).toList=xs.toList.take n:=by
 rw [Array.toList_extract]
 simp [List.extract_eq_take_drop]
theorem MB.doneA (h:MB val T a b out na nb) (e:na=0):Good val T (a.extract 0 na++b.extract 0 nb++out.reverse).toList:=by
 unfold MB at h
 subst e
 have:=MH.doneA h
 rw [Array.toList_append,Array.toList_append,zaM,zaM,List.take_zero,List.nil_append,Array.toList_reverse]
 exact this
theorem MB.doneB (h:MB val T a b out na nb) (e:nb=0):Good val T (a.extract 0 na++b.extract 0 nb++out.reverse).toList:=by
 unfold MB at h
 subst e
 have:=MH.doneB h
 rw [Array.toList_append,Array.toList_append,zaM,zaM,List.take_zero,List.append_nil,Array.toList_reverse]
 exact this
theorem MB.first (h:MB val T a b out na nb) (e:nb=1) (sa:SIn val a 0 a.size) (h2:1≤b.size) (hf:Vk val b 0≤Vk val a 0):Good val T (b.extract 0 nb++a.extract 0 na++out.reverse).toList:=by
 unfold MB at h
 subst e
 have:=MH.first h fun p hp q hq=>by
  obtain⟨j,hj,hjs,ej⟩:=zct hp
  have hj0:j=0:=by omega
  subst hj0
  obtain⟨i,hi,his,ei⟩:=zct hq
  have:=sa 0 i (Nat.zero_le _) (Nat.zero_le _) his
  rw [zq ei] at this
  rw [zq ej] at hf
  omega
 rw [Array.toList_append,Array.toList_append,zaM,zaM,Array.toList_reverse]
 exact this
end
section
variable {prog:Program} {w:World} {A:Around} {E:Value→Shared→Prop} {s:Shared} {a₀:Array Keyed} {κ:SortKind} {val:Keyed→Int}
theorem zff {st:SortSt} {a b:Array Keyed} {Q:Array Keyed→SortSt→Prop} (hC:Cmp prog w A s κ val a₀) (hk:kindOf st=κ) (ma:∀ p∈a.toList,p∈a₀.toList) (mb:∀ p∈b.toList,p∈a₀.toList)
  (sa:SIn val a 0 a.size) (sb:SIn val b 0 b.size) (h1:1≤a.size) (h2:1≤b.size) (hf:Vk val b 0≤Vk val a 0) (hl:∀ i,i < b.size→Vk val b i≤Vk val a (a.size - 1))
  (h:∀ out g,Good val (a.toList++b.toList) out.toList→Q out (zI st g)):wpS (model prog w) A E s (zf4 a b) Q st:=by
 refine zdi ?_
 wp_delta
 wp_delta
 refine zdj ?_
 (refine wpS_bind (wpS_lift (wpAny_rule ⟨rfl,?_⟩)))
 obtain⟨x0,ex0,mx0⟩:=zO (xs:=a) (i:=a.size - 1) (by omega)
 obtain⟨y0,ey0,my0⟩:=zO (xs:=b) (i:=b.size - 1) (by omega)
 refine wpS_bind (zo ex0 ?_)
 have I0:MB val (a.toList++b.toList) a b #[] (a.size - 1+1) b.size:=by
  refine⟨?_,List.Pairwise.nil,zdH sa _,zdH sb _,fun x _ y hy=>by simp at hy,fun x _ y hy=>by simp at hy⟩
  rw [show a.size - 1+1=a.size by omega,List.take_of_length_le (by simp),List.take_of_length_le (by simp)]
  simp
 have I1:MB val (a.toList++b.toList) a b #[x0] (a.size - 1) b.size:=I0.pushA sb h2 ey0 ex0 (by have:=hl (b.size - 1) (by omega); rw [zq ey0,zq ex0] at this; exact this)
 dsimp only
 by_cases ha1:a.size - 1=0
 ·refine zh (by simpa using ha1) ?_
  exact wpS_pure (h _ (gallopOf st) (I1.doneA ha1))
 refine zi (by simpa using ha1) ?_
 by_cases hb1:b.size=1
 ·refine zh (by simpa using hb1) ?_
  exact wpS_pure (h _ (gallopOf st) (I1.first hb1 sa h2 hf))
 refine zi (by simpa using hb1) ?_
 refine wpS_bind (wpS_get ?_)
 refine wpS_bind (wpS_mono (wpS_forRange (I:=fun x c st'=>∃ g out na nb mg,st'=zI st g∧c=(none,na,nb,out,mg)∧MB val (a.toList++b.toList) a b out na nb∧1≤na∧2≤nb∧na≤a.size∧nb≤b.size∧x+na+nb+1≤a.size+b.size)
  (Q:=fun c st'=>∃ g r o,st'=zI st g∧c=(some r,o)∧Good val (a.toList++b.toList) r.toList) ?step ?fin ⟨gallopOf st,#[x0],a.size - 1,b.size,gallopOf st,rfl,rfl,I1,by omega,by omega,by omega,by omega,by omega⟩) ?post)
 case post =>
  rintro c st' ⟨g,r,o,rfl,rfl,hG⟩
  exact wpS_pure (h _ g hG)
 case fin =>
  rintro c st' ⟨g,out,na,nb,mg,rfl,rfl,hI,b1,b2,b3⟩
  omega
 case step =>
  rintro x c st' _ hx ⟨g,out,na,nb,mg,rfl,rfl,hI,b1,b2,b4,b5,b3⟩
  dsimp only
  refine wpS_bind (wpS_mono (wpS_forRange (I:=fun x c st'=>st'=zI st g∧∃ out' na' nb' ac bc,c=(none,na',nb',out',ac,bc)∧MB val (a.toList++b.toList) a b out' na' nb'∧1≤na'∧2≤nb'∧na'≤a.size∧nb'≤b.size∧x+na'+nb'≤na+nb)
   (Q:=fun c st'=>st'=zI st g∧((∃ r o,c=(some r,o)∧Good val (a.toList++b.toList) r.toList)∨∃ out' na' nb' ac bc,c=(none,na',nb',out',ac,bc)∧MB val (a.toList++b.toList) a b out' na' nb'∧1≤na'∧2≤nb'∧na'≤a.size∧nb'≤b.size∧1+na'+nb'≤na+nb)) ?step1 ?fin1 ⟨rfl,out,na,nb,0,0,rfl,hI,b1,b2,b4,b5,by omega⟩) ?post1)
  case fin1 =>
   rintro c st' ⟨rfl,out',na',nb',ac,bc,rfl,hI,b1,b2,b4,b5,b3⟩
   exact⟨rfl,.inr ⟨out',na',nb',ac,bc,rfl,hI,b1,b2,b4,b5,by omega⟩⟩
  case step1 =>
   rintro x1 c st' _ hx1 ⟨rfl,out',na',nb',ac,bc,rfl,hI,b1,b2,b4,b5,b3⟩
   dsimp only
   obtain⟨n1,rfl⟩:∃ n1,na'=n1+1:=⟨na' - 1,by omega⟩
   obtain⟨m1,rfl⟩:∃ m1,nb'=m1+1:=⟨nb' - 1,by omega⟩
   simp only [Nat.add_sub_cancel]
   obtain⟨y,ey,my⟩:=zO (xs:=b) (i:=m1) (by omega)
   obtain⟨z,ez,mz⟩:=zO (xs:=a) (i:=n1) (by omega)
   refine wpS_bind (zo ey (wpS_bind (zo ez (wpS_bind (zf0 hC hk (mb y my) (ma z mz) ?_)))))
   dsimp only
   by_cases hyz:val y < val z
   ·refine zh (by simpa using hyz) ?_
    refine wpS_bind (zo ez ?_)
    have hI2:=hI.pushA sb (by omega) ey ez (by omega)
    by_cases e1:n1=0
    ·refine zh (by simpa using e1) ?_
     exact wpS_pure ⟨rfl,.inl ⟨_,_,rfl,hI2.doneA e1⟩⟩
    refine zi (by simpa using e1) ?_
    refine zad (fun _=>?_) (fun _=>?_)
    ·exact wpS_pure ⟨rfl,.inr ⟨_,_,_,_,_,rfl,hI2,by omega,by omega,by omega,by omega,by omega⟩⟩
    ·exact wpS_pure ⟨rfl,_,_,_,_,_,rfl,hI2,by omega,by omega,by omega,by omega,by omega⟩
   ·refine zi (by simpa using hyz) ?_
    refine wpS_bind (zo ey ?_)
    have hI2:=hI.pushB sa (by omega) ey ez (by omega)
    by_cases e1:m1=1
    ·refine zh (by simpa using e1) ?_
     exact wpS_pure ⟨rfl,.inl ⟨_,_,rfl,hI2.first e1 sa h2 hf⟩⟩
    refine zi (by simpa using e1) ?_
    refine zad (fun _=>?_) (fun _=>?_)
    ·exact wpS_pure ⟨rfl,.inr ⟨_,_,_,_,_,rfl,hI2,by omega,by omega,by omega,by omega,by omega⟩⟩
    ·exact wpS_pure ⟨rfl,_,_,_,_,_,rfl,hI2,by omega,by omega,by omega,by omega,by omega⟩
  case post1 =>
   rintro c st' ⟨rfl,hc⟩
   rcases hc with ⟨r,o,rfl,hG⟩ | ⟨out1,na1,nb1,ac1,bc1,rfl,hI1,c1,c2,c4,c5,c3⟩
   ·exact wpS_pure ⟨g,r,_,rfl,rfl,hG⟩
   dsimp only
   (refine wpS_bind (wpS_lift (wpAny_rule ⟨rfl,?_⟩)))
   refine wpS_bind (wpS_mono (wpS_forRange (I:=fun x c st'=>∃ g out' na' nb' mg ac bc,st'=zI st g∧c=(none,na',nb',out',mg,ac,bc)∧MB val (a.toList++b.toList) a b out' na' nb'∧1≤na'∧2≤nb'∧na'≤a.size∧nb'≤b.size∧na'+nb'≤na1+nb1)
    (Q:=fun c st'=>∃ g,st'=zI st g∧((∃ r o,c=(some r,o)∧Good val (a.toList++b.toList) r.toList)∨∃ out' na' nb' mg ac bc,c=(none,na',nb',out',mg,ac,bc)∧MB val (a.toList++b.toList) a b out' na' nb'∧1≤na'∧2≤nb'∧na'≤a.size∧nb'≤b.size∧na'+nb'≤na1+nb1)) ?step2 ?fin2 ⟨g,out1,na1,nb1,_,ac1,bc1,rfl,rfl,hI1,c1,c2,c4,c5,Nat.le_refl _⟩) ?post2)
   case fin2 =>
    rintro c st' ⟨g,out',na',nb',mg,ac,bc,rfl,rfl,hI,b1,b2,b4,b5,b3⟩
    exact⟨g,rfl,.inr ⟨out',na',nb',mg,ac,bc,rfl,hI,b1,b2,b4,b5,b3⟩⟩
   case post2 =>
    rintro c st' ⟨g,rfl,hc⟩
    rcases hc with ⟨r,o,rfl,hG⟩ | ⟨out2,na2,nb2,mg2,ac2,bc2,rfl,hI2,d1,d2,d4,d5,d3⟩
    ·exact wpS_pure ⟨g,r,_,rfl,rfl,hG⟩
    dsimp only
    refine wpS_bind (zbG (wpS_pure ⟨_,out2,na2,nb2,_,rfl,rfl,hI2,d1,d2,d4,d5,by omega⟩))
   case step2 =>
    rintro x2 c st' _ hx2 ⟨g,out',na',nb',mg',ac,bc,rfl,rfl,hI,b1,b2,b4,b5,b3⟩
    dsimp only
    obtain⟨m1,rfl⟩:∃ m1,nb'=m1+1:=⟨nb' - 1,by omega⟩
    simp only [Nat.add_sub_cancel]
    obtain⟨y,ey,my⟩:=zO (xs:=b) (i:=m1) (by omega)
    by_cases hmg:mg' > 1
    all_goals
     first
      | refine zh hmg ?_
      | refine zi hmg ?_
     refine wpS_bind (zbG (wpS_bind (zo ey (wpS_bind (zaq hC hk (mb y my) (fun i hi=>(by
      obtain⟨p,ep,mp⟩:=zO (xs:=a) (i:=0+i) (by omega)
      exact⟨p,ep,ma p mp⟩)) (sa.sub (by omega) (by omega)) (by omega) fun k hk1 hk2 hk3=>?_)))))
     dsimp only
     have hI2:=hI.takeA (at':=k) sb hk1 (by omega) ey fun i h1 h2=>Int.le_of_lt (by have:=zb9 (hk3 i h1 h2); rwa [Nat.zero_add] at this)
     by_cases hk0:na' - k > 0
     ·refine zh hk0 ?_
      by_cases e1:k=0
      ·refine zh (by simpa using e1) ?_
       exact wpS_pure ⟨_,rfl,.inl ⟨_,_,rfl,hI2.doneA e1⟩⟩
      refine zi (by simpa using e1) ?_
      obtain⟨n1,rfl⟩:∃ n1,k=n1+1:=⟨k - 1,by omega⟩
      simp only [Nat.add_sub_cancel]
      refine wpS_bind (zo ey ?_)
      obtain⟨z,ez,mz⟩:=zO (xs:=a) (i:=n1) (by omega)
      have hI3:=hI2.pushB sa (by omega) ey (show a[n1+1 - 1]? = some z by rw [Nat.add_sub_cancel]; exact ez) (by have:=zbH (hk2 n1 (by omega)); rw [Nat.zero_add,zq ez] at this; exact this)
      by_cases e3:m1=1
      ·refine zh (by simpa using e3) ?_
       exact wpS_pure ⟨_,rfl,.inl ⟨_,_,rfl,hI3.first e3 sa h2 hf⟩⟩
      refine zi (by simpa using e3) ?_
      refine wpS_bind (zo ez (wpS_bind (zaq hC hk (ma z mz) (fun i hi=>(by
       obtain⟨p,ep,mp⟩:=zO (xs:=b) (i:=0+i) (by omega)
       exact⟨p,ep,mb p mp⟩)) (sb.sub (by omega) (by omega)) (by omega) fun j hj1 hj2 hj3=>?_)))
      dsimp only
      have hI4:=hI3.takeB (at':=j) sa hj1 (by omega) (show a[n1+1 - 1]? = some z by rw [Nat.add_sub_cancel]; exact ez) fun i h1 h2=>(by have:=zbn (hj3 i h1 h2); rwa [Nat.zero_add] at this)
      by_cases hj0:m1 - j > 0
      ·refine zh hj0 ?_
       by_cases e4:j=1
       ·refine zh (by simpa using e4) ?_
        exact wpS_pure ⟨_,rfl,.inl ⟨_,_,rfl,hI4.first e4 sa h2 hf⟩⟩
       refine zi (by simpa using e4) ?_
       by_cases e5:j=0
       ·refine zh (by simpa using e5) ?_
        exact wpS_pure ⟨_,rfl,.inl ⟨_,_,rfl,hI4.doneB e5⟩⟩
       refine zi (by simpa using e5) ?_
       obtain⟨y2,ey2,my2⟩:=zO (xs:=b) (i:=j - 1) (by omega)
       refine wpS_bind (zo ez ?_)
       have hIc:=hI4.pushA sb (by omega) ey2 ez (by have:=zaX (hj2 (j - 1) (by omega)); rw [Nat.zero_add,zq ey2] at this; omega)
       by_cases e9:n1=0
       ·refine zh (by simpa using e9) ?_
        exact wpS_pure ⟨_,rfl,.inl ⟨_,_,rfl,hIc.doneA e9⟩⟩
       refine zi (by simpa using e9) ?_
       refine zad (fun _=>?_) (fun _=>?_)
       ·exact wpS_pure ⟨_,rfl,.inr ⟨_,_,_,_,_,_,rfl,hIc,by omega,by omega,by omega,by omega,by omega⟩⟩
       ·exact wpS_pure ⟨_,_,_,_,_,_,_,rfl,rfl,hIc,by omega,by omega,by omega,by omega,by omega⟩
      ·refine zi hj0 ?_
       have hjm:j=m1:=by omega
       subst hjm
       obtain⟨y2,ey2,my2⟩:=zO (xs:=b) (i:=j - 1) (by omega)
       refine wpS_bind (zo ez ?_)
       have hIc:=hI3.pushA sb (by omega) ey2 ez (by have:=zaX (hj2 (j - 1) (by omega)); rw [Nat.zero_add,zq ey2] at this; omega)
       by_cases e9:n1=0
       ·refine zh (by simpa using e9) ?_
        exact wpS_pure ⟨_,rfl,.inl ⟨_,_,rfl,hIc.doneA e9⟩⟩
       refine zi (by simpa using e9) ?_
       refine zad (fun _=>?_) (fun _=>?_)
       ·exact wpS_pure ⟨_,rfl,.inr ⟨_,_,_,_,_,_,rfl,hIc,by omega,by omega,by omega,by omega,by omega⟩⟩
       ·exact wpS_pure ⟨_,_,_,_,_,_,_,rfl,rfl,hIc,by omega,by omega,by omega,by omega,by omega⟩
     ·refine zi hk0 ?_
      have hkn:k=na':=by omega
      subst hkn
      obtain⟨n1,rfl⟩:∃ n1,k=n1+1:=⟨k - 1,by omega⟩
      simp only [Nat.add_sub_cancel]
      refine wpS_bind (zo ey ?_)
      obtain⟨z,ez,mz⟩:=zO (xs:=a) (i:=n1) (by omega)
      have hI3:=hI.pushB sa (by omega) ey (show a[n1+1 - 1]? = some z by rw [Nat.add_sub_cancel]; exact ez) (by have:=zbH (hk2 n1 (by omega)); rw [Nat.zero_add,zq ez] at this; exact this)
      by_cases e3:m1=1
      ·refine zh (by simpa using e3) ?_
       exact wpS_pure ⟨_,rfl,.inl ⟨_,_,rfl,hI3.first e3 sa h2 hf⟩⟩
      refine zi (by simpa using e3) ?_
      refine wpS_bind (zo ez (wpS_bind (zaq hC hk (ma z mz) (fun i hi=>(by
       obtain⟨p,ep,mp⟩:=zO (xs:=b) (i:=0+i) (by omega)
       exact⟨p,ep,mb p mp⟩)) (sb.sub (by omega) (by omega)) (by omega) fun j hj1 hj2 hj3=>?_)))
      dsimp only
      have hI4:=hI3.takeB (at':=j) sa hj1 (by omega) (show a[n1+1 - 1]? = some z by rw [Nat.add_sub_cancel]; exact ez) fun i h1 h2=>(by have:=zbn (hj3 i h1 h2); rwa [Nat.zero_add] at this)
      by_cases hj0:m1 - j > 0
      ·refine zh hj0 ?_
       by_cases e4:j=1
       ·refine zh (by simpa using e4) ?_
        exact wpS_pure ⟨_,rfl,.inl ⟨_,_,rfl,hI4.first e4 sa h2 hf⟩⟩
       refine zi (by simpa using e4) ?_
       by_cases e5:j=0
       ·refine zh (by simpa using e5) ?_
        exact wpS_pure ⟨_,rfl,.inl ⟨_,_,rfl,hI4.doneB e5⟩⟩
       refine zi (by simpa using e5) ?_
       obtain⟨y2,ey2,my2⟩:=zO (xs:=b) (i:=j - 1) (by omega)
       refine wpS_bind (zo ez ?_)
       have hIc:=hI4.pushA sb (by omega) ey2 ez (by have:=zaX (hj2 (j - 1) (by omega)); rw [Nat.zero_add,zq ey2] at this; omega)
       by_cases e9:n1=0
       ·refine zh (by simpa using e9) ?_
        exact wpS_pure ⟨_,rfl,.inl ⟨_,_,rfl,hIc.doneA e9⟩⟩
       refine zi (by simpa using e9) ?_
       refine zad (fun _=>?_) (fun _=>?_)
       ·exact wpS_pure ⟨_,rfl,.inr ⟨_,_,_,_,_,_,rfl,hIc,by omega,by omega,by omega,by omega,by omega⟩⟩
       ·exact wpS_pure ⟨_,_,_,_,_,_,_,rfl,rfl,hIc,by omega,by omega,by omega,by omega,by omega⟩
      ·refine zi hj0 ?_
       have hjm:j=m1:=by omega
       subst hjm
       obtain⟨y2,ey2,my2⟩:=zO (xs:=b) (i:=j - 1) (by omega)
       refine wpS_bind (zo ez ?_)
       have hIc:=hI3.pushA sb (by omega) ey2 ez (by have:=zaX (hj2 (j - 1) (by omega)); rw [Nat.zero_add,zq ey2] at this; omega)
       by_cases e9:n1=0
       ·refine zh (by simpa using e9) ?_
        exact wpS_pure ⟨_,rfl,.inl ⟨_,_,rfl,hIc.doneA e9⟩⟩
       refine zi (by simpa using e9) ?_
       refine zad (fun _=>?_) (fun _=>?_)
       ·exact wpS_pure ⟨_,rfl,.inr ⟨_,_,_,_,_,_,rfl,hIc,by omega,by omega,by omega,by omega,by omega⟩⟩
       ·exact wpS_pure ⟨_,_,_,_,_,_,_,rfl,rfl,hIc,by omega,by omega,by omega,by omega,by omega⟩
end
end Srt
end
section
set_option maxHeartbeats 3995000
namespace Srt
open PySem PyProof.Rows
def wb (sa:Nat) (l:List (Keyed×Nat)) (xs:Array Keyed):Array Keyed:=l.foldl (fun a (p,j)=>a.setIfInBounds (sa+j) p) xs
theorem zf7 (sa:Nat):∀ (l:List Keyed) (n:Nat) (xs:Array Keyed) (k:Nat),sa+n+l.length≤xs.size→(wb sa (l.zipIdx n) xs)[k]? = if sa+n≤k∧k < sa+n+l.length then l[k - (sa+n)]? else xs[k]?
 | [],n,xs,k,h=>by
  rw [if_neg (by simp only [List.length_nil]; omega)]
  rfl
 | p :: l,n,xs,k,h=>by
  have hl:(p :: l).length=l.length+1:=rfl
  rw [hl] at h ⊢
  show (wb sa (l.zipIdx (n+1)) (xs.setIfInBounds (sa+n) p))[k]? = _
  rw [zf7 sa l (n+1) _ k (by rw [Array.size_setIfInBounds]; omega)]
  by_cases h1:sa+(n+1)≤k∧k < sa+(n+1)+l.length
  ·rw [if_pos h1,if_pos (by omega),show k - (sa+n)=k - (sa+(n+1))+1 by omega,List.getElem?_cons_succ]
  ·rw [if_neg h1,Array.getElem?_setIfInBounds]
   by_cases h2:sa+n=k
   ·rw [if_pos h2,if_pos (by omega),if_pos (by omega),show k - (sa+n)=0 by omega]
    rfl
   ·rw [if_neg h2,if_neg (by omega)]
theorem zgG {sa:Nat} {m xs:Array Keyed} (h:sa+m.size≤xs.size):(wb sa m.toList.zipIdx xs).toList=xs.toList.take sa++m.toList++xs.toList.drop (sa+m.size):=by
 have hm:m.toList.length=m.size:=by simp
 have hx:xs.toList.length=xs.size:=by simp
 refine List.ext_getElem? fun k=>?_
 rw [Array.getElem?_toList,zf7 sa m.toList 0 xs k (by rw [hm]; omega),hm,Nat.add_zero]
 by_cases h1:k < sa
 ·rw [if_neg (by omega),List.append_assoc,List.getElem?_append_left (by rw [List.length_take]; omega),List.getElem?_take_of_lt h1,Array.getElem?_toList]
 ·by_cases h2:k < sa+m.size
  ·rw [if_pos (by omega),List.append_assoc,List.getElem?_append_right (by rw [List.length_take]; omega),List.length_take,hx,show min sa xs.size=sa by omega,List.getElem?_append_left (by omega)]
  ·rw [if_neg (by omega),List.getElem?_append_right (by rw [List.length_append,List.length_take]; omega),List.length_append,List.length_take,hx,show min sa xs.size=sa by omega,hm,List.getElem?_drop,show sa+m.size+(k - (sa+m.size))=k by omega,Array.getElem?_toList]
theorem zfg (xs:List Keyed) {i j k:Nat} (h1:i≤j) (h2:j≤k):xs=xs.take i++((xs.drop i).take (j - i)++(xs.drop j).take (k - j))++xs.drop k:=by
 have e1:xs.drop i=(xs.drop i).take (j - i)++xs.drop j:=by
  have:=(List.take_append_drop (j - i) (xs.drop i)).symm
  rwa [List.drop_drop,show i+(j - i)=j by omega] at this
 have e2:xs.drop j=(xs.drop j).take (k - j)++xs.drop k:=by
  have:=(List.take_append_drop (k - j) (xs.drop j)).symm
  rwa [List.drop_drop,show j+(k - j)=k by omega] at this
 have e0:=(List.take_append_drop i xs).symm
 rw [e1,e2] at e0
 rw [List.append_assoc,List.append_assoc]
 exact e0
theorem zbI (xs:Array Keyed) (i j:Nat):(xs.extract i j).toList=(xs.toList.drop i).take (j - i):=by
 rw [Array.toList_extract]
theorem zgH {sa sb e:Nat} {m xs:Array Keyed} (h1:sa≤sb) (h2:sb≤e) (h3:e≤xs.size) (hp:m.toList.Perm ((xs.extract sa sb).toList++(xs.extract sb e).toList)):(wb sa m.toList.zipIdx xs).Perm xs:=by
 have hms:m.size=e - sa:=by
  have:=hp.length_eq
  rw [List.length_append,zbI,zbI,List.length_take,List.length_take,List.length_drop,List.length_drop] at this
  have hx:xs.toList.length=xs.size:=by simp
  have hm:m.toList.length=m.size:=by simp
  omega
 rw [Array.perm_iff_toList_perm,zgG (by omega),show sa+m.size=e by omega]
 refine List.Perm.trans ((hp.append_left _).append_right _) ?_
 rw [zbI,zbI,← zfg xs.toList h1 h2]
section
variable {prog:Program} {w:World} {A:Around} {E:Value→Shared→Prop} {s:Shared} {a₀:Array Keyed} {κ:SortKind} {val:Keyed→Int}
theorem zbo {xs:Array Keyed} {i j k:Nat} (h:k < j - i) (hj:j≤xs.size):(xs.extract i j)[k]? = xs[i+k]?:=by
 rw [← Array.getElem?_toList,zbI,List.getElem?_take_of_lt h,List.getElem?_drop,Array.getElem?_toList]
theorem zbJ {xs:Array Keyed} {i j:Nat} (hj:j≤xs.size):(xs.extract i j).size=j - i:=by rw [Array.size_extract,Nat.min_eq_left hj]
theorem zeI {xs:Array Keyed} {i j:Nat} (hj:j≤xs.size) (h:SIn val xs i j):SIn val (xs.extract i j) 0 (xs.extract i j).size:=by
 rw [zbJ hj]
 intro p q _ hpq hq
 rw [zB (zbo (by omega) hj),zB (zbo hq hj)]
 exact h _ _ (by omega) (by omega) (by omega)
theorem zcb {xs:Array Keyed} {i j:Nat} (hj:j≤xs.size) {p:Keyed} (h:p∈(xs.extract i j).toList):∃ k,i≤k∧k < j∧xs[k]? = some p:=by
 obtain⟨k,hk,e⟩:=List.getElem_of_mem h
 have hk':k < j - i:=by
  rwa [Array.length_toList,zbJ hj] at hk
 refine⟨i+k,by omega,by omega,?_⟩
 rw [← zbo hk' hj,← Array.getElem?_toList,List.getElem?_eq_getElem hk,e]
theorem zfh {st:SortSt} {i sa na pw sb nb pw2:Nat} {Q:Bool→SortSt→Prop} (hC:Cmp prog w A s κ val a₀) (hB:SB κ a₀ st) (e1:(pendingOf st)[i]? = some (sa,na,pw)) (e2:(pendingOf st)[i+1]? = some (sb,nb,pw2))
  (hsb:sb=sa+na) (hna:1≤na) (hnb:1≤nb) (hsz:sb+nb≤a₀.size) (sA:SIn val (arrOf st) sa (sa+na)) (sB:SIn val (arrOf st) sb (sb+nb))
  (h:∀ st',SB κ a₀ st'→pendingOf st'=((pendingOf st).setIfInBounds i (sa,na+nb,pw)).eraseIdxIfInBounds (i+1)→(∀ k,(k < sa∨sb+nb≤k)→(arrOf st')[k]? = (arrOf st)[k]?)→SIn val (arrOf st') sa (sb+nb)→Q true st') :
  wpS (model prog w) A E s (mergeAt' i) Q st:=by
 refine zdi ?_
 wp_delta
 wp_delta
 refine zdj ?_
 refine wpS_bind (wpS_get ?_)
 rw [e1,e2]
 dsimp only
 have hsize:=hB.size
 obtain⟨y0,ey0,my0⟩:=hB.mem (i:=sb) (by omega)
 generalize hst1:(sortPriv% PySem.Builtin.SortState.mk) (kindOf st) (arrOf st) (((pendingOf st).setIfInBounds i (sa,na+nb,pw)).eraseIdxIfInBounds (i+1)) (gallopOf st) (failedOf st)=st1
 have hB1:SB κ a₀ st1:=by subst hst1; exact⟨hB.perm,hB.kind,hB.failed⟩
 have hp1:pendingOf st1=((pendingOf st).setIfInBounds i (sa,na+nb,pw)).eraseIdxIfInBounds (i+1):=by subst hst1; rfl
 have ha1:arrOf st1=arrOf st:=by subst hst1; rfl
 have memA:∀ n,n < a₀.size→∃ p,(arrOf st)[n]? = some p∧p∈a₀.toList:=fun n hn=>hB.mem hn
 refine wpS_bind (show wpS _ _ _ _ (set st1) _ st from wpS_modify (f:=fun _=>st1) ?_)
 refine wpS_bind (zo ey0 (wpS_bind (zaq (arr:=arrOf st) hC hB1.kind my0 (fun j hj=>memA (sa+j) (by omega)) sA (by omega) fun k hk1 hk2 hk3=>?_)))
 dsimp only
 have lowA:∀ j,sa≤j→j < sa+k→Vk val (arrOf st) j≤Vk val (arrOf st) sb:=fun j h1 h2=>by
  have:=zbH (hk2 (j - sa) (by omega))
  rwa [show sa+(j - sa)=j by omega,← zq (val:=val) ey0] at this
 by_cases hk0:na - k=0
 ·rw [if_pos (by simpa using hk0)]
  refine wpS_pure (h st1 hB1 hp1 (fun _ _=>by rw [ha1]) ?_)
  rw [ha1]
  intro p q h1 h2 h3
  by_cases hq:q < sa+na
  ·exact sA p q h1 h2 hq
  ·by_cases hp:p < sa+na
   ·exact Int.le_trans (lowA p h1 (by omega)) (sB sb q (by omega) (by omega) h3)
   ·exact sB p q (by omega) h2 h3
 rw [if_neg (by simpa using hk0)]
 have elast:sa+k+(na - k) - 1=sa+na - 1:=by omega
 rw [elast]
 obtain⟨x0,ex0,mx0⟩:=hB.mem (i:=sa+na - 1) (by omega)
 refine wpS_bind (zo ex0 (wpS_bind (zaq (arr:=arrOf st) hC hB1.kind mx0 (fun j hj=>memA (sb+j) (by omega)) sB (by omega) fun m hm1 hm2 hm3=>?_)))
 dsimp only
 have highB:∀ j,sb+m≤j→j < sb+nb→Vk val (arrOf st) (sa+na - 1)≤Vk val (arrOf st) j:=fun j h1 h2=>by
  have:=zbn (hm3 (j - sb) (by omega) (by omega))
  rwa [show sb+(j - sb)=j by omega,← zq (val:=val) ex0] at this
 have lowB:∀ j,sb≤j→j < sb+m→Vk val (arrOf st) j < Vk val (arrOf st) (sa+na - 1):=fun j h1 h2=>by
  have:=zaX (hm2 (j - sb) (by omega))
  rwa [show sb+(j - sb)=j by omega,← zq (val:=val) ex0] at this
 by_cases hm0:m=0
 ·rw [if_pos (by simpa using hm0)]
  refine wpS_pure (h st1 hB1 hp1 (fun _ _=>by rw [ha1]) ?_)
  rw [ha1]
  intro p q h1 h2 h3
  by_cases hq:q < sa+na
  ·exact sA p q h1 h2 hq
  ·by_cases hp:p < sa+na
   ·exact Int.le_trans (sA p (sa+na - 1) h1 (by omega) (by omega)) (highB q (by omega) h3)
   ·exact sB p q (by omega) h2 h3
 rw [if_neg (by simpa using hm0)]
 have zx:(arrOf st).size=a₀.size:=hsize
 have z1:=zbJ (xs:=arrOf st) (i:=sa+k) (j:=sb) (by omega)
 have z2:=zbJ (xs:=arrOf st) (i:=sb) (j:=sb+m) (by omega)
 have hf:Vk val ((arrOf st).extract sb (sb+m)) 0≤Vk val ((arrOf st).extract (sa+k) sb) 0:=by
  rw [zB (zbo (by omega) (by omega)),zB (zbo (xs:=arrOf st) (i:=sa+k) (j:=sb) (k:=0) (by omega) (by omega))]
  have:=zb9 (hk3 k (Nat.le_refl _) (by omega))
  rw [← zq (val:=val) ey0] at this
  simp only [Nat.add_zero] at this ⊢
  omega
 have hl:∀ j,j < ((arrOf st).extract sb (sb+m)).size→Vk val ((arrOf st).extract sb (sb+m)) j≤Vk val ((arrOf st).extract (sa+k) sb) (((arrOf st).extract (sa+k) sb).size - 1):=by
  intro j hj
  rw [z2] at hj
  rw [z1,zB (zbo (by omega) (by omega)),zB (zbo (xs:=arrOf st) (i:=sa+k) (j:=sb) (by omega) (by omega))]
  have:=lowB (sb+j) (by omega) (by omega)
  rw [show sa+k+(sb - (sa+k) - 1)=sa+na - 1 by omega]
  omega
 have fin:∀ (out:Array Keyed) (g:Nat),Good val (((arrOf st).extract (sa+k) sb).toList++((arrOf st).extract sb (sb+m)).toList) out.toList →
   wpS (model prog w) A E s (do
    modify fun s=>setArr s (out.toList.zipIdx.foldl (fun a (p,j)=>a.setIfInBounds (sa+k+j) p) (arrOf s))
    let s' ← get
    pure (failedOf s').isNone) Q (zI st1 g):=by
  intro out g hG
  refine wpS_bind (wpS_modify (wpS_bind (wpS_get ?_)))
  have hms:out.size=sb+m - (sa+k):=by
   have:=hG.1.length_eq
   rw [List.length_append] at this
   have e1:out.toList.length=out.size:=by simp
   have e2:((arrOf st).extract (sa+k) sb).toList.length=sb - (sa+k):=by rw [Array.length_toList,z1]
   have e3:((arrOf st).extract sb (sb+m)).toList.length=sb+m - sb:=by rw [Array.length_toList,z2]
   omega
  have hperm:=zgH (xs:=arrOf st) (sa:=sa+k) (sb:=sb) (e:=sb+m) (by omega) (by omega) (by omega) hG.1
  have hat:∀ n,(wb (sa+k) out.toList.zipIdx (arrOf st))[n]? = if sa+k≤n∧n < sb+m then out[n - (sa+k)]? else (arrOf st)[n]?:=fun n=>by
   have:=zf7 (sa+k) out.toList 0 (arrOf st) n (by rw [Array.length_toList]; omega)
   rw [Array.length_toList,Nat.add_zero,hms,show sa+k+(sb+m - (sa+k))=sb+m by omega,Array.getElem?_toList] at this
   exact this
  have hfn:(failedOf (setArr (zI st1 g) (wb (sa+k) out.toList.zipIdx (arrOf st)))).isNone=true:=by
   show (failedOf st1).isNone=true
   rw [hB1.failed]
   rfl
  have harr:arrOf (zI st1 g)=arrOf st:=ha1
  show wpS _ _ _ _ (pure (failedOf (setArr (zI st1 g) (wb (sa+k) out.toList.zipIdx (arrOf (zI st1 g))))).isNone) Q (setArr (zI st1 g) (wb (sa+k) out.toList.zipIdx (arrOf (zI st1 g))))
  rw [harr,hfn]
  refine wpS_pure (h _ ⟨hperm.trans hB.perm,hB1.kind,hB1.failed⟩ hp1 (fun n hn=>?_) ?_)
  ·show (wb (sa+k) out.toList.zipIdx (arrOf st))[n]? = _
   rw [hat,if_neg (by omega)]
  ·show SIn val (wb (sa+k) out.toList.zipIdx (arrOf st)) sa (sb+nb)
   have hin:∀ n,sa+k≤n→n < sb+m→∃ q,sa+k≤q∧q < sb+m∧Vk val (wb (sa+k) out.toList.zipIdx (arrOf st)) n=Vk val (arrOf st) q:=fun n h1 h2=>by
    have ho:n - (sa+k) < out.size:=by omega
    have ho2:out[n - (sa+k)]? = some out[n - (sa+k)]:=getElem?_pos out _ ho
    have hmem:out[n - (sa+k)]∈((arrOf st).extract (sa+k) sb).toList++((arrOf st).extract sb (sb+m)).toList:=hG.1.mem_iff.mp (by simp)
    have hv:Vk val (wb (sa+k) out.toList.zipIdx (arrOf st)) n=val out[n - (sa+k)]:=zq (by rw [hat,if_pos ⟨h1,h2⟩,ho2])
    rcases List.mem_append.mp hmem with hmem | hmem
    ·obtain⟨q,q1,q2,q3⟩:=zcb (by omega) hmem
     exact⟨q,q1,by omega,by rw [hv,zq q3]⟩
    ·obtain⟨q,q1,q2,q3⟩:=zcb (by omega) hmem
     exact⟨q,by omega,q2,by rw [hv,zq q3]⟩
   have hout:∀ n,¬ (sa+k≤n∧n < sb+m)→Vk val (wb (sa+k) out.toList.zipIdx (arrOf st)) n=Vk val (arrOf st) n:=fun n hn=>zB (by rw [hat,if_neg hn])
   intro p q h1 h2 h3
   by_cases hp:p < sa+k
   ·rw [hout p (by omega)]
    by_cases hq:q < sa+k
    ·rw [hout q (by omega)]
     exact sA p q h1 h2 (by omega)
    ·have key:∀ q',sa+k≤q'→q' < sb+nb→Vk val (arrOf st) p≤Vk val (arrOf st) q':=fun q' a1 a2=>by
      by_cases hq':q' < sb
      ·exact sA p q' h1 (by omega) (by omega)
      ·exact Int.le_trans (lowA p h1 hp) (sB sb q' (by omega) (by omega) a2)
     by_cases hq2:q < sb+m
     ·obtain⟨q',q1,q2,q3⟩:=hin q (by omega) hq2
      rw [q3]
      exact key q' q1 (by omega)
     ·rw [hout q (by omega)]
      exact key q (by omega) h3
   ·by_cases hp2:p < sb+m
    ·by_cases hq2:q < sb+m
     ·have ho1:p - (sa+k) < out.size:=by omega
      have ho2:q - (sa+k) < out.size:=by omega
      rw [zq (p:=out[p - (sa+k)]) (by rw [hat,if_pos (by omega)]; exact getElem?_pos out _ ho1),zq (p:=out[q - (sa+k)]) (by rw [hat,if_pos (by omega)]; exact getElem?_pos out _ ho2)]
      by_cases hpq:p=q
      ·subst hpq
       exact Int.le_refl _
      ·have:=List.pairwise_iff_getElem.mp hG.2 (p - (sa+k)) (q - (sa+k)) (by simpa using ho1) (by simpa using ho2) (by omega)
       simpa using this
     ·obtain⟨p',p1,p2,p3⟩:=hin p (by omega) hp2
      rw [p3,hout q (by omega)]
      by_cases hp':p' < sb
      ·exact Int.le_trans (sA p' (sa+na - 1) (by omega) (by omega) (by omega)) (highB q (by omega) h3)
      ·exact sB p' q (by omega) (by omega) h3
    ·rw [hout p (by omega),hout q (by omega)]
     exact sB p q (by omega) h2 h3
 have ma:∀ p∈((arrOf st).extract (sa+k) sb).toList,p∈a₀.toList:=fun p hp=>by
  obtain⟨q,q1,q2,q3⟩:=zcb (by omega) hp
  obtain⟨p',e,m'⟩:=memA q (by omega)
  rw [q3] at e
  cases e
  exact m'
 have mb:∀ p∈((arrOf st).extract sb (sb+m)).toList,p∈a₀.toList:=fun p hp=>by
  obtain⟨q,q1,q2,q3⟩:=zcb (by omega) hp
  obtain⟨p',e,m'⟩:=memA q (by omega)
  rw [q3] at e
  cases e
  exact m'
 have ss1:=zeI (val:=val) (xs:=arrOf st) (i:=sa+k) (j:=sb) (by omega) (sA.sub (by omega) (by omega))
 have ss2:=zeI (val:=val) (xs:=arrOf st) (i:=sb) (j:=sb+m) (by omega) (sB.sub (by omega) (by omega))
 by_cases hle:na - k≤m
 ·rw [if_pos hle]
  exact wpS_bind (zfe (a:=(arrOf st).extract (sa+k) sb) (b:=(arrOf st).extract sb (sb+m)) hC hB1.kind ma mb ss1 ss2 (by omega) (by omega) hf hl fin)
 ·rw [if_neg hle]
  exact wpS_bind (zff (a:=(arrOf st).extract (sa+k) sb) (b:=(arrOf st).extract sb (sb+m)) hC hB1.kind ma mb ss1 ss2 (by omega) (by omega) hf hl fin)
end
end Srt
end
section
set_option maxHeartbeats 3995000
namespace Srt
open PySem PyProof.Rows
def Runs (val:Keyed→Int) (xs:Array Keyed):List (Nat×Nat×Nat)→Nat→Nat→Prop
 | [],lo,hi=>lo=hi
 | (s,n,_) :: r,lo,hi=>s=lo∧1≤n∧SIn val xs lo (lo+n)∧Runs val xs r (lo+n) hi
section
variable {val:Keyed→Int}
theorem Runs.le {xs:Array Keyed}:∀ {p:List (Nat×Nat×Nat)} {lo hi:Nat},Runs val xs p lo hi→lo+p.length≤hi
 | [],lo,hi,h=>by
  have h:lo=hi:=h
  simp only [List.length_nil]
  omega
 | (s,n,w) :: r,lo,hi,h=>by
  obtain⟨_,h1,_,h2⟩:=h
  have:=h2.le
  simp only [List.length_cons]
  omega
theorem Runs.append {xs:Array Keyed}:∀ {p q:List (Nat×Nat×Nat)} {lo hi:Nat},Runs val xs (p++q) lo hi↔∃ mid,Runs val xs p lo mid∧Runs val xs q mid hi
 | [],q,lo,hi=>⟨fun h=>⟨lo,rfl,h⟩,fun ⟨mid,h1,h2⟩=>by
   have h1:lo=mid:=h1
   subst h1
   exact h2⟩
 | (s,n,w) :: p,q,lo,hi=>by
  constructor
  ·rintro⟨h1,h2,h3,h4⟩
   obtain⟨mid,h5,h6⟩:=Runs.append.mp h4
   exact⟨mid,⟨h1,h2,h3,h5⟩,h6⟩
  ·rintro⟨mid,⟨h1,h2,h3,h5⟩,h6⟩
   exact⟨h1,h2,h3,Runs.append.mpr ⟨mid,h5,h6⟩⟩
theorem Runs.keep {xs ys:Array Keyed}:∀ {p:List (Nat×Nat×Nat)} {lo hi:Nat},Runs val xs p lo hi→(∀ k,lo≤k→k < hi→ys[k]? = xs[k]?)→Runs val ys p lo hi
 | [],lo,hi,h,_=>h
 | (s,n,w) :: p,lo,hi,h,e=>by
  obtain⟨h1,h2,h3,h4⟩:=h
  have:=h4.le
  refine⟨h1,h2,fun i j a b c=>?_,h4.keep fun k a b=>e k (by omega) b⟩
  rw [zB (e i (by omega) (by omega)),zB (e j (by omega) (by omega))]
  exact h3 i j a b c
theorem zf8 {α:Type} (p q:List α) (x y v:α):((p++x :: y :: q).toArray.setIfInBounds p.length v).eraseIdxIfInBounds (p.length+1)=(p++v :: q).toArray:=by
 simp [Array.eraseIdxIfInBounds]
 rw [List.eraseIdx_append_of_length_le (by omega),show p.length+1 - p.length=1 by omega]
 rfl
theorem zdI {α:Type} (q:List α) (z:α) (f:α→α):(q++[z]).toArray.modify ((q++[z]).toArray.size - 1) f=(q++[f z]).toArray:=by
 apply Array.ext'
 simp
 induction q with
 | nil=>rfl
 | cons a q ih =>
  show (a :: (q++[z])).modify (q.length+1) f=a :: (q++[f z])
  rw [List.modify_succ_cons,ih]
theorem zeJ {xs:Array Keyed} {p:List (Nat×Nat×Nat)} {n:Nat} (hl:p.length≤1) (hn:1≤n) (h:Runs val xs p 0 n):SIn val xs 0 n:=by
 match p,hl,h with
 | [],_,h =>
  have h:0=n:=h
  omega
 | [(a,b,c)],_,h =>
  obtain⟨_,_,h3,h4⟩:=h
  have h4:0+b=n:=h4
  rw [← h4]
  exact h3
 | _ :: _ :: _,hl,_=>simp at hl
theorem zfi {α:Type} {p:List α} {j:Nat} (h:j+2≤p.length):∃ pre x y post,p=pre++x :: y :: post∧pre.length=j:=by
 refine⟨p.take j,p[j],p[j+1],p.drop (j+2),?_,by rw [List.length_take]; omega⟩
 have e1:=(List.take_append_drop j p).symm
 rw [List.drop_eq_getElem_cons (show j < p.length by omega),List.drop_eq_getElem_cons (show j+1 < p.length by omega)] at e1
 exact e1
end
section
variable {prog:Program} {w:World} {A:Around} {E:Value→Shared→Prop} {s:Shared} {a₀:Array Keyed} {κ:SortKind} {val:Keyed→Int}
theorem zcu {st:SortSt} {pre post:List (Nat×Nat×Nat)} {x y:Nat×Nat×Nat} {hi:Nat} {Q:Bool→SortSt→Prop} (hC:Cmp prog w A s κ val a₀) (hB:SB κ a₀ st) (hp:pendingOf st=(pre++x :: y :: post).toArray) (hR:Runs val (arrOf st) (pre++x :: y :: post) 0 hi) (hhi:hi≤a₀.size)
  (h:∀ st' v,SB κ a₀ st'→pendingOf st'=(pre++v :: post).toArray→(∀ k,hi≤k→(arrOf st')[k]? = (arrOf st)[k]?)→Runs val (arrOf st') (pre++v :: post) 0 hi→Q true st') :
  wpS (model prog w) A E s (mergeAt' pre.length) Q st:=by
 obtain⟨sa,na,pw⟩:=x
 obtain⟨sb,nb,pw2⟩:=y
 obtain⟨mid,r1,r2⟩:=Runs.append.mp hR
 obtain⟨rfl,q1,q2,rfl,q4,q5,r3⟩:=r2
 have hle:=r3.le
 refine zfh (i:=pre.length) (sa:=sa) (na:=na) (pw:=pw) (sb:=sa+na) (nb:=nb) (pw2:=pw2) hC hB (by rw [hp]; simp) (by rw [hp]; simp) rfl q1 q4 (by omega) q2 q5 fun st' hB' hp' hk hs=>?_
 refine h st' (sa,na+nb,pw) hB' (by rw [hp',hp,zf8]) (fun k hk'=>hk k (by omega)) ?_
 refine Runs.append.mpr ⟨sa,r1.keep fun k _ b=>hk k (by omega),rfl,by omega,?_,?_⟩
 ·rw [← Nat.add_assoc]
  exact hs
 ·rw [← Nat.add_assoc]
  exact r3.keep fun k a b=>hk k (by omega)
theorem zgI {n:Nat} {c:Prop} [Decidable c] (h:¬ n≤1):(if c then n - 2 - 1 else n - 2)+2≤n:=by
 by_cases hc:c
 ·rw [if_pos hc]
  omega
 ·rw [if_neg hc]
  omega
theorem zf9 {st:SortSt} {p:List (Nat×Nat×Nat)} {j hi:Nat} {Q:Bool→SortSt→Prop} (hj:j+2≤p.length) (hC:Cmp prog w A s κ val a₀) (hB:SB κ a₀ st) (hp:pendingOf st=p.toArray) (hR:Runs val (arrOf st) p 0 hi) (hhi:hi≤a₀.size)
  (h:∀ st' p',SB κ a₀ st'→pendingOf st'=p'.toArray→Runs val (arrOf st') p' 0 hi→p'.length+1=p.length→Q true st'):wpS (model prog w) A E s (mergeAt' j) Q st:=by
 obtain⟨pre,x,y,post,rfl,rfl⟩:=zfi hj
 exact zcu hC hB hp hR hhi fun st' v a b _ d=>h st' _ a b d (by simp only [List.length_append,List.length_cons]; omega)
theorem zhk {st:SortSt} {Q:Unit→SortSt→Prop} (hC:Cmp prog w A s κ val a₀) (hB:SB κ a₀ st) (hp:pendingOf st = #[]) (h2:1≤a₀.size)
  (h:∀ st',SB κ a₀ st'→SIn val (arrOf st') 0 a₀.size→Q () st'):wpS (model prog w) A E s sortRuns' Q st:=by
 rw [sortRuns'_eq]
 refine wpS_bind (wpS_get ?_)
 dsimp only
 rw [hB.size]
 generalize minRun' a₀.size a₀.size 0=mr
 refine wpS_bind (wpS_mono (wpS_forRange (I:=fun x c st'=>∃ lo p,c=(none,lo)∧SB κ a₀ st'∧pendingOf st'=p.toArray∧Runs val (arrOf st') p 0 lo∧lo≤a₀.size∧min x a₀.size≤lo)
  (Q:=fun c st'=>∃ p,c=(none,a₀.size)∧SB κ a₀ st'∧pendingOf st'=p.toArray∧Runs val (arrOf st') p 0 a₀.size) ?step ?fin ⟨0,[],rfl,hB,hp,rfl,by omega,by omega⟩) ?post)
 case fin =>
  rintro c st' ⟨lo,p,rfl,hB',hp',hR,hlo,hx⟩
  have:lo=a₀.size:=by omega
  subst this
  exact⟨p,rfl,hB',hp',hR⟩
 case step =>
  rintro x c st' _ hx ⟨lo,p,rfl,hB',hp',hR,hlo,hxl⟩
  dsimp only
  by_cases hge:lo≥a₀.size
  ·rw [if_pos hge]
   have:lo=a₀.size:=by omega
   subst this
   exact wpS_pure ⟨p,rfl,hB',hp',hR⟩
  rw [if_neg hge]
  refine wpS_bind (zgD hC (by omega) (by omega) (SF.refl hB') fun m st1 hF1 hm1 hm2 hs1=>?_)
  dsimp only
  by_cases hmr:m < mr
  ·rw [if_pos hmr]
   (refine wpS_bind (wpS_lift (wpAny_rule ⟨rfl,?_⟩)))
   refine wpS_bind (zhQ hC (by omega) (by omega) hF1 hs1 fun st2 hF2 hs2=>?_)
   rw [if_neg (by decide)]
   have hn1:1≤min (a₀.size - lo) mr:=by omega
   have hn2:lo+min (a₀.size - lo) mr≤a₀.size:=by omega
   generalize min (a₀.size - lo) mr=n at hs2 hn1 hn2 ⊢
   refine wpS_bind (wpS_get ?_)
   have hp1:pendingOf st2=p.toArray:=hF2.pend.trans hp'
   have hR1:Runs val (arrOf st2) p 0 lo:=hR.keep fun k _ b=>hF2.low k b
   rcases List.eq_nil_or_concat p with rfl | ⟨q,z,rfl⟩
   ·rw [hp1]
    show wpS _ _ _ _ (do
     modify fun s=>setPending s ((pendingOf s).push (lo,n,0)); pure (ForInStep.yield (none,lo+n))) _ _
    refine wpS_bind (wpS_modify (wpS_pure ⟨lo+n,[(lo,n,0)],rfl,⟨hF2.b.perm,hF2.b.kind,hF2.b.failed⟩,?_,?_,by omega,by omega⟩))
    ·show (pendingOf st2).push _=_
     rw [hp1]
     rfl
    ·have h0:0=lo:=hR1
     subst h0
     exact⟨rfl,hn1,hs2,rfl⟩
   obtain⟨s1,n1,w1⟩:=z
   rw [hp1,List.concat_eq_append,show ((q++[(s1,n1,w1)]).toArray).back? = some (s1,n1,w1) by simp]
   rw [List.concat_eq_append] at hp1 hR1
   dsimp only
   generalize power' a₀.size (2*s1+n1) (2*s1+n1+n1+n) a₀.size=pw
   refine wpS_bind (wpS_mono (wpS_forRange (I:=fun _ c st'=>c=(none,())∧∃ q' z,SB κ a₀ st'∧pendingOf st'=(q'++[z]).toArray∧Runs val (arrOf st') (q'++[z]) 0 lo∧(∀ k,lo≤k→(arrOf st')[k]? = (arrOf st2)[k]?))
    (Q:=fun c st'=>c=(none,())∧∃ q' z,SB κ a₀ st'∧pendingOf st'=(q'++[z]).toArray∧Runs val (arrOf st') (q'++[z]) 0 lo∧(∀ k,lo≤k→(arrOf st')[k]? = (arrOf st2)[k]?)) ?_ (fun _ _ hh=>hh) ⟨rfl,q,(s1,n1,w1),hF2.b,hp1,hR1,fun _ _=>rfl⟩) ?_)
   ·rintro x2 c st2 _ hx2 ⟨rfl,q',z,hB2,hp2,hR2,hk2⟩
    refine wpS_bind (wpS_get ?_)
    rcases List.eq_nil_or_concat q' with rfl | ⟨q2,y,rfl⟩
    ·rw [hp2,if_neg (by simp)]
     exact wpS_pure ⟨rfl,[],z,hB2,hp2,hR2,hk2⟩
    rw [List.concat_eq_append,List.append_assoc] at hp2 hR2
    have esz:(pendingOf st2).size - 2=q2.length:=by rw [hp2]; simp
    have eel:(if (pendingOf st2).size > 1 then (pendingOf st2)[(pendingOf st2).size - 2]? else none)=some y:=by
     rw [if_pos (by rw [hp2]; simp),esz,hp2]
     simp
    rw [eel]
    obtain⟨y1,y2,y3⟩:=y
    dsimp only
    by_cases ho:y3≤pw
    ·rw [if_pos ho]
     exact wpS_pure ⟨rfl,q2++[(y1,y2,y3)],z,hB2,by rw [hp2,List.append_assoc],by rw [List.append_assoc]; exact hR2,hk2⟩
    ·rw [if_neg ho,esz]
     refine wpS_bind (zcu hC hB2 hp2 hR2 (by omega) fun st3 v hB3 hp3 hk3 hR3=>?_)
     rw [if_neg (by decide)]
     exact wpS_pure ⟨rfl,q2,v,hB3,hp3,hR3,fun k hk=>(hk3 k hk).trans (hk2 k hk)⟩
   ·rintro c st2 ⟨rfl,q',z,hB2,hp2,hR2,hk2⟩
    obtain⟨z1,z2,z3⟩:=z
    dsimp only
    refine wpS_bind (wpS_modify (wpS_bind (wpS_modify (wpS_pure ⟨lo+n,q'++[(z1,z2,pw),(lo,n,0)],rfl,⟨hB2.perm,hB2.kind,hB2.failed⟩,?_,?_,by omega,by omega⟩))))
    ·show ((pendingOf st2).modify ((pendingOf st2).size - 1) fun x=>(x.fst,x.2.fst,pw)).push (lo,n,0)=_
     rw [hp2,zdI]
     simp
    ·show Runs val (arrOf st2) _ _ _
     obtain⟨mid,r1,r2⟩:=Runs.append.mp hR2
     obtain⟨e1,e2,e3,e4⟩:=r2
     have e4:mid+z2=lo:=e4
     refine Runs.append.mpr ⟨mid,r1,e1,e2,e3,e4.symm,hn1,?_,?_⟩
     ·intro i j a1 a2 a3
      rw [zB (hk2 i (by omega)),zB (hk2 j (by omega))]
      exact hs2 i j (by omega) a2 (by omega)
     ·show mid+z2+n=lo+n
      omega
  ·rw [if_neg hmr]
   have hn2:lo+m≤a₀.size:=by omega
   refine wpS_bind (wpS_get ?_)
   have hp1:pendingOf st1=p.toArray:=hF1.pend.trans hp'
   have hR1:Runs val (arrOf st1) p 0 lo:=hR.keep fun k _ b=>hF1.low k b
   rcases List.eq_nil_or_concat p with rfl | ⟨q,z,rfl⟩
   ·rw [hp1]
    show wpS _ _ _ _ (do
     modify fun s=>setPending s ((pendingOf s).push (lo,m,0))
     pure (ForInStep.yield (none,lo+m))) _ _
    refine wpS_bind (wpS_modify (wpS_pure ⟨lo+m,[(lo,m,0)],rfl,⟨hF1.b.perm,hF1.b.kind,hF1.b.failed⟩,?_,?_,by omega,by omega⟩))
    ·show (pendingOf st1).push _=_
     rw [hp1]
     rfl
    ·have h0:0=lo:=hR1
     subst h0
     exact⟨rfl,hm1,hs1,rfl⟩
   obtain⟨s1,n1,w1⟩:=z
   rw [hp1,List.concat_eq_append,show ((q++[(s1,n1,w1)]).toArray).back? = some (s1,n1,w1) by simp]
   rw [List.concat_eq_append] at hp1 hR1
   dsimp only
   generalize power' a₀.size (2*s1+n1) (2*s1+n1+n1+m) a₀.size=pw
   refine wpS_bind (wpS_mono (wpS_forRange (I:=fun _ c st'=>c=(none,())∧∃ q' z,SB κ a₀ st'∧pendingOf st'=(q'++[z]).toArray∧Runs val (arrOf st') (q'++[z]) 0 lo∧(∀ k,lo≤k→(arrOf st')[k]? = (arrOf st1)[k]?))
    (Q:=fun c st'=>c=(none,())∧∃ q' z,SB κ a₀ st'∧pendingOf st'=(q'++[z]).toArray∧Runs val (arrOf st') (q'++[z]) 0 lo∧(∀ k,lo≤k→(arrOf st')[k]? = (arrOf st1)[k]?)) ?_ (fun _ _ hh=>hh) ⟨rfl,q,(s1,n1,w1),hF1.b,hp1,hR1,fun _ _=>rfl⟩) ?_)
   ·rintro x2 c st2 _ hx2 ⟨rfl,q',z,hB2,hp2,hR2,hk2⟩
    refine wpS_bind (wpS_get ?_)
    rcases List.eq_nil_or_concat q' with rfl | ⟨q2,y,rfl⟩
    ·rw [hp2,if_neg (by simp)]
     exact wpS_pure ⟨rfl,[],z,hB2,hp2,hR2,hk2⟩
    rw [List.concat_eq_append,List.append_assoc] at hp2 hR2
    have esz:(pendingOf st2).size - 2=q2.length:=by rw [hp2]; simp
    have eel:(if (pendingOf st2).size > 1 then (pendingOf st2)[(pendingOf st2).size - 2]? else none)=some y:=by
     rw [if_pos (by rw [hp2]; simp),esz,hp2]
     simp
    rw [eel]
    obtain⟨y1,y2,y3⟩:=y
    dsimp only
    by_cases ho:y3≤pw
    ·rw [if_pos ho]
     exact wpS_pure ⟨rfl,q2++[(y1,y2,y3)],z,hB2,by rw [hp2,List.append_assoc],by rw [List.append_assoc]; exact hR2,hk2⟩
    ·rw [if_neg ho,esz]
     refine wpS_bind (zcu hC hB2 hp2 hR2 (by omega) fun st3 v hB3 hp3 hk3 hR3=>?_)
     rw [if_neg (by decide)]
     exact wpS_pure ⟨rfl,q2,v,hB3,hp3,hR3,fun k hk=>(hk3 k hk).trans (hk2 k hk)⟩
   ·rintro c st2 ⟨rfl,q',z,hB2,hp2,hR2,hk2⟩
    obtain⟨z1,z2,z3⟩:=z
    dsimp only
    refine wpS_bind (wpS_modify (wpS_bind (wpS_modify (wpS_pure ⟨lo+m,q'++[(z1,z2,pw),(lo,m,0)],rfl,⟨hB2.perm,hB2.kind,hB2.failed⟩,?_,?_,by omega,by omega⟩))))
    ·show ((pendingOf st2).modify ((pendingOf st2).size - 1) fun x=>(x.fst,x.2.fst,pw)).push (lo,m,0)=_
     rw [hp2,zdI]
     simp
    ·show Runs val (arrOf st2) _ _ _
     obtain⟨mid,r1,r2⟩:=Runs.append.mp hR2
     obtain⟨e1,e2,e3,e4⟩:=r2
     have e4:mid+z2=lo:=e4
     refine Runs.append.mpr ⟨mid,r1,e1,e2,e3,e4.symm,hm1,?_,?_⟩
     ·intro i j a1 a2 a3
      rw [zB (hk2 i (by omega)),zB (hk2 j (by omega))]
      exact hs1 i j (by omega) a2 (by omega)
     ·show mid+z2+m=lo+m
      omega
 case post =>
  rintro c st1 ⟨p,rfl,hB1,hp1,hR1⟩
  dsimp only
  have hpl:=hR1.le
  refine wpS_bind (wpS_mono (wpS_forRange (I:=fun x c st'=>c=(none,())∧∃ p,SB κ a₀ st'∧pendingOf st'=p.toArray∧Runs val (arrOf st') p 0 a₀.size∧p.length≤max 1 (a₀.size - x))
   (Q:=fun c st'=>c=(none,())∧SB κ a₀ st'∧SIn val (arrOf st') 0 a₀.size) ?_ ?_ ⟨rfl,p,hB1,hp1,hR1,by omega⟩) ?_)
  ·rintro x c st2 _ hx ⟨rfl,p2,hB2,hp2,hR2,hl2⟩
   refine wpS_bind (wpS_get ?_)
   have hsz:(pendingOf st2).size=p2.length:=by rw [hp2]; simp
   rw [hsz]
   by_cases hle:p2.length≤1
   ·rw [if_pos hle]
    exact wpS_pure ⟨rfl,hB2,zeJ hle h2 hR2⟩
   rw [if_neg hle]
   refine wpS_bind (zf9 (p:=p2) (zgI hle) hC hB2 hp2 hR2 (Nat.le_refl _) fun st3 p3 hB3 hp3 hR3 hl3=>?_)
   rw [if_neg (by decide)]
   exact wpS_pure ⟨rfl,p3,hB3,hp3,hR3,by omega⟩
  ·rintro c st2 ⟨rfl,p2,hB2,hp2,hR2,hl2⟩
   exact⟨rfl,hB2,zeJ (by omega) h2 hR2⟩
  ·rintro c st2 ⟨rfl,hB2,hS⟩
   exact wpS_pure (h st2 hB2 hS)
end
end Srt
end
section
set_option maxHeartbeats 3995000
namespace Srt
open PySem PyProof.Rows
section
variable {prog:Program} {w:World} {A:Around} {E:Value→Shared→Prop} {s:Shared}
end
end Srt
end
section
set_option maxHeartbeats 3994000
namespace PySem
open PyProof.Rows
section
variable {prog:Program} {w:World} {A:Around} {E:Value→Shared→Prop} {s:Shared} {it d:Addr} {i ep:Nat} {es:Array DictEntry}
end
end PySem
end
section
set_option maxHeartbeats 3994000
namespace Srt
open PySem PyProof.Rows
section
variable {prog:Program} {w:World} {A:Around} {E:Value→Shared→Prop} {s:Shared} {κ:SortKind} {val:Keyed→Int}
theorem zaN {vs:List Value} {p:Keyed} (h:p∈(pairsOf vs).toList):p.1∈vs∧p.2=p.1:=by
 rw [pairsOf_toList] at h
 obtain⟨i,hi,e⟩:=List.getElem_of_mem h
 rw [List.getElem_zip] at e
 rw [← e]
 exact⟨List.getElem_mem _,rfl⟩
theorem zhl {vs:List Value} {xs:Array Keyed} (hp:xs.Perm (pairsOf vs)) (hs:SIn val xs 0 (pairsOf vs).size):(xs.map (·.2)).toList.Perm vs∧(xs.map (·.2)).toList.Pairwise fun x y=>val (x,x)≤val (y,y):=by
 (have hl:xs.toList.Perm (vs.zip vs):=by rw [← pairsOf_toList]; exact Array.perm_iff_toList_perm.mp hp)
 have hm:∀ p∈xs.toList,p=(p.2,p.2):=fun p hp'=>by
  have:=zaN (by rw [pairsOf_toList]; exact hl.mem_iff.mp hp')
  exact Prod.ext this.2.symm rfl
 constructor
 ·rw [Array.toList_map]
  refine (hl.map (·.2)).trans ?_
  rw [show (vs.zip vs).map (·.2)=vs from List.map_snd_zip (Nat.le_refl _)]
 ·rw [Array.toList_map,List.pairwise_map,List.pairwise_iff_getElem]
  intro i j hi hj hij
  (have hi':i < xs.size:=by simpa using hi)
  (have hj':j < xs.size:=by simpa using hj)
  have h1:=hs i j (Nat.zero_le _) (by omega) (by rw [← hp.size_eq]; exact hj')
  rw [zq (getElem?_pos xs i hi'),zq (getElem?_pos xs j hj')] at h1
  have e1:=hm xs.toList[i] (List.getElem_mem _)
  have e2:=hm xs.toList[j] (List.getElem_mem _)
  rw [← e1,← e2]
  simpa using h1
theorem zfj {a:Addr} {vs:List Value} {n:Nat} {P:PySem.Fin→Shared→Prop} (ho:s.heap.get? a=some (seqObj "list" vs.toArray n)) (hlen:vs.length≤sizeLine)
  (hkind:∀ h',(∀ b o,b≠a→s.heap.get? b=some o→h'.get? b=some o)→2≤vs.length→∀ (Q:SortKind→Shared→Prop) (E:Value→Shared→Prop),Q κ { s with heap:=h' }→wpAny (model prog w) A (keyKind' vs.toArray) Q E { s with heap:=h' })
  (hcmp:∀ h',(∀ b o,b≠a→s.heap.get? b=some o→h'.get? b=some o)→Cmp prog w A { s with heap:=h' } κ val (pairsOf vs))
  (h:∀ out:Array Value,out.toList.Perm vs→(out.toList.Pairwise fun x y=>val (x,x)≤val (y,y))→P (.done (.ret .none)) { s with heap:=sortedHeap s.heap a vs out }):wpAny (model prog w) A (Builtin.«list.sort» ⟨[.ref a],[]⟩) P E s:=by
 rw [list_sort_plain]
 (have ha:a < s.heap.objs.size:=Heap.lt_size ho)
 have hz:vs.toArray.size=vs.length:=List.size_toArray
 refine wpAny_bind (listItems_at ho rfl (wpAny_bind (listUpdate_at ho rfl ?_ (hsz:=by rw [hz]; exact hlen))))
 (obtain⟨e1,ho1⟩:∃ e1,(s.heap.update a (Obj.mapSeq fun _=>#[])).get? a=some (seqObj "list" #[] e1):=⟨_,get?_update_seq ho (fun _=>#[])⟩)
 refine wpAny_bind (seqEpoch_at ho1 rfl (wpAny_bind (wpAny_newTuple (wpAny_bind (wpAny_newList (wpAny_holding ?_))) (hsz:=hlen))))
 have ho6:(((s.heap.update a (Obj.mapSeq fun _=>#[])).push (seqObj "tuple" vs.toArray 0)).push (seqObj "list" #[] 0)).get? a=some (seqObj "list" #[] e1):=Heap.get?_push_of_some _ (Heap.get?_push_of_some _ ho1)
 have hk6:∀ b o,b≠a→s.heap.get? b=some o→(((s.heap.update a (Obj.mapSeq fun _=>#[])).push (seqObj "tuple" vs.toArray 0)).push (seqObj "list" #[] 0)).get? b=some o:=fun b o hb e=>Heap.get?_push_of_some _ (Heap.get?_push_of_some _ ((Heap.get?_update_ne _ _ _ _ hb).trans e))
 (show wpAny (model prog w) A _ P E { s with heap:=((s.heap.update a (Obj.mapSeq fun _=>#[])).push (seqObj "tuple" vs.toArray 0)).push (seqObj "list" #[] 0) })
 dsimp only
 have hcm:=hcmp _ hk6
 have fin:∀ st':SortSt,SB κ (pairsOf vs) st'∨(arrOf st'=pairsOf vs∧failedOf st'=none)→SIn val (arrOf st') 0 (pairsOf vs).size →
   P (.done (.ret .none)) { s with heap:=sortedHeap s.heap a vs ((arrOf st').map (·.2)) }:=fun st' hB hs=>by
  have hp:(arrOf st').Perm (pairsOf vs):=by
   rcases hB with hB | hB
   ·exact hB.perm
   ·rw [hB.1]
  obtain⟨b1,b2⟩:=zhl hp hs
  exact h _ b1 b2
 (by_cases h2:vs.toArray.size < 2)
 ·rw [if_pos h2,if_pos h2]
  refine wpAny_bind (wpAny_pure ?_); rw [StateT.run_pure]; refine wpAny_bind (wpAny_pure ?_)
  dsimp only
  refine wpAny_bind (seqEpoch_at ho6 rfl (wpAny_bind (listUpdate_at ho6 rfl ?_ (hsz2:=by rw [Array.size_map]; show (pairsOf vs).size≤_; rw [pairsOf_size]; omega))))
  (simp only [bne_self_eq_false,Bool.false_eq_true,if_false])
  refine wpAny_pure (fin (SortSt.mk' general' (vs.toArray.zip vs.toArray) #[] 7 none) (.inr ⟨rfl,rfl⟩) fun i j _ hij hj=>?_)
  have e:i=j:=by rw [pairsOf_size] at hj; omega
  rw [e]
  exact Int.le_refl _
 ·rw [if_neg h2,if_neg h2]
  refine wpAny_bind (hkind _ hk6 (by omega) _ _ ?_)
  refine wpAny_bind (wpAny_mono (zhk (a₀:=pairsOf vs) (κ:=κ) (val:=val) (st:=SortSt.mk' κ (vs.toArray.zip vs.toArray) #[] 7 none) (Q:=fun _ st'=>SB κ (pairsOf vs) st'∧SIn val (arrOf st') 0 (pairsOf vs).size)
   hcm ⟨Array.Perm.refl _,rfl,rfl⟩ rfl (by rw [pairsOf_size]; omega) fun st' a1 a2=>⟨a1,a2⟩) ?_ fun _ _ e=>e)
  rintro⟨⟨⟩,st'⟩ s' ⟨rfl,hB,hs⟩
  dsimp only
  refine wpAny_bind (seqEpoch_at ho6 rfl (wpAny_bind (listUpdate_at ho6 rfl ?_ (hsz2:=Nat.le_trans (Nat.le_of_eq ((Array.size_map ..).trans (hB.perm.size_eq.trans (pairsOf_size _)))) (by omega)))))
  rw [hB.failed]
  (simp only [bne_self_eq_false,Bool.false_eq_true,if_false])
  exact wpAny_pure (fin st' (.inl hB) hs)
theorem zc0 {v:Value} {vs:List Value} {Q:Value→Shared→Prop} (hlen:vs.length≤sizeLine)
  (hcol:∀ R:List Value→Shared→Prop,(∀ (h':Heap) (tk:Nat),(∀ b o,s.heap.get? b=some o→h'.get? b=some o)→R vs { s with heap:=h',toks:=tk })→wpAny (model prog w) A.in1 (collect v) R E s)
  (hkind:∀ s',(∀ b o,s.heap.get? b=some o→s'.heap.get? b=some o)→2≤vs.length→∀ (A':Around) (Q:SortKind→Shared→Prop) (E:Value→Shared→Prop),Q κ s'→wpAny (model prog w) A' (keyKind' vs.toArray) Q E s')
  (hcmp:∀ s' A',(∀ b o,s.heap.get? b=some o→s'.heap.get? b=some o)→Cmp prog w A' s' κ val (pairsOf vs))
  (h:∀ (h':Heap) (tk:Nat) (out:Array Value) (e:Nat) (D:Addr),(∀ b o,s.heap.get? b=some o→h'.get? b=some o)→(∀ b o,s.heap.get? b=some o→b < D)→h'.get? D=some (seqObj "list" out e)→out.toList.Perm vs→(out.toList.Pairwise fun x y=>val (x,x)≤val (y,y))→Q (.ref D) { s with heap:=h',toks:=tk }) :
  wpAny (model prog w) A (call (.builtin "sorted") [v]) Q E s:=by
 refine Calls.call_function_entry kind_sorted plain_sorted entry_sorted (args_sorted1 _) ?_; unfold Builtin.«sorted»
 refine wpAny_bind (m:=checkCount "sorted" 1 1 _) (wpAny_pure (wpAny_bind (wpAny_mono (hcol (fun us s'=>us=vs∧∃ (h':Heap) (tk:Nat),s' = { s with heap:=h',toks:=tk }∧∀ b o,s.heap.get? b=some o→h'.get? b=some o) fun h' tk k=>⟨rfl,h',tk,rfl,k⟩) ?_ fun _ _ e=>e)))
 rintro us s' ⟨rfl,h1,tk,rfl,kk⟩
 refine wpAny_bind (wpAny_newList ?_ (hsz:=hlen))
 have hoL:(h1.push (seqObj "list" us.toArray 0)).get? h1.objs.size=some (seqObj "list" us.toArray 0):=Heap.get?_push_size _ rfl
 have kn:∀ b o,s.heap.get? b=some o→b≠h1.objs.size:=fun b o e=>Nat.ne_of_lt (Heap.lt_size (kk b o e))
 refine wpAny_bind (wpAny_holding (wpAny_call_entry slot_list_sort ⟨_,hoL,rfl⟩ entry_list_sort (zfj (κ:=κ) (val:=val) hoL hlen (fun h' hk h2 Q E hq=>hkind _ (fun b o e=>hk b o (kn b o e) (Heap.get?_push_of_some _ (kk b o e))) h2 _ Q E hq) (fun h' hk=>hcmp _ _ fun b o e=>hk b o (kn b o e) (Heap.get?_push_of_some _ (kk b o e))) fun out a1 a2=>⟨_,rfl,?_⟩) (args_list_sort _)))
 obtain⟨e,he⟩:=sortedHeap_at (out:=out) hoL
 refine wpAny_pure ⟨_,rfl,h _ tk out e h1.objs.size (fun b o x=>?_) (fun b o x=>Heap.lt_size (kk _ _ x)) he a1 a2⟩
 rw [sortedHeap_old (kn b o x) (by rw [Heap.size_push]; exact Nat.lt_succ_of_lt (Heap.lt_size (kk _ _ x)))]
 exact Heap.get?_push_of_some _ (kk _ _ x)
end
end Srt
end
section
set_option maxHeartbeats 3994000
namespace L2
open PySem PySem.Spec PyProof.Rows Srt
section
variable {X:Cx} {pins:List (Addr×Obj)} {σ:St} {H:Hp} {s:Shared} {k:Nat} {B:Int} {ps:List (Addr×List Int)}
end
end L2
end
section
set_option maxHeartbeats 3999000
namespace L2
open PySem PySem.Spec PyProof.Rows Srt
def za7:Value→Int
 | .int n _=>n
 | _=>0
theorem ints_map {vs:List Value} {ns:List Int} (h:IntsAre vs ns):vs.map za7=ns:=by
 induction h with
 | nil=>rfl
 | cons n t _ ih=>rw [List.map_cons,ih]; rfl
theorem zdk {vs:List Value} {ns:List Int} (h:IntsAre vs ns):∀ v∈vs,∃ n t,v=Value.int n t:=by
 induction h with
 | nil=>intro v hv; cases hv
 | cons n t _ ih =>
  intro v hv
  rcases (List.mem_cons.mp hv) with rfl | hv
  ·exact⟨n,t,rfl⟩
  ·exact ih v hv
theorem zbp:∀ {vs:List Value},(∀ v∈vs,∃ n t,v=Value.int n t)→zt ((vs.map za7).map V.int) vs
 | [],_=>.nil
 | v :: vs,h=>by
  obtain⟨n,t,rfl⟩:=h v List.mem_cons_self
  exact .cons ⟨t,rfl⟩ (zbp fun u hu=>h u (List.mem_cons_of_mem _ hu))
theorem zc1:∀ {vs:List Value} {ns:List Int},IntsAre vs ns→2≤vs.length→keyKind' vs.toArray=pure oneType'
 | [],_,_,h=>by simp at h
 | [_],_,_,h=>by simp at h
 | _ :: _ :: _,_,hI,_=>keyKind_ints hI
theorem zbZ:∀ {ms ns:List Int},ms.Perm ns→(ms.Pairwise fun a b=>a≤b)→(ns.Pairwise fun a b=>a≤b)→ms=ns
 | [],ns,h,_,_=>(List.nil_perm.mp h).symm
 | m :: ms,[],h,_,_=>by simpa using h.length_eq
 | m :: ms,n :: ns,h,h1,h2=>by
  rw [List.pairwise_cons] at h1 h2
  have e:m=n:=by
   have a:=h.mem_iff.mp (List.mem_cons_self (a:=m) (l:=ms))
   have b:=h.mem_iff.mpr (List.mem_cons_self (a:=n) (l:=ns))
   have a':n≤m:=by
    rcases List.mem_cons.mp a with r | r
    ·omega
    ·exact h2.1 m r
   have b':m≤n:=by
    rcases List.mem_cons.mp b with r | r
    ·omega
    ·exact h1.1 n r
   omega
  subst e
  rw [zbZ (List.Perm.cons_inv h) h1.2 h2.2]
end L2
end
section
set_option maxHeartbeats 3999000
namespace L2
open PySem PySem.Spec PyProof.Rows Srt
theorem zef (v:Value):vInt v=za7 v:=by cases v <;> rfl
theorem zb0:∀ {vs:List Value},(∀ v∈vs,∃ n t,v=Value.int n t)→IntsAre vs (vs.map za7)
 | [],_=>.nil
 | v :: vs,h=>by
  obtain⟨n,t,rfl⟩:=h v List.mem_cons_self
  exact .cons n t (zb0 fun u hu=>h u (List.mem_cons_of_mem _ hu))
theorem zdJ {X:Cx} (hc:X.calm=true) {pins:List (Addr×Obj)} {s:Shared} {σ:St} {H:Hp} {a:Addr} {ns:List Int} {Q:VK} (I:Inv X pins σ H s) (hS:zb2 X.prog X.w (zT X.w) s.heap a ns)
  (q:∀ (l:Addr) (ms:List Int),H l=none→ms.Perm ns→(ms.Pairwise fun a b=>a≤b)→Q (.ref l) (upd H l (.lst (ms.map V.int)))) :
  wpAny (model X.prog X.w) X.A (call (.builtin "sorted") [.ref a]) (EP X pins σ Q) X.xe s:=by
 obtain⟨o,es,ep,t,ho,hex,hd,hel,hp,hsm,P⟩:=hS
 have hsz:es.size≤18:=by have:=P.m; omega
 obtain⟨vs,ev⟩:∃ vs,vs=(zaj X.w a ep es).toList.map (·.2):=⟨_,rfl⟩
 have hpv:(vs.map za7).Perm ns:=by
  rw [ev,List.map_map]
  refine List.Perm.trans ?_ hp
  have:=(zaD X.w a ep es).map fun e=>vInt e.2
  refine List.Perm.trans (List.Perm.of_eq ?_) this
  exact List.map_congr_left fun e _=>(zef e.2).symm
 have hin:∀ v∈vs,∃ n t,v=Value.int n t:=fun v hv=>by
  rw [ev] at hv
  obtain⟨e,he,rfl⟩:=List.mem_map.mp hv
  obtain⟨⟨k,hk,_⟩,_⟩:=hel e ((zaD X.w a ep es).mem_iff.mp he)
  obtain⟨t,h⟩:=Value.isInt_shape hk
  exact⟨k,t,h⟩
 have hI:=zb0 hin
 have hl:vs.length≤18:=by rw [ev,List.length_map,(zaD X.w a ep es).length_eq,Array.length_toList]; exact hsz
 have hsl:sizeLine=16777216:=rfl
 refine zc0 (vs:=vs) (κ:=oneType') (val:=fun p=>za7 p.1) (by omega) (fun R hR=>?_) (fun s' kk h2 A' Q' E' hq'=>?_) (fun s' A' kk=>?_) fun h' tk out e D kk hD hlst hpm hs=>?_
 ·refine zdD (A:=X.A.in1) (by rw [show X.A.in1.handled=X.A.handled by simp]; exact I.ok.hd hc) ho hex hd P fun h' tk k=>?_
  rw [← ev]
  exact hR h' tk k
 ·rw [zc1 hI h2]
  exact wpAny_pure hq'
 ·intro x y hx hy Q E hQ
  obtain⟨a,t,ex⟩:=hin _ (zaN hx).1
  obtain⟨b,t',ey⟩:=hin _ (zaN hy).1
  rw [keyLt'_oneType,ex,ey]
  simp only [ex,ey,za7] at hQ
  exact oneLt_int hQ
 ·have ho:∀ v∈out.toList,∃ n t,v=Value.int n t:=fun v hv=>hin v (hpm.mem_iff.mp hv)
  have hlen:=hpm.length_eq
  obtain⟨hn,I2⟩:=I.above (tk:=tk) (D:=D) (o:=.lst ((out.toList.map za7).map V.int)) kk hD ⟨by rw [List.length_map,List.length_map]; omega,out.toList,e,zbp ho,by simpa using hlst⟩
  exact⟨.ref D,_,I2,rfl,q D _ hn ((hpm.map _).trans hpv) (List.pairwise_map.mpr hs)⟩
def rSS (K:PySem.W.Frag):List V→Hp→VK→Prop:=fun xs H Q=>∃ (p:Addr) (ns:List Int),xs = [.ref p]∧SqT K H p (ns.map V.int)∧ns.length≤17∧(∀ n∈ns,0≤n∧n < 97) ∧
 ∀ (l:Addr) (ms:List Int),H l=none→ms.Perm (firstMet (fun i=>ns.getD i 0) ns.length)→(ms.Pairwise fun a b=>a≤b)→Q (.ref l) (upd H l (.lst (ms.map V.int)))
theorem zdl {X:Cx} {e:Expr} {t:TA} {p p' pos pos':Pos} (hc:X.calm=true) (hg:Gl X "sorted") (hm:X.mg "sorted" = none) (hg':Gl X "set") (hm':X.mg "set" = none) (ha:PA X [e] t)
  (he:starEach [e] X.env = [(false,eval e X.env)]:=by rfl):PE X (.Call (.Name "sorted" p) [.Call (.Name "set" p') [e] [] pos'] [] pos) (tCB (rSS X.K) t):=by
 intro pins s σ H Q I h
 refine wpAny_Call_Name_kw (zbk I hg hm (u:=.builtin "sorted") rfl ?_ (by decide) (by decide))
 refine PyProof.Rows.callWith_builtin1 ?_ rfl rfl
 show wpAny _ _ (spliced ((false,eval (.Call (.Name "set" p') [e] [] pos') X.env) :: [])) _ _ s
 refine Calls.spliced_cons ?_
 refine wpAny_Call_Name_kw (zbk I hg' hm' (u:=.type "set") rfl ?_ (by decide) (by decide))
 refine PyProof.Rows.callWith_type1 (thn (ha pos' pins s σ H _ I h) fun us s1 ⟨vs,H1,I1,r1,q1⟩=>?_) he rfl
 obtain⟨pa,ns,rfl,hq,hn,hb,q⟩:=q1
 obtain⟨u,rfl,rx⟩:=vals1 r1
 cases rx
 obtain⟨its,rv,pl,hz⟩:=I1.tuple hq
 have hl:=rv.length
 rw [List.length_map] at hl
 have hz2:its.toArray.size=ns.length:=by rw [List.size_toArray]; exact hl.symm
 refine zcZ (ns:=ns) (I1.ok.hd hc) (show s1.heap.IsTuple pa its.toArray from pl) (by simpa using intsAre_of rv) (by omega) hb fun h' tk fl=>?_
 obtain⟨f1,f2⟩:=fl
 rw [hz2] at f1
 have k:∀ b o,s1.heap.get? b=some o→h'.get? b=some o:=fun b o e=>f2 b o (Heap.lt_size e) e
 have I2:Inv X pins σ H1 { s1 with heap:=h',toks:=tk }:=I1.kept k
 refine Calls.spliced_nil ?_
 exact zdJ hc I2 f1 q
end L2
end
section
set_option maxHeartbeats 3999000
namespace L2
open PySem PySem.Spec PyProof.Rows Srt
section
variable {prog:Program} {w:World} {A:Around} {E:Value→Shared→Prop} {s:Shared}
theorem zdK {l:Addr} {vs:List Value} {Q:List Value→Shared→Prop} (hl:s.heap.IsTuple l vs.toArray) (hsz:vs.length≤sizeLine)
  (h:Q vs { s with heap:=(s.heap.push (seqObj "list" #[] 0)).update s.heap.objs.size (Obj.mapSeq (·++vs.toArray)) }):wpAny (model prog w) A (collect (.ref l)) Q E s:=by
 (obtain⟨o,ho,hc,n,hd⟩:=id hl)
 unfold collect
 refine wpAny_bind (wpAny_runValue (codeAny_builtin PySem.F.entry_proto_collect ?_))
 (rw [Around.under_plainId PySem.F.plain_proto_collect _])
 show wpAny _ A.in1 (newList [] >>= fun x=>again (.builtin "list.__iadd__" ⟨[x,.ref l],[]⟩)) _ _ s
 (refine wpAny_bind (wpAny_newObj_type ?_))
 refine wpAny_pure ⟨plainId_quiet PySem.F.plain_list_iadd _,codeAny_builtin PySem.F.entry_list_iadd ?_⟩
 (rw [Around.under_plainId PySem.F.plain_list_iadd _])
 show wpAny _ A.in1 (Builtin.List.listExtendWith (.ref s.heap.objs.size) (.ref l) (.ref s.heap.objs.size)) _ _ _
 (unfold Builtin.List.listExtendWith)
 (have ho':(s.heap.push (seqObj "list" #[] 0)).get? l=some o:=Heap.get?_push_of_some _ ho)
 refine wpAny_bind (wpAny_typeOf (T:="tuple") ⟨o,ho',hc⟩ ?_)
 have ht:(Value.type "tuple" == Value.type "tuple")=true:=by rfl
 (rw [if_pos (by rw [ht]; simp)])
 (refine wpAny_bind (listItems_at ho' hd ?_))
 (refine wpAny_bind (listItems_at (xs:=#[]) (n:=0) (Heap.get?_push_size _ rfl) rfl ?_))
 rw [if_neg (by simp)]
 (refine wpAny_bind (listUpdate_at (xs:=#[]) (n:=0) (Heap.get?_push_size _ rfl) rfl ?_ (Nat.zero_le _) (by show (#[]++vs.toArray).size≤sizeLine+1; simp only [Array.size_append,List.size_toArray,List.length_nil]; omega)))
 refine wpAny_pure ?_
 show wpAny (model prog w) A (load s.heap.objs.size >>= _) Q E { s with heap:=(s.heap.push (seqObj "list" #[] 0)).update s.heap.objs.size (Obj.mapSeq (·++vs.toArray)) }
 (refine wpAny_bind (wpAny_load (get?_update_seq (Heap.get?_push_size _ rfl) _) ?_))
 (show wpAny _ _ (pure ((#[]:Array Value)++vs.toArray).toList) Q E _)
 (rw [show ((#[]:Array Value)++vs.toArray).toList=vs by simp])
 exact wpAny_pure h
end
theorem zcF {X:Cx}:zaB X (.builtin "sorted") (fun xs H Q=>∃ (p:Addr) (ns:List Int),xs = [.ref p]∧SqT X.K H p (ns.map V.int) ∧
  ∀ (l:Addr) (ms:List Int),H l=none→ms.Perm ns→(ms.Pairwise fun a b=>a≤b)→Q (.ref l) (upd H l (.lst (ms.map V.int)))):=by
 intro pins s σ H xs us Q I r h
 obtain⟨p,ns,rfl,hq,q⟩:=h
 obtain⟨u,rfl,rx⟩:=vals1 r
 cases rx
 obtain⟨its,rv,pl,hz⟩:=I.tuple hq
 have hI:IntsAre its ns:=intsAre_of rv
 have hl:=rv.length
 refine zc0 (vs:=its) (κ:=oneType') (val:=fun p=>za7 p.1) (by omega) (fun R hR=>?_) (fun s' kk h2 A' Q' E' hq'=>?_) (fun s' A' kk=>?_) fun h' tk out e D kk hD hlst hp hs=>?_
 ·exact zdK (show s.heap.IsTuple p its.toArray from pl) (by omega) (hR _ _ fun b o e=>(Heap.get?_update_ne _ _ _ _ (Nat.ne_of_lt (Heap.lt_size e))).trans (Heap.get?_push_of_some _ e))
 ·rw [zc1 hI h2]
  exact wpAny_pure hq'
 ·intro x y hx hy Q E hQ
  obtain⟨a,t,ex⟩:=zdk hI _ (zaN hx).1
  obtain⟨b,t',ey⟩:=zdk hI _ (zaN hy).1
  rw [keyLt'_oneType,ex,ey]
  simp only [ex,ey,za7] at hQ
  exact oneLt_int hQ
 ·have ho:∀ v∈out.toList,∃ n t,v=Value.int n t:=fun v hv=>zdk hI v (hp.mem_iff.mp hv)
  have hlen:=hp.length_eq
  obtain⟨hn,I2⟩:=I.above (tk:=tk) (D:=D) (o:=.lst ((out.toList.map za7).map V.int)) kk hD ⟨by rw [List.length_map,List.length_map]; omega,out.toList,e,zbp ho,by simpa using hlst⟩
  refine⟨.ref D,_,I2,rfl,q D _ hn ?_ ?_⟩
  ·rw [← ints_map hI]
   exact hp.map _
  ·exact List.pairwise_map.mpr hs
theorem zbd (val:Nat→Int):∀ i,(firstMet val i).Nodup
 | 0=>by rw [firstMet_zero]; exact List.nodup_nil
 | i+1=>by
  rw [firstMet_succ]
  have ih:=zbd val i
  unfold step_dedup
  split
  ·exact ih
  ·next h =>
   refine List.nodup_append.mpr ⟨ih,by simp,fun a ha b hb e=>?_⟩
   have hb:=List.mem_singleton.mp hb
   subst hb
   exact h (List.any_eq_true.mpr ⟨a,ha,by simp [e]⟩)
theorem zeK (ns:List Int) (k:Int):k∈firstMet (fun i=>ns.getD i 0) ns.length↔k∈ns:=by
 have h:=firstMet_any (fun i=>ns.getD i 0) ns.length k
 have e:(List.range ns.length).map (fun i=>ns.getD i 0)=ns:=range_getD ns
 rw [e] at h
 constructor
 ·intro hk
  have:(firstMet (fun i=>ns.getD i 0) ns.length).any (· == k)=true:=List.any_eq_true.mpr ⟨k,hk,by simp⟩
  rw [h] at this
  obtain⟨x,hx,hxe⟩:=List.any_eq_true.mp this
  rw [← beq_iff_eq.mp hxe]; exact hx
 ·intro hk
  have:ns.any (· == k)=true:=List.any_eq_true.mpr ⟨k,hk,by simp⟩
  rw [← h] at this
  obtain⟨x,hx,hxe⟩:=List.any_eq_true.mp this
  rw [← beq_iff_eq.mp hxe]; exact hx
theorem zcG {ns ms ms':List Int} (h1:ms.Perm (firstMet (fun i=>ns.getD i 0) ns.length)) (h2:ms'.Perm ns) (s1:ms.Pairwise fun a b=>a≤b) (s2:ms'.Pairwise fun a b=>a≤b):ms=ms'↔ns.Nodup:=by
 constructor
 ·intro e
  subst e
  exact (h2.symm.trans h1).nodup_iff.mpr (zbd _ _)
 ·intro nd
  refine zbZ (h1.trans (List.Perm.trans ?_ h2.symm)) s1 s2
  exact (List.perm_ext_iff_of_nodup (zbd _ _) nd).mpr fun k=>zeK ns k
end L2
end
section
set_option maxHeartbeats 3999000
namespace L2
open PySem PySem.Spec PyProof.Rows
theorem zb2.setOf {prog:Program} {w:World} {led:Bool} {h:Heap} {a:Addr} {ns:List Int} (hS:zb2 prog w led h a ns):h.SetOf (intKind prog w) a (fun k=>ns.any (· == k)) ns.length:=by
 obtain⟨o,es,ep,t,ho,hex,hd,hel,hp,hsm,P⟩:=hS
 refine⟨o,es,ep,t,ho,hex,hd,hel,fun k=>?_,by have:=P.m; unfold scanBound; omega,P.fits,by rw [← hp.length_eq,List.length_map,Array.length_toList]⟩
 constructor
 ·intro hk
  obtain⟨x,hx,hxe⟩:=List.any_eq_true.mp hk
  have hx:=hp.mem_iff.mpr hx
  obtain⟨e,he,rfl⟩:=List.mem_map.mp hx
  obtain⟨⟨k',hk',_⟩,_⟩:=hel e he
  refine⟨e,he,?_⟩
  rw [← beq_iff_eq.mp hxe,zbB hk']
  exact hk'
 ·rintro⟨e,he,hk⟩
  exact List.any_eq_true.mpr ⟨k,hp.mem_iff.mp (List.mem_map.mpr ⟨e,he,zbB hk⟩),by simp⟩
theorem zfk {X:Cx} (hc:X.calm=true):zaB X (.type "set") (fun xs H Q=>∃ (p:Addr) (ns:List Int),xs = [.ref p]∧SqT X.K H p (ns.map V.int)∧ns.length≤17∧(∀ n∈ns,0≤n∧n < 97) ∧
  ∀ l S,H l=none→Q (.ref l) (upd H l (.set S (firstMet (fun i=>ns.getD i 0) ns.length).length))):=by
 intro pins s σ H xs us Q I r h
 obtain⟨p,ns,rfl,hq,hn,hb,q⟩:=h
 obtain⟨u,rfl,rx⟩:=vals1 r
 cases rx
 obtain⟨its,rv,pl,hz⟩:=I.tuple hq
 have hl:=rv.length
 rw [List.length_map] at hl
 have hz2:its.toArray.size=ns.length:=by rw [List.size_toArray]; exact hl.symm
 refine zcZ (ns:=ns) (I.ok.hd hc) (show s.heap.IsTuple p its.toArray from pl) (by simpa using intsAre_of rv) (by omega) hb fun h' tk fl=>?_
 obtain⟨f1,f2⟩:=fl
 rw [hz2] at f1
 have k:∀ b o,s.heap.get? b=some o→h'.get? b=some o:=fun b o e=>f2 b o (Heap.lt_size e) e
 exact⟨.ref s.heap.objs.size,_,I.laid (o:=.set _ _) k (Nat.le_refl _) f1.setOf,rfl,q _ _ I.fresh⟩
theorem zdL (val:Nat→Int):∀ i,(firstMet val i).length=i→((List.range i).map val).Nodup
 | 0,_=>List.nodup_nil
 | i+1,h=>by
  rw [firstMet_succ,step_length] at h
  have hle:=firstMet_length_le val i
  by_cases ha:(firstMet val i).any (· == val i)=true
  ·rw [if_pos ha] at h; omega
  ·rw [if_neg ha] at h
   have ih:=zdL val i (by omega)
   rw [firstMet_any] at ha
   rw [List.range_succ,List.map_append]
   refine List.nodup_append.mpr ⟨ih,by simp,fun a ha' b hb e=>?_⟩
   have hb:b=val i:=by simpa using hb
   exact ha (List.any_eq_true.mpr ⟨a,ha',by simp [e,hb]⟩)
theorem zdM (ns:List Int):(firstMet (fun i=>ns.getD i 0) ns.length).length=ns.length↔ns.Nodup:=by
 constructor
 ·intro h
  have:=zdL _ _ h
  rwa [range_getD ns] at this
 ·intro nd
  exact ((List.perm_ext_iff_of_nodup (zbd _ _) nd).mpr fun k=>zeK ns k).length_eq
end L2
end
section
set_option maxHeartbeats 3999000
namespace L2
open PySem PySem.Spec PyProof.Rows
section
variable {prog:Program} {w:World} {A:Around} {E:Value→Shared→Prop} {s:Shared}
theorem zdN {r:Addr} {a b c:Int} {t u v:Tok} {n:Nat} {Q:List Value→Shared→Prop} (hh:A.handled=none) (hr:IsRange s.heap r a b c t u v) (hsmall:Builtin.Range.small a b c=true) (hn:Builtin.Range.rangeSize a b c=n) (hlen:n≤2 ^ 24)
  (hQ:∀ h' tk acc,(∀ b o,s.heap.get? b=some o→h'.get? b=some o)→ItemsOf (fun i v=>∃ t,v = .int (a+i*c) t) acc n→Q acc.toList { s with heap:=h',toks:=tk }):wpAny (model prog w) A (collect (.ref r)) Q E s:=by
 unfold collect
 (refine wpAny_bind (wpAny_runValue (codeAny_builtin F.entry_proto_collect ?_)))
 (rw [Around.under_plainId F.plain_proto_collect _])
 (show wpAny _ A.in1 (newList [] >>= fun l=>again (.builtin "list.__iadd__" ⟨[l,.ref r],[]⟩)) _ _ s)
 (refine wpAny_bind (wpAny_newObj_type ?_))
 (refine wpAny_pure ⟨plainId_quiet F.plain_list_iadd _,codeAny_builtin F.entry_list_iadd ?_⟩)
 (rw [Around.under_plainId F.plain_list_iadd _])
 (have hS:(s.heap.push { cls:=.type "list",data:=.seq ([]:List Value).toArray }).get? s.heap.objs.size=some { cls:=.type "list",data:=.seq #[] 0 }:=Heap.get?_push_size _ rfl)
 have key:=wpAny_extend_range (prog:=prog) (w:=w) (A:=A) (s:={ s with heap:=s.heap.push { cls:=.type "list",data:=.seq ([]:List Value).toArray } }) (R:=fun rr s'=>∃ h' tk acc' c',(∀ b o,s.heap.get? b=some o→h'.get? b=some o)∧h'.get? s.heap.objs.size=some { cls:=.type "list",dict:=none,data:=.seq acc' c',slots:=#[] }∧ItemsOf (fun i v=>∃ t,v = .int (a+i*c) t) acc' n∧rr = .ok (.ret (.ref s.heap.objs.size))∧s' = { s with heap:=h',toks:=tk }) hh (Heap.get?_push_of_some _ hr) hsmall hn hlen s.heap.objs.size (.ref s.heap.objs.size) 0 hS fun h' tk acc' c' hk hS' hacc =>
   ⟨h',tk,acc',c',fun b o e=>hk b o (Nat.ne_of_lt (Heap.lt_size e)) (Heap.get?_push_of_some _ e),hS',hacc,rfl,rfl⟩
 have fin':∀ s',(∃ h' tk acc' c',(∀ b o,s.heap.get? b=some o→h'.get? b=some o)∧h'.get? s.heap.objs.size=some { cls:=.type "list",dict:=none,data:=.seq acc' c',slots:=#[] }∧ItemsOf (fun i v=>∃ t,v = .int (a+i*c) t) acc' n∧s' = { s with heap:=h',toks:=tk }) →
   wpAny (model prog w) A (load s.heap.objs.size >>= fun o=>match o.data with | .seq items _=>pure items.toList | _=>unsupported "internal:collect") Q E s':=by
  rintro s' ⟨h',tk,acc',c',hk,hS',hacc,rfl⟩
  (refine wpAny_bind (wpAny_load hS' ?_))
  exact wpAny_pure (hQ h' tk acc' hk hacc)
 refine wpAny_mono key (fun fin s' h=>?_) (fun e s' h=>?_)
 ·cases fin with
  | done f =>
   obtain⟨h',tk,acc',c',h1,h2,h3,e,h4⟩:=h
   cases e
   exact fin' s' ⟨h',tk,acc',c',h1,h2,h3,h4⟩
  | again c'=>exact⟨h.1,codeAny_mono h.2 fun r s'' hr=>by
    obtain⟨h',tk,acc',c',h1,h2,h3,e,h4⟩:=hr
    subst e
    exact fin' s'' ⟨h',tk,acc',c',h1,h2,h3,h4⟩⟩
 ·obtain⟨h',tk,acc',c',h1,h2,h3,e,h4⟩:=h
  cases e
end
theorem zb3 (r:Addr) (a b c:Int) (t u v:Tok) (n:Nat) (hsmall:Builtin.Range.small a b c=true) (hn:Builtin.Range.rangeSize a b c=n) (hlen:n≤2 ^ 20) :
  Meets (Builtin.«tuple.__new__» ⟨[.type "tuple",.ref r],[]⟩)
   (fun A R s=>(A.handled=none∧IsRange s.heap r a b c t u v)∧∀ (h':Heap) (tk:Nat) (acc:Array Value),(∀ b o',s.heap.get? b=some o'→h'.get? b=some o')→ItemsOf (fun i v=>∃ t,v = .int (a+i*c) t) acc n→R (.ok (.ret (.ref h'.objs.size))) { s with heap:=h'.push { cls:=.type "tuple",data:=.seq acc },toks:=tk }) :=
 .of_wp fun prog w A R s h=>by
  (obtain⟨hp,g,d,tk,os⟩:=s)
  obtain⟨⟨hh,hr⟩,h⟩:=h
  have hsub:=sub_tuple_self
  (have hinit:=init_tuple_lookup)
  have hmh:=madeHere_tuple
  have hT:Shared.TypeIs ⟨hp,g,d,tk,os⟩ (.ref r) "range":=⟨_,hr,rfl⟩
  (have hh1:A.in1.handled=none:=hh)
  wp_walk using AutoSeq1.wpAny_loadPart' hr,wpAny_typeOf hT,zdN (n:=n) hh1 hr hsmall hn (by omega)
  intro h' tk' acc hk hacc
  (show wpAny _ _ (Builtin.Tuple.tupleExact acc.toList.toArray >>= fun v=>ret v) _ _ _)
  (unfold Builtin.Tuple.tupleExact)
  refine wpAny_bind (wpAny_newObj_type ?_ (by show acc.toList.toArray.size≤sizeLine; simp only [Array.toArray_toList]; rw [hacc.1,sizeLine_eq]; omega))
  (refine wpAny_pure ⟨_,rfl,?_⟩)
  (have e:acc.toList.toArray=acc:=by simp)
  rw [e]
  exact h h' tk' acc hk hacc
theorem zcv {X:Cx} (hc:X.calm=true):zaB X (.type "tuple") (fun xs H Q=>∃ p hi,xs = [.ref p]∧H p=some (.rng 0 hi)∧0≤hi∧hi≤1000∧∀ l,H l=none→Q (.ref l) (upd H l (.tup ((zZ 0 hi.toNat).map V.int)))):=by
 intro pins s σ H xs us Q I r h
 obtain⟨p,hi,rfl,hp,h0,h1,q⟩:=h
 obtain⟨u,rfl,rx⟩:=vals1 r
 cases rx
 obtain⟨t,u',v,e⟩:=(show zS X.prog X.w H s.heap p (.rng 0 hi) from I.hok p _ hp)
 have hsl:=sizeLine_eq; refine callType_new F.called_tuple (by decide) (F.typeCall_tuple_1 _) (F.newCall_tuple_1 _) (fun obj=>F.args_object_init_2 obj _) F.entry_tuple_new
  (zb3 p 0 hi 1 t u' v hi.toNat (small_one (by omega) (by omega) (by omega) (by omega)) (by rw [rangeSize_one]; split <;> omega) (by omega)) ⟨⟨I.ok.hd hc,e⟩,fun h' tk acc hk hacc=>⟨⟨_,Heap.get?_push_size _ rfl,rfl⟩,?_⟩⟩
 have hv:=zbh (lo:=0) (n:=hi.toNat) hacc
 have I1:Inv X pins σ H { s with heap:=h',toks:=tk }:=I.kept (t':=tk) hk
 have I2:Inv X pins σ (upd H h'.objs.size (.tup ((zZ 0 hi.toNat).map V.int))) { s with heap:=h'.push { cls:=.type "tuple",data:=.seq acc },toks:=tk } :=
  I1.laid (t':=tk) (fun b o e=>Heap.get?_push_of_some _ e) (Nat.le_refl _) (show zS X.prog X.w _ _ _ (.tup ((zZ 0 hi.toNat).map V.int)) from ⟨by rw [List.length_map,zab]; omega,acc.toList,hv,by simpa using IsTup.new h' acc⟩)
 exact⟨.ref h'.objs.size,_,I2,rfl,q _ (I1.hok.fresh (Nat.le_refl _))⟩
theorem zeL {X:Cx}:OpR X (compareOp .IsNot) (fun x y H Q=>∃ a b,x = .bl a∧y = .bl b∧Q (.bl (!(a == b))) H):=by
 intro pins s σ H x y v u Q I rx ry h
 obtain⟨a,b,rfl,rfl,q⟩:=h
 cases rx
 cases ry
 exact wpAny_pure ⟨.bl (!(a == b)),H,I,by cases a <;> cases b <;> rfl,q⟩
end L2
end
section
set_option maxHeartbeats 3999000
namespace L2
open PySem PySem.Spec PyProof.Rows
section
variable {X:Cx} {elt t1 i1 t2 i2:Expr} {f1 f2:List Expr} {scope:Scope} {pos:Pos} {N':List Str} {ix:List (Option Nat)} {js1 js2:List Nat} {g1 g2:TG} {ts1 ts2:TT} {te:TE} {wi1 wi2:TI}
end
end L2
end
section
set_option maxHeartbeats 3999000
namespace L2
open PySem PySem.Spec PyProof.Rows
def zhm (K:PySem.W.Frag):R2:=fun x y H Q=>∃ a b xs ys,x = .ref a∧y = .ref b∧SqT K H a xs∧SqT K H b ys∧ys≠[]∧xs.length+ys.length≤sizeLine ∧
 (xs = []→Q (.ref b) H)∧(xs≠[]→∀ p,H p=none→Q (.ref p) (upd H p (.tup (xs++ys))))
theorem zfl {X:Cx} {K:PySem.W.Frag} (hK:X.K=K):OpR X (binaryOp .Add) (zhm K):=by
 subst hK
 intro pins s σ H x y v u Q I rx ry h
 obtain⟨a,b,xs,ys,rfl,rfl,ha,hb,hy,hz,q1,q2⟩:=h
 by_cases hx:xs = []
 ·cases rx
  cases ry
  obtain⟨its,r1,p1,_⟩:=I.tuple ha
  obtain⟨its2,r2,p2,_⟩:=I.tuple hb
  obtain⟨⟨cls,dd,data,sl⟩,ho,hc,n,hd⟩:=id p1
  obtain⟨⟨cls2,dd2,data2,sl2⟩,ho2,hc2,n2,hd2⟩:=id p2
  simp only at hc hd hc2 hd2
  subst hc hd hc2 hd2
  exact concat_meets ⟨_,ho,rfl⟩ ⟨_,ho2,rfl⟩ noFill_tuple_add seq_tuple_add PySem.F.slot_tuple_add PySem.F.entry_tuple_add (PySem.F.args_tuple_add_2 _ _)
   (tuple_addW0 a b its.toArray its2.toArray n n2 dd dd2 sl sl2 (by simp [r1.nil_iff.mpr hx])) ⟨ho,ho2,⟨.ref b,H,I,rfl,q1 hx⟩⟩
 ·exact zeq pins s σ H _ _ v u Q I rx ry ⟨a,b,xs,ys,rfl,rfl,ha,hb,hx,hz,fun z=>absurd z hy,fun _=>q2 hx⟩
end L2
end
section
set_option maxHeartbeats 3999000
namespace L2
open PySem PySem.Spec PyProof.Rows
end L2
end
section
set_option maxHeartbeats 3999000
namespace HT
open PySem PySem.Spec PyProof.Rows
section
variable {prog:Program} {w:World} {A:Around} {E:Value→Shared→Prop} {s:Shared}
theorem getItem_tuple_whole {t sl:Addr} {items:Array Value} {vl vu:Value} {lo hi:Option Int} {Q:Value→Shared→Prop} (ht:IsTup s.heap t items) (hs:s.heap.IsSliceOf sl vl vu .none) (pl:IsPart vl lo) (pu:IsPart vu hi)
  (hw:sIx items.size 0 lo=0∧sIx items.size items.size hi=items.size) (h:Q (.ref t) s):wpAny (model prog w) A (getItem (.ref t) (.ref sl)) Q E s:=by
 obtain⟨os,hos,hcs,hds⟩:=id hs
 have hTs:s.TypeIs (.ref sl) "slice":=⟨os,hos,hcs⟩
 unfold getItem
 try with_reducible refine wpAny_holding ?_
 first | refine wpAny_bind (wpAny_pure ?_) | skip
 refine wpAny_bind (wpAny_sequenceKey ht.typeIs (by decide) ?_)
 refine wpAny_bind (wpAny_callSpecial?_slot (name:=Str.ofString "__getitem__") ht.typeIs PyProof.Rows.slot_tuple_getitem
  (wpAny_call_entry PyProof.Rows.slot_tuple_getitem ht.typeIs entry_tuple_getitem ?_ (args_tuple_getitem _ _)))
 show wpAny _ _ (Builtin.Tuple.tupleItemsOf (.ref t) >>= _) _ _ s
 refine wpAny_bind (tupleItemsOf_ ht ?_)
 refine wpAny_bind (wpAny_typeOf hTs ?_)
 rw [if_pos (by decide)]
 refine wpAny_bind (zaL hs pl pu ?_)
 have hyes:(((sIx items.size 0 lo:Nat):Int) == 0 && (1:Int) == 1 && (sIx items.size items.size hi - sIx items.size 0 lo) == items.size)=true:=by
  rw [hw.1,hw.2]
  simp
 show wpAny _ _ (if (((sIx items.size 0 lo:Nat):Int) == 0 && (1:Int) == 1 && (sIx items.size items.size hi - sIx items.size 0 lo) == items.size)=true then _ else _) _ _ s
 rw [if_pos hyes]
 refine wpAny_bind (m:=Builtin.Tuple.tupleIsExact _) (wpAny_bind (wpAny_typeOf ht.typeIs (wpAny_pure ?_)))
 rw [if_pos (by decide)]
 first
  | exact wpAny_bind (wpAny_rule (wpAny_pure ⟨_,rfl,wpAny_pure h⟩))
  | exact wpAny_bind (wpAny_bind (wpAny_rule (wpAny_pure ⟨_,rfl,wpAny_pure h⟩)))
end
end HT
namespace L2
open PySem PySem.Spec PyProof.Rows
def zig:V→Option Int→Option Int→Hp→VK→Prop:=fun x lo hi H Q=>∃ a xs,x = .ref a∧H a=some (.tup xs)∧∀ p H',zR H H'→H' p=some (.tup (zaQ xs lo hi))→Q (.ref p) H'
theorem zcc {X:Cx}:SlR X zig:=by
 intro pins s σ H x v vl vu lo hi sl Q I rx hs pl pu h
 obtain⟨a,xs,rfl,hx,q⟩:=h
 have hX:SqT X.K H a xs:=SqT.of hx
 by_cases hw:HT.sIx xs.length 0 lo=0∧HT.sIx xs.length xs.length hi=xs.length
 ·cases rx
  obtain⟨its,r,ht,hz⟩:=I.tuple hX
  have hlen:its.toArray.size=xs.length:=by rw [List.size_toArray]; exact r.length.symm
  refine⟨"tuple",_,PyProof.Rows.slot_tuple_getitem.lookup,ht.typeIs,?_⟩
  refine HT.getItem_tuple_whole ht hs pl pu (by rw [hlen]; exact hw) ⟨.ref a,H,I,rfl,q a H (fun _ _ e=>e) ?_⟩
  have e:zaQ xs lo hi=xs:=by
   unfold zaQ
   rw [hw.1,hw.2,List.drop_zero,Nat.sub_zero,List.take_length]
  rw [e]
  exact hx
 ·exact zg6 pins s σ H (.ref a) v vl vu lo hi sl Q I rx hs pl pu ⟨a,xs,rfl,hX,hw,fun p hp=>q p _ (fun b o z=>by rw [zm (fun e=>by rw [e,hp] at z; cases z)]; exact z) zc⟩
def zhR:R2:=fun x y H Q=>∃ a b xs ys,x = .ref a∧y = .ref b∧H a=some (.tup xs)∧H b=some (.tup ys)∧xs.length+ys.length≤sizeLine∧ys≠[]∧∀ p H',zR H H'→H' p=some (.tup (xs++ys))→Q (.ref p) H'
theorem zgJ {X:Cx}:OpR X (binaryOp .Add) zhR:=by
 intro pins s σ H x y v u Q I rx ry h
 obtain⟨a,b,xs,ys,rfl,rfl,ha,hb,hz,hy,q⟩:=h
 refine zfl rfl pins s σ H _ _ v u Q I rx ry ⟨a,b,xs,ys,rfl,rfl,SqT.of ha,SqT.of hb,hy,hz,fun e=>?_,fun _ p hp=>q p _ (fun b o z=>by rw [zm (fun e=>by rw [e,hp] at z; cases z)]; exact z) zc⟩
 subst e
 exact q b H (fun _ _ e=>e) hb
end L2
end
section
set_option maxHeartbeats 3999000
namespace L2
open PySem PySem.Spec PyProof.Rows
section
variable {X:Cx} {x:Str} {S:Addr} {body suite:List Stmt} {b₀:Stmt} {tb:XK→TS} {th:TS} {np hpos pos:Pos}
end
end L2
end
section
set_option maxHeartbeats 3996000
namespace L2
open PySem PySem.Spec PyProof.Rows
end L2
end
section
set_option maxHeartbeats 3995000
namespace PySem
open PyProof.Rows
section
variable {prog:Program} {w:World} {A:Around} {E:Value→Shared→Prop} {s:Shared}
end
end PySem
namespace L2
open PySem PySem.Spec PyProof.Rows
end L2
end
section
set_option maxHeartbeats 3998000
namespace L2
open PySem PySem.Spec PyProof.Rows
def zhS:R2:=fun x y H Q=>∃ a b xs ys,x = .ref a∧y = .ref b∧H a=some (.tup xs)∧H b=some (.tup ys)∧xs≠[]∧xs.length+ys.length≤sizeLine∧∀ p H',zR H H'→H' p=some (.tup (xs++ys))→Q (.ref p) H'
theorem zdm {X:Cx}:OpR X (binaryOp .Add) zhS:=by
 intro pins s σ H x y v u Q I rx ry h
 obtain⟨a,b,xs,ys,rfl,rfl,ha,hb,hx,hz,q⟩:=h
 exact zeq pins s σ H _ _ v u Q I rx ry ⟨a,b,xs,ys,rfl,rfl,SqT.of ha,SqT.of hb,hx,hz,fun e=>q a H (fun _ _ z=>z) (by rw [e,List.append_nil]; exact ha),fun _ p hp=>q p _ (fun b o z=>by rw [zm (fun e=>by rw [e,hp] at z; cases z)]; exact z) zc⟩
end L2
end
section
set_option maxHeartbeats 3999000
namespace My
open PySem L2 PyProof.Rows
section
variable {K:PySem.W.Frag}
def z6 (H:Hp):V→Option (List V)
 | .ref a=>match H a with
  | some (.tup xs)=>some xs
  | _=>none
 | _=>none
theorem zar {H:Hp} {a:Addr} {xs:List V} (h:H a=some (.tup xs)):z6 H (.ref a)=some xs:=by simp only [z6,h]
theorem zbK {H:Hp} {v:V} {xs:List V} (h:z6 H v=some xs):∃ a,v = .ref a∧H a=some (.tup xs):=by
 cases v with
 | ref a =>
  refine⟨a,rfl,?_⟩
  simp only [z6] at h
  split at h
  ·rename_i ys e
   cases h
   exact e
  ·cases h
 | _=>cases h
theorem zaE {H H':Hp} (s:zR H H') {v:V} (h:Any1 H v):z6 H' v=z6 H v:=by
 cases h with
 | lst e=>simp only [z6,e,s _ _ e]
 | tup e=>rw [zar e,zar (s _ _ e)]
 | _=>rfl
theorem zcd {H:Hp} {v:V} (h:Any1 H v):∃ t,TyOf K H v t∧PySem.W.kitOne K t (.type "tuple")=some (z6 H v).isSome:=by
 cases h with
 | non=>exact⟨_,.non,rfl⟩
 | bl b=>exact⟨_,.bl b,rfl⟩
 | int i=>exact⟨_,.int i,rfl⟩
 | str x=>exact⟨_,.str x,rfl⟩
 | lst e=>exact⟨_,.lst e,by simp only [z6,e]; rfl⟩
 | tup e=>exact⟨_,.tup e,by simp only [z6,e]; rfl⟩
def An2 (H:Hp) (v:V):Prop:=Any1 H v∧∀ xs,z6 H v=some xs→xs.length≤1000∧∀ x∈xs,Any1 H x
def An3 (H:Hp) (v:V):Prop:=Any1 H v∧∀ xs,z6 H v=some xs→xs.length≤1000∧∀ x∈xs,An2 H x
theorem An2.same {H H':Hp} (s:zR H H') {v:V} (h:An2 H v):An2 H' v :=
 ⟨h.1.same s,fun xs e=>by
  rw [zaE s h.1] at e
  exact⟨(h.2 xs e).1,fun x hx=>((h.2 xs e).2 x hx).same s⟩⟩
theorem An3.same {H H':Hp} (s:zR H H') {v:V} (h:An3 H v):An3 H' v :=
 ⟨h.1.same s,fun xs e=>by
  rw [zaE s h.1] at e
  exact⟨(h.2 xs e).1,fun x hx=>((h.2 xs e).2 x hx).same s⟩⟩
theorem An3.an2 {H:Hp} {v:V} (h:An3 H v):An2 H v:=⟨h.1,fun xs e=>⟨(h.2 xs e).1,fun x hx=>((h.2 xs e).2 x hx).1⟩⟩
theorem An3.flat {H:Hp} {v:V} (h:Any1 H v) (e:z6 H v=none):An3 H v:=⟨h,fun xs e2=>by rw [e] at e2; cases e2⟩
theorem An2.flat {H:Hp} {v:V} (h:Any1 H v) (e:z6 H v=none):An2 H v:=(An3.flat h e).an2
theorem An2.int {H:Hp} (i:Int):An2 H (.int i):=An2.flat (.int i) rfl
theorem An2.tup {H:Hp} {a:Addr} {xs:List V} (h:H a=some (.tup xs)) (hl:xs.length≤1000) (hx:∀ x∈xs,Any1 H x):An2 H (.ref a):=⟨.tup h,fun ys e=>by
 rw [zar h] at e
 cases e
 exact⟨hl,hx⟩⟩
theorem An3.tup {H:Hp} {a:Addr} {xs:List V} (h:H a=some (.tup xs)) (hl:xs.length≤1000) (hx:∀ x∈xs,An2 H x):An3 H (.ref a):=⟨.tup h,fun ys e=>by
 rw [zar h] at e
 cases e
 exact⟨hl,hx⟩⟩
theorem An3.lst {H:Hp} {a:Addr} {xs:List V} (h:H a=some (.lst xs)):An3 H (.ref a):=An3.flat (.lst h) (by simp only [z6,h])
theorem An3.three {H:Hp} {a:Addr} {x y z:V} (h:H a=some (.tup [x,y,z])) (hx:An2 H x) (hy:An2 H y) (hz:An2 H z):An3 H (.ref a):=An3.tup h (by simp) fun v hv=>by
 rcases (List.mem_cons.mp hv) with rfl | hv
 ·exact hx
 rcases (List.mem_cons.mp hv) with rfl | hv
 ·exact hy
 rw [List.mem_singleton.mp hv]
 exact hz
theorem zas {H:Hp} {pl:List Int}:∀ x∈pl.map V.int,Any1 H x:=by
 intro x hx
 obtain⟨i,_,rfl⟩:=List.mem_map.mp hx
 exact .int i
def zaK:V→Bool
 | .int i=>decide (i∈zr)
 | _=>false
def zn (p k:Int) (xs:List V):Bool:=decide (k≤xs.length) && (decide (xs.length≤16) && (xs.all (zac p) && decide xs.Nodup))
def zbL (p k:Int):Option (List V)→Bool
 | some xs=>zn p k xs
 | none=>false
def kB:V→Bool
 | .int k=>decide (1≤k) && decide (k≤5)
 | _=>false
def iOf:V→Int
 | .int i=>i
 | _=>0
def zaO (H:Hp) (x y z:V):Bool:=zaK x && (kB y && zbL (iOf x) (iOf y) (z6 H z))
def za1 (H:Hp):List V→Bool
 | [x,y,z]=>zaO H x y z
 | _=>false
def codeB (H:Hp) (v:V):Bool:=match z6 H v with
 | some xs=>za1 H xs
 | none=>false
theorem zeg {H H':Hp} (s:zR H H') {v:V} (h:An3 H v):codeB H' v=codeB H v:=by
 unfold codeB
 rw [zaE s h.1]
 cases e:z6 H v with
 | none=>rfl
 | some xs =>
  match xs,e with
  | [],_=>rfl
  | [_],_=>rfl
  | [_,_],_=>rfl
  | [x,y,z],e =>
   show zaO H' x y z=zaO H x y z
   unfold zaO
   rw [zaE s ((h.2 _ e).2 z (by simp)).1]
  | _ :: _ :: _ :: _ :: _,_=>rfl
theorem zc2 {H:Hp} {xs:List V} (h:xs.length≠3):za1 H xs=false:=by
 match xs,h with
 | [],_=>rfl
 | [_],_=>rfl
 | [_,_],_=>rfl
 | [_,_,_],h=>exact absurd rfl h
 | _ :: _ :: _ :: _ :: _,_=>rfl
theorem zhT {xs:List V} (h:xs.length=3):∃ x y z,xs = [x,y,z]:=by
 match xs,h with
 | [x,y,z],_=>exact⟨x,y,z,rfl⟩
theorem zdn {p:Int}:∀ {xs:List V},xs.all (zac p)=true→∃ ns:List Int,xs=ns.map V.int∧∀ n∈ns,0≤n∧n < p
 | [],_=>⟨[],rfl,fun n h=>by cases h⟩
 | x :: xs,h=>by
  (rw [List.all_cons,Bool.and_eq_true] at h)
  obtain⟨ns,rfl,hn⟩:=zdn h.2
  cases x with
  | int i =>
   have h1:=h.1
   simp only [zac,Bool.and_eq_true,decide_eq_true_eq] at h1
   refine⟨i :: ns,rfl,fun n hn'=>?_⟩
   rcases List.mem_cons.mp hn' with rfl | hn'
   ·exact h1
   ·exact hn n hn'
  | _=>cases h.1
theorem zbq {ns:List Int}:(ns.map V.int).Nodup↔ns.Nodup:=by
 constructor
 ·exact fun h=>List.Pairwise.of_map _ (fun a b hab e=>hab (by rw [e])) h
 ·exact fun h=>List.Pairwise.map _ (fun a b hab e=>hab (by injection e)) h
def zhn (p:Int):List Bool:=(List.range (p - 2).toNat).map fun i:Nat=>!decide (p % (2+(i:Int))=0)
def dv (p:Int) (i:Nat):List Int:=((List.range i).map fun i:Nat=>2+(i:Int)).filter fun j=>decide (p % j=0) && !decide (p=j)
theorem zdo (p:Int) (i:Nat):dv p (i+1)=dv p i++if (decide (p % (2+(i:Int))=0) && !decide (p=2+(i:Int)))=true then [2+(i:Int)] else []:=by
 unfold dv
 rw [List.range_succ,List.map_append,List.filter_append]
 congr 1
 rw [List.map_cons,List.map_nil,List.filter_cons,List.filter_nil]
theorem zho (p:Int) (i:Nat):(dv p i).length≤i:=by
 unfold dv
 refine Nat.le_trans (List.length_filter_le _ _) ?_
 rw [List.length_map,List.length_range]
 exact Nat.le_refl _
def zgS (p:Int):List Int:=dv p 8
theorem zga:(List.range 93).all (fun n=>(zhn (5+(n:Int))).all id == decide (5+(n:Int)∈zr))=true:=by decide +kernel
theorem zfm:(List.range 93).all (fun n=>(zgS (5+(n:Int))).isEmpty == decide (5+(n:Int)∈zr))=true:=by decide +kernel
theorem zgK {p:Int} (h5:5≤p) (h97:p≤97):(zhn p).all id=decide (p∈zr):=by
 have h:=List.all_eq_true.mp zga (p - 5).toNat (List.mem_range.mpr (by omega))
 have e:5+(((p - 5).toNat:Nat):Int)=p:=by omega
 rw [e] at h
 exact beq_iff_eq.mp h
theorem zgb {p:Int} (h5:5≤p) (h97:p≤97):(zgS p).isEmpty=decide (p∈zr):=by
 have h:=List.all_eq_true.mp zfm (p - 5).toNat (List.mem_range.mpr (by omega))
 have e:5+(((p - 5).toNat:Nat):Int)=p:=by omega
 rw [e] at h
 exact beq_iff_eq.mp h
def zbS (K:PySem.W.Frag):Sp:=fun vs H Q _=>∃ v,vs = [v]∧Any1 H v∧∀ H',zR H H'→Q (.bl (zaK v)) H'
def zcH (K:PySem.W.Frag):Sp:=fun vs H Q _=>∃ (p k:Int) (v:V),vs = [.int p,.int k,v]∧p≤97∧An2 H v∧∀ H',zR H H'→Q (.bl (zbL p k (z6 H v))) H'
def zcw (K:PySem.W.Frag):Sp:=fun vs H Q _=>∃ v,vs = [v]∧An3 H v∧∀ H',zR H H'→Q (.bl (codeB H v)) H'
def zgc (K:PySem.W.Frag):Sp:=fun vs H Q _=>∃ d:Int,vs = [.int d]∧0≤d∧d≤100000∧∀ v H',zR H H'→An3 H' v→Q v H'
def zdO (K:PySem.W.Frag):Sp:=fun vs H Q _=>∃ (c tt r:Addr) (p k:Int) (pl rs:List Int),vs = [.ref c,.ref r]∧zaV H c tt p k pl∧pl≠[]∧pl.length≤16∧SqL K H r (rs.map V.int)∧rs.length=4∧(∀ x∈rs,0≤x∧x≤100000)∧∀ v H',zR H H'→An3 H' v→Q v H'
theorem zfn {a:Addr} {xs:List V} {kp:V→Bool} {f:V→V} {g:TG} {ts:TT} {te:TE} {σ0:L2.St} {Q:VK} {H:Hp} (ha:SqT K H a xs) (hn:xs.length≤10000)
  (hs:∀ (i:Nat) (x:V) (R:VK) (B:Hp→Prop),xs[i]? = some x→(if kp x=true then R (f x) H else B H)→g x σ0 H fun σ2 H2=>ts σ2 H2 fun b H3=>if b=true then te σ2 H3 R else B H3)
  (hd:∀ D,H D=none→Q (.ref D) (upd H D (.lst ((xs.filter kp).map f)))):cGo g ts te σ0 (Itt K a) Q H:=by
 refine zbv (n:=xs.length) (fun i ys H'=>ys=((xs.take i).filter kp).map f∧H'=H) ⟨by simp,rfl⟩ ?_ ?_ ?_ ?_
 ·rintro i ys H3 hi ⟨_,rfl⟩
  exact⟨_,xs[i],ha,by simp⟩
 ·rintro ys H3 ⟨_,rfl⟩
  exact⟨_,ha,Nat.le_refl _⟩
 ·rintro i x ys H3 H4 hi ⟨rfl,rfl⟩ ⟨rfl,hx⟩
  refine hs i x _ _ (hx _ ha) ?_
  rw [take_snoc (hx _ ha),List.filter_append,List.map_append]
  by_cases h:kp x=true
  ·rw [if_pos h]
   refine⟨zaU ?_,?_,rfl⟩
   ·rw [List.length_map]
    exact Nat.le_trans (List.length_filter_le _ _) (Nat.le_trans (List.length_take_le _ _) (by omega))
   ·congr 1
    simp [h]
  ·rw [if_neg h]
   refine⟨?_,rfl⟩
   simp [h]
 ·rintro ys H3 D ⟨rfl,rfl⟩ hD
  rw [List.take_length]
  exact hd D hD
end
end My
namespace My
open PySem L2 PyProof.Rows
section
variable {K:PySem.W.Frag}
theorem zgT {H:Hp} {Q:VK} {a b:Addr} {xs:List V} (ha:SqL K H a xs) (hb:SqL K H b []) (q:Q (.bl (!xs.isEmpty)) H):zgw K true (.ref a) (.ref b) H Q:=by
 refine⟨a,b,_,_,rfl,rfl,.inl ⟨ha,hb⟩,?_⟩
 cases xs with
 | nil=>exact .inr ⟨rfl,fun _=>true,fun j x y h=>by simp at h,q⟩
 | cons x xs=>exact .inl ⟨by simp,fun j x y _ h=>by simp at h,q⟩
theorem zgd {p:Int} {xs:List V}:(((xs.filter fun x=>!zac p x).map id).isEmpty)=xs.all (zac p):=by
 rw [List.map_id]
 induction xs with
 | nil=>rfl
 | cons x xs ih =>
  rw [List.filter_cons,List.all_cons]
  cases h:zac p x with
  | true=>exact ih
  | false=>rfl
theorem zce (xs:List V) (lo hi:Option Int):(zaQ xs lo hi).length≤xs.length:=by
 unfold zaQ
 rw [List.length_take,List.length_drop]
 omega
theorem zcf {xs:List V} {lo hi:Option Int} {x:V} (h:x∈zaQ xs lo hi):x∈xs:=List.mem_of_mem_drop (List.mem_of_mem_take h)
theorem zcg {xs:List V} {k:Int} (h0:0≤k) (h1:k < xs.length):∃ v,v∈xs∧atI xs k=some v:=by
 (have hk:k.toNat < xs.length:=by omega)
 refine⟨xs[k.toNat],List.getElem_mem hk,?_⟩
 have e:=zes (xs:=xs) (j:=k.toNat) (v:=xs[k.toNat]) (List.getElem?_eq_getElem hk)
 have e2:((k.toNat:Nat):Int)=k:=by omega
 rw [e2] at e
 exact e
def zfo (a1 a2 a3 a4 a6 a7:Addr) (b:Int):List V:=[.non,.bl true,.bl false,.int (-1),.int 0,.int 1,.int 2,.int 3,.int 4,.int 5,.int 6,.int 9,.int 25,.int 97,.int 101,.str "",.str "7",.ref a1,.ref a2,.ref a3,.ref a4,.ref a6,.ref a7,.int b]
theorem zgL {H:Hp} {a1 a2 a3 a4 a5 a6 a7:Addr} {b:Int} (h1:H a1=some (.lst [])) (h2:H a2=some (.tup [])) (h3:H a3=some (.tup [.int 0])) (h4:H a4=some (.lst [.int 0,.int 1])) (h5:H a5=some (.tup [.int 0])) (h6:H a6=some (.tup [.ref a5])) (h7:H a7=some (.tup [.int 7,.int 2])) :
  ∀ v∈zfo a1 a2 a3 a4 a6 a7 b,An3 H v:=by
 unfold zfo
 simp only [List.forall_mem_cons]
 have hi:∀ i:Int,An3 H (.int i):=fun i=>An3.flat (.int i) rfl
 have ht:∀ {a:Addr} {ns:List Int},H a=some (.tup (ns.map V.int))→ns.length≤1000→An3 H (.ref a):=fun h hl=>An3.tup h (by rw [List.length_map]; exact hl) fun x hx=>by
  obtain⟨i,_,rfl⟩:=List.mem_map.mp hx
  exact An2.int i
 refine⟨An3.flat .non rfl,An3.flat (.bl _) rfl,An3.flat (.bl _) rfl,hi _,hi _,hi _,hi _,hi _,hi _,hi _,hi _,hi _,hi _,hi _,hi _,An3.flat (.str _) rfl,An3.flat (.str _) rfl,An3.lst h1,ht (ns:=[]) h2 (by decide),ht (ns:=[0]) h3 (by decide),An3.lst h4,An3.tup h6 (by simp) fun x hx=>?_,ht (ns:=[7,2]) h7 (by decide),hi _,fun x hx=>by cases hx⟩
 have hx:=List.mem_singleton.mp hx
 subst hx
 exact An2.tup h5 (by decide) fun x hx=>by rw [List.mem_singleton.mp hx]; exact .int 0
end
end My
end
section
set_option maxHeartbeats 3999000
namespace My
open PySem L2 PyProof.Rows
def top (i:Nat):Stmt:=PySem.Challenge.pw_slipcurve_k01_what_is_a_code.main.body.getD i (.Pass ⟨0,0,0,0⟩)
abbrev zaY:Stmt:=top 5
abbrev zaH:Stmt:=top 6
abbrev zW:Stmt:=top 7
abbrev zai:Stmt:=top 8
abbrev zbe:Stmt:=top 9
abbrev zbM:Stmt:=top 11
abbrev zbf:Stmt:=top 12
abbrev zbg:Stmt:=top 13
abbrev za8:Stmt:=top 14
abbrev zch:Stmt:=top 15
abbrev zaZ:Stmt:=top 16
abbrev z9:Stmt:=top 17
abbrev zbN:Stmt:=top 18
structure Adr where
 is_whole:Addr
 is_number:Addr
 is_code_prime:Addr
 are_places:Addr
 is_code:Addr
 l_cell:Addr
 l_draws:Addr
 l_whole:Addr
 l_code:Addr
 l_any:Addr
 l_spoilt:Addr
 l_is_code:Addr
 law:Addr
structure Txt (K:PySem.W.Frag) (mg:Str→Option Value) (t:Adr):Prop where
 len_:mg "len" = none
 range_:mg "range" = none
 list_:mg "list" = none
 tuple_:mg "tuple" = none
 min_:mg "min" = none
 isinstance_:mg "isinstance" = none
 int_:mg "int" = none
 bool_:mg "bool" = none
 set_:mg "set" = none
 all_:mg "all" = none
 sorted_:mg "sorted" = none
 g_LEAST_P:∃ q,mg "LEAST_P" = some (.int 5 q)
 g_GREATEST_P:∃ q,mg "GREATEST_P" = some (.int 97 q)
 g_MOST_NUMBERS:∃ q,mg "MOST_NUMBERS" = some (.int 5 q)
 g_MOST_PLACES:∃ q,mg "MOST_PLACES" = some (.int 16 q)
 m_is_whole:mg "is_whole" = some (.ref t.is_whole)
 m_is_number:mg "is_number" = some (.ref t.is_number)
 m_is_code_prime:mg "is_code_prime" = some (.ref t.is_code_prime)
 m_are_places:mg "are_places" = some (.ref t.are_places)
 m_is_code:mg "is_code" = some (.ref t.is_code)
 m_l_cell:mg "_law_cell" = some (.ref t.l_cell)
 m_l_draws:mg "_law_draws" = some (.ref t.l_draws)
 m_l_whole:mg "_law_whole" = some (.ref t.l_whole)
 m_l_code:mg "_law_code" = some (.ref t.l_code)
 m_l_any:mg "_law_any" = some (.ref t.l_any)
 m_l_spoilt:mg "_law_spoilt" = some (.ref t.l_spoilt)
 m_l_is_code:mg "_law_is_code" = some (.ref t.l_is_code)
 f_is_whole:∃ fd,Fun K "is_whole" "is_whole" zaY t.is_whole fd∧Binds K fd ["thing"] []
 f_is_number:∃ fd,Fun K "is_number" "is_number" zaH t.is_number fd∧Binds K fd ["p","thing"] []
 f_is_code_prime:∃ fd,Fun K "is_code_prime" "is_code_prime" zW t.is_code_prime fd∧Binds K fd ["thing"] []
 f_are_places:∃ fd,Fun K "are_places" "are_places" zai t.are_places fd∧Binds K fd ["p","k","thing"] []
 f_is_code:∃ fd,Fun K "is_code" "is_code" zbe t.is_code fd∧Binds K fd ["thing"] []
 f_l_cell:∃ fd,Fun K "_law_cell" "_law_cell" zbM t.l_cell fd∧Binds K fd ["script","k"] []
 f_l_draws:∃ fd,Fun K "_law_draws" "_law_draws" zbf t.l_draws fd∧Binds K fd ["script","k","many","base"] []
 f_l_whole:∃ fd,Fun K "_law_whole" "_law_whole" zbg t.l_whole fd∧Binds K fd ["found"] []
 f_l_code:∃ fd,Fun K "_law_code" "_law_code" za8 t.l_code fd∧Binds K fd ["script","at","most_k","most_n"] []
 f_l_any:∃ fd,Fun K "_law_any" "_law_any" zch t.l_any fd∧Binds K fd ["draw"] []
 f_l_spoilt:∃ fd,Fun K "_law_spoilt" "_law_spoilt" zaZ t.l_spoilt fd∧Binds K fd ["code","row"] []
 f_l_is_code:∃ fd,Fun K "_law_is_code" "_law_is_code" z9 t.l_is_code fd∧Binds K fd ["thing"] []
section
variable {P:Program} {w:World} {K:PySem.W.Frag} {mg:Str→Option Value} {base:Heap} {t:Adr}
theorem zfp:FnScope ["script","k"] ["script","k"] (zj zbM):=⟨rfl,rfl,rfl,by decide +kernel,rfl,by decide +kernel,by decide +kernel⟩
theorem zfq {fd:FuncData} (T:Txt K mg t) (F:Fun K "_law_cell" "_law_cell" zbM t.l_cell fd):FnOk P w K mg base CX0 1 t.l_cell fd ["script","k"] (ze1 K):=by
 refine F.ok zfp (fun vs H Q E h=>?_) (fun cdv A outer s H vs Q E hr h=>?_)
 ·obtain⟨a,ns,k,rfl,_⟩:=h; rfl
 ·obtain⟨a,ns,k,rfl,hS,hlen,k0,k1,q⟩:=h
  refine⟨_,(@zf _ _ _ _ _ (@zan _ _ _ _ _ _ _ _ (@zV _ _ _ _ _ _ _ _ (@zbV _) (@L2.pv _ 1 _ _ (by rfl) (by first | exact Or.inl rfl | exact Or.inr (Or.inl rfl) | exact Or.inr (Or.inr rfl)) (by decide) (by decide)) (@zl _ _ _ _ _ _ _ _ _ (@zw _) (by rfl) T.len_ boot_len (@za _ _ _ _ _ (@L2.pv _ 0 _ _ (by rfl) (by first | exact Or.inl rfl | exact Or.inr (Or.inl rfl) | exact Or.inr (Or.inr rfl)) (by decide) (by decide)) (@zd _) (by rfl)) (by decide) (by decide) (by rfl) (by rfl)) (zX _)) (@zk _ _ _ (@zy _ _ _ _ (@zH _ _ _ _ _ _ _ (@zp _) (@L2.pv _ 0 _ _ (by rfl) (by first | exact Or.inl rfl | exact Or.inr (Or.inl rfl) | exact Or.inr (Or.inr rfl)) (by decide) (by decide)) (@L2.pv _ 1 _ _ (by rfl) (by first | exact Or.inl rfl | exact Or.inr (Or.inl rfl) | exact Or.inr (Or.inr rfl)) (by decide) (by decide)) (fun _ _=>rfl)))) (@zK _)) (by exact (@zf _ _ _ _ _ (@zan _ _ _ _ _ _ _ _ (@zV _ _ _ _ _ _ _ _ (@zfB _) (@zl _ _ _ _ _ _ _ _ _ (@zw _) (by rfl) T.len_ boot_len (@za _ _ _ _ _ (@L2.pv _ 0 _ _ (by rfl) (by first | exact Or.inl rfl | exact Or.inr (Or.inl rfl) | exact Or.inr (Or.inr rfl)) (by decide) (by decide)) (@zd _) (by rfl)) (by decide) (by decide) (by rfl) (by rfl)) (@zb _ _ _ _) (zX _)) (@zk _ _ _ (@zy _ _ _ _ (@zg _ _ _ _ _ _ _ _ (@zQ _) (@zg _ _ _ _ _ _ _ _ (@zag _) (@zb _ _ _ _) (@L2.pv _ 1 _ _ (by rfl) (by first | exact Or.inl rfl | exact Or.inr (Or.inl rfl) | exact Or.inr (Or.inr rfl)) (by decide) (by decide))) (@zb _ _ _ _)))) (@zK _)) (by exact (@zk _ _ _ (@zy _ _ _ _ (@zg _ _ _ _ _ _ _ _ (@zQ _) (@zg _ _ _ _ _ _ _ _ (@zE _) (@zH _ _ _ _ _ _ _ (@zp _) (@L2.pv _ 0 _ _ (by rfl) (by first | exact Or.inl rfl | exact Or.inr (Or.inl rfl) | exact Or.inr (Or.inr rfl)) (by decide) (by decide)) (@zg _ _ _ _ _ _ _ _ (@zE _) (@L2.pv _ 1 _ _ (by rfl) (by first | exact Or.inl rfl | exact Or.inr (Or.inl rfl) | exact Or.inr (Or.inr rfl)) (by decide) (by decide)) (@zl _ _ _ _ _ _ _ _ _ (@zw _) (by rfl) T.len_ boot_len (@za _ _ _ _ _ (@L2.pv _ 0 _ _ (by rfl) (by first | exact Or.inl rfl | exact Or.inr (Or.inl rfl) | exact Or.inr (Or.inr rfl)) (by decide) (by decide)) (@zd _) (by rfl)) (by decide) (by decide) (by rfl) (by rfl))) (fun _ _=>rfl)) (@zb _ _ _ _)) (@zg _ _ _ _ _ _ _ _ (@zag _) (@zb _ _ _ _) (@L2.pv _ 1 _ _ (by rfl) (by first | exact Or.inl rfl | exact Or.inr (Or.inl rfl) | exact Or.inr (Or.inr rfl)) (by decide) (by decide)))))))))),?_⟩
  refine⟨_,rfl,_,rfl,a,_,rfl,.inl hS,_,_,rfl,rfl,_,rfl,?_⟩; rw [List.length_map]
  refine zaR (fun h=>?_) (fun h=>?_)
  ·have h:k < (ns.length:Int):=by simpa using h
   obtain⟨c,hc⟩:=zaT k0 h
   exact⟨_,rfl,_,rfl,a,_,k,_,rfl,rfl,hS,hc,q c⟩
  ·have h:¬ k < (ns.length:Int):=by simpa using h
   refine⟨_,rfl,a,_,rfl,.inl hS,rfl,_,rfl,?_⟩
   rw [List.length_map]
   refine zaR (fun h2=>?_) (fun h2=>?_)
   ·exact⟨_,rfl,_,_,rfl,rfl,.inl ⟨by decide,by decide⟩,_,_,rfl,rfl,q _⟩
   ·have h2:¬ V.int (ns.length:Int)=V.int 0:=by simpa using h2
    have hpos:0 < (ns.length:Int):=by
     have:(ns.length:Int)≠0:=fun z=>h2 (by rw [z])
     omega
    have m0:=Int.emod_nonneg k (show (ns.length:Int)≠0 by omega)
    have m1:=Int.emod_lt_of_pos k hpos
    obtain⟨c,hc⟩:=zaT m0 m1
    refine⟨_,rfl,_,rfl,_,rfl,a,_,rfl,.inl hS,_,_,rfl,rfl,by rw [List.length_map]; exact hpos,a,_,_,_,rfl,rfl,hS,by rw [List.length_map]; exact hc,_,_,rfl,rfl,(by show (0:Int) < 1000003; decide),?_⟩
    exact⟨_,rfl,_,_,rfl,rfl,.inl ⟨by decide,by decide⟩,_,_,rfl,rfl,q _⟩
theorem zC:FnScope ["script","k","many","base","primes","cell","rest","row","j","mash"] ["script","k","many","base"] (zj zbf):=⟨rfl,rfl,rfl,by decide +kernel,rfl,by decide +kernel,by decide +kernel⟩
theorem zcx {fd:FuncData} (T:Txt K mg t) (F:Fun K "_law_draws" "_law_draws" zbf t.l_draws fd):FnOk P w K mg base CX0 2 t.l_draws fd ["script","k","many","base"] (zd8 K):=by
 obtain⟨fd_l_cell,F_l_cell,b_l_cell⟩:=T.f_l_cell
 have G_l_cell:=zfq (P:=P) (w:=w) (base:=base) T F_l_cell
 refine F.ok zC (fun vs H Q E h=>?_) (fun cdv A outer s H vs Q E hr h=>?_)
 ·obtain⟨a,ns,k,many,base,rfl,_⟩:=h
  rfl
 ·obtain⟨a,ns,k,many,bs,rfl,hS,hlen,k0,k1,m0,m1,b0,b1,q⟩:=h
  refine⟨_,(@zf _ _ _ _ _ (@zA _ _ (4) _ _ _ _ zC.nd rfl (Or.inl rfl) (@zN _ _ _ _ _ (@zao _ _ _ _ _ _ (by exact (@zao _ _ _ _ _ _ (by exact (@zao _ _ _ _ _ _ (by exact (@zao _ _ _ _ _ _ (by exact (@zao _ _ _ _ _ _ (by exact (@za _ _ _ _ _ (@zb _ _ _ _) (@za _ _ _ _ _ (@zb _ _ _ _) (@za _ _ _ _ _ (@zb _ _ _ _) (@zd _) (by rfl)) (by rfl)) (by rfl))))))))))))) (by rfl) (by trivial)) (by exact (@zf _ _ _ _ _ (@zA _ _ (5) _ _ _ _ zC.nd rfl (Or.inl rfl) (@zD _ _ _ _ _ _ _ _ _ _ _ _ _ _ _ _ G_l_cell (hr.mono (by decide)) rfl T.m_l_cell F_l_cell.kp b_l_cell .nil (@zae _) (@za _ _ _ _ _ (@L2.pv _ 0 _ _ (by rfl) (by first | exact Or.inl rfl | exact Or.inr (Or.inl rfl) | exact Or.inr (Or.inr rfl)) (by decide) (by decide)) (@za _ _ _ _ _ (@L2.pv _ 1 _ _ (by rfl) (by first | exact Or.inl rfl | exact Or.inr (Or.inl rfl) | exact Or.inr (Or.inr rfl)) (by decide) (by decide)) (@zd _) (by rfl)) (by rfl)) (by decide) (by rfl) (by rfl)) (by rfl) (by trivial)) (by exact (@zf _ _ _ _ _ (@zA _ _ (6) _ _ _ _ zC.nd rfl (Or.inl rfl) (@zb _ _ _ _) (by rfl) (by trivial)) (by exact (@zf _ _ _ _ _ (@zan _ _ _ _ _ _ _ _ (@zV _ _ _ _ _ _ _ _ (@zhE _) (@L2.pv _ 5 _ _ (by rfl) (by first | exact Or.inl rfl | exact Or.inr (Or.inl rfl) | exact Or.inr (Or.inr rfl)) (by decide) (by decide)) (@zg _ _ _ _ _ _ _ _ (@zfz _) (@zb _ _ _ _) (@zb _ _ _ _)) (zX _)) (@zk _ _ _ (@zA _ _ (6) _ _ _ _ zC.nd rfl (Or.inl rfl) (@L2.pv _ 5 _ _ (by rfl) (by first | exact Or.inl rfl | exact Or.inr (Or.inl rfl) | exact Or.inr (Or.inr rfl)) (by decide) (by decide)) (by rfl) (by trivial))) (@zK _)) (by exact (@zf _ _ _ _ _ (@zA _ _ (7) _ _ _ _ zC.nd rfl (Or.inl rfl) (@zY _ _ _ _ (@zd _)) (by rfl) (by trivial)) (by exact (@zf _ _ _ _ _ (@zdZ _ _ _ _ _ _ _ _ PassesOwn.never rfl (@zbO _ _ _ _ _ _ rfl T.range_ (@za _ _ _ _ _ (@L2.pv _ 2 _ _ (by rfl) (by first | exact Or.inl rfl | exact Or.inr (Or.inl rfl) | exact Or.inr (Or.inr rfl)) (by decide) (by decide)) (@zd _) (by rfl)) (by rfl)) (@zL _ _ (8) _ zC.nd rfl (Or.inl rfl) (by trivial)) (@zf _ _ _ _ _ (@zA _ _ (9) _ _ _ _ zC.nd rfl (Or.inl rfl) (@zg _ _ _ _ _ _ _ _ (@zag _) (@zg _ _ _ _ _ _ _ _ (@zE _) (@L2.pv _ 5 _ _ (by rfl) (by first | exact Or.inl rfl | exact Or.inr (Or.inl rfl) | exact Or.inr (Or.inr rfl)) (by decide) (by decide)) (@zH _ _ _ _ _ _ _ (@zbP _) (@L2.pv _ 4 _ _ (by rfl) (by first | exact Or.inl rfl | exact Or.inr (Or.inl rfl) | exact Or.inr (Or.inr rfl)) (by decide) (by decide)) (@zg _ _ _ _ _ _ _ _ (@zE _) (@L2.pv _ 8 _ _ (by rfl) (by first | exact Or.inl rfl | exact Or.inr (Or.inl rfl) | exact Or.inr (Or.inr rfl)) (by decide) (by decide)) (@zb _ _ _ _)) (fun _ _=>rfl))) (@zg _ _ _ _ _ _ _ _ (@zQ _) (@zb _ _ _ _) (@zg _ _ _ _ _ _ _ _ (@zag _) (@zg _ _ _ _ _ _ _ _ (@zag _) (@zb _ _ _ _) (@L2.pv _ 8 _ _ (by rfl) (by first | exact Or.inl rfl | exact Or.inr (Or.inl rfl) | exact Or.inr (Or.inr rfl)) (by decide) (by decide))) (@L2.pv _ 8 _ _ (by rfl) (by first | exact Or.inl rfl | exact Or.inr (Or.inl rfl) | exact Or.inr (Or.inr rfl)) (by decide) (by decide))))) (by rfl) (by trivial)) (by exact (@zf _ _ _ _ _ (@zA _ _ (9) _ _ _ _ zC.nd rfl (Or.inl rfl) (@zg _ _ _ _ _ _ _ _ (@zQ _) (@zg _ _ _ _ _ _ _ _ (@zQ _) (@L2.pv _ 9 _ _ (by rfl) (by first | exact Or.inl rfl | exact Or.inr (Or.inl rfl) | exact Or.inr (Or.inr rfl)) (by decide) (by decide)) (@zg _ _ _ _ _ _ _ _ (@zag _) (@zg _ _ _ _ _ _ _ _ (@zag _) (@zb _ _ _ _) (@zg _ _ _ _ _ _ _ _ (@zQ _) (@L2.pv _ 8 _ _ (by rfl) (by first | exact Or.inl rfl | exact Or.inr (Or.inl rfl) | exact Or.inr (Or.inr rfl)) (by decide) (by decide)) (@zb _ _ _ _))) (@zg _ _ _ _ _ _ _ _ (@zQ _) (@L2.pv _ 8 _ _ (by rfl) (by first | exact Or.inl rfl | exact Or.inr (Or.inl rfl) | exact Or.inr (Or.inr rfl)) (by decide) (by decide)) (@zb _ _ _ _)))) (@zg _ _ _ _ _ _ _ _ (@zag _) (@zb _ _ _ _) (@L2.pv _ 1 _ _ (by rfl) (by first | exact Or.inl rfl | exact Or.inr (Or.inl rfl) | exact Or.inr (Or.inr rfl)) (by decide) (by decide)))) (by rfl) (by trivial)) (by exact (@zf _ _ _ _ _ (@zA _ _ (9) _ _ _ _ zC.nd rfl (Or.inl rfl) (@zg _ _ _ _ _ _ _ _ (@zE _) (@L2.pv _ 9 _ _ (by rfl) (by first | exact Or.inl rfl | exact Or.inr (Or.inl rfl) | exact Or.inr (Or.inr rfl)) (by decide) (by decide)) (@zH _ _ _ _ _ _ _ (@zbP _) (@L2.pv _ 4 _ _ (by rfl) (by first | exact Or.inl rfl | exact Or.inr (Or.inl rfl) | exact Or.inr (Or.inr rfl)) (by decide) (by decide)) (@zg _ _ _ _ _ _ _ _ (@zE _) (@zg _ _ _ _ _ _ _ _ (@zQ _) (@zg _ _ _ _ _ _ _ _ (@zag _) (@zb _ _ _ _) (@L2.pv _ 8 _ _ (by rfl) (by first | exact Or.inl rfl | exact Or.inr (Or.inl rfl) | exact Or.inr (Or.inr rfl)) (by decide) (by decide))) (@L2.pv _ 1 _ _ (by rfl) (by first | exact Or.inl rfl | exact Or.inr (Or.inl rfl) | exact Or.inr (Or.inr rfl)) (by decide) (by decide))) (@zb _ _ _ _)) (fun _ _=>rfl))) (by rfl) (by trivial)) (by exact (@zf _ _ _ _ _ (@zA _ _ (9) _ _ _ _ zC.nd rfl (Or.inl rfl) (@zg _ _ _ _ _ _ _ _ (@zE _) (@zg _ _ _ _ _ _ _ _ (@zag _) (@zg _ _ _ _ _ _ _ _ (@zag _) (@L2.pv _ 9 _ _ (by rfl) (by first | exact Or.inl rfl | exact Or.inr (Or.inl rfl) | exact Or.inr (Or.inr rfl)) (by decide) (by decide)) (@L2.pv _ 9 _ _ (by rfl) (by first | exact Or.inl rfl | exact Or.inr (Or.inl rfl) | exact Or.inr (Or.inr rfl)) (by decide) (by decide))) (@L2.pv _ 9 _ _ (by rfl) (by first | exact Or.inl rfl | exact Or.inr (Or.inl rfl) | exact Or.inr (Or.inr rfl)) (by decide) (by decide))) (@zH _ _ _ _ _ _ _ (@zbP _) (@L2.pv _ 4 _ _ (by rfl) (by first | exact Or.inl rfl | exact Or.inr (Or.inl rfl) | exact Or.inr (Or.inr rfl)) (by decide) (by decide)) (@zg _ _ _ _ _ _ _ _ (@zE _) (@zg _ _ _ _ _ _ _ _ (@zQ _) (@L2.pv _ 8 _ _ (by rfl) (by first | exact Or.inl rfl | exact Or.inr (Or.inl rfl) | exact Or.inr (Or.inr rfl)) (by decide) (by decide)) (@zb _ _ _ _)) (@zb _ _ _ _)) (fun _ _=>rfl))) (by rfl) (by trivial)) (by exact (@zf _ _ _ _ _ (@zan _ _ _ _ _ _ _ _ (@zV _ _ _ _ _ _ _ _ (@zhD _) (@L2.pv _ 6 _ _ (by rfl) (by first | exact Or.inl rfl | exact Or.inr (Or.inl rfl) | exact Or.inr (Or.inr rfl)) (by decide) (by decide)) (@zb _ _ _ _) (zX _)) (@zk _ _ _ (@zA _ _ (9) _ _ _ _ zC.nd rfl (Or.inl rfl) (@L2.pv _ 6 _ _ (by rfl) (by first | exact Or.inl rfl | exact Or.inr (Or.inl rfl) | exact Or.inr (Or.inr rfl)) (by decide) (by decide)) (by rfl) (by trivial))) (@zK _)) (by exact (@zf _ _ _ _ _ (@zgh _ _ _ _ (@zgQ _ _ _ _ _ _ _ _ _ _ _ _ PySem.F.plainAttrs_list PySem.F.slot_list_append PySem.F.type_list_append (@zeV _) (@L2.pv _ 7 _ _ (by rfl) (by first | exact Or.inl rfl | exact Or.inr (Or.inl rfl) | exact Or.inr (Or.inr rfl)) (by decide) (by decide)) (@za _ _ _ _ _ (@zg _ _ _ _ _ _ _ _ (@zE _) (@L2.pv _ 9 _ _ (by rfl) (by first | exact Or.inl rfl | exact Or.inr (Or.inl rfl) | exact Or.inr (Or.inr rfl)) (by decide) (by decide)) (@L2.pv _ 3 _ _ (by rfl) (by first | exact Or.inl rfl | exact Or.inr (Or.inl rfl) | exact Or.inr (Or.inr rfl)) (by decide) (by decide))) (@zd _) (by rfl)) (by rfl) (by rfl) (by rfl) (by rfl) (by rfl)) (by rfl)) (by exact (@zk _ _ _ (@zA _ _ (6) _ _ _ _ zC.nd rfl (Or.inl rfl) (@zg _ _ _ _ _ _ _ _ (@zgl _) (@L2.pv _ 6 _ _ (by rfl) (by first | exact Or.inl rfl | exact Or.inr (Or.inl rfl) | exact Or.inr (Or.inr rfl)) (by decide) (by decide)) (@L2.pv _ 3 _ _ (by rfl) (by first | exact Or.inl rfl | exact Or.inr (Or.inl rfl) | exact Or.inr (Or.inr rfl)) (by decide) (by decide))) (by rfl) (by trivial))))))))))))))) (by intro _; rfl)) (by exact (@zk _ _ _ (@zy _ _ _ _ (@L2.pv _ 7 _ _ (by rfl) (by first | exact Or.inl rfl | exact Or.inr (Or.inl rfl) | exact Or.inr (Or.inr rfl)) (by decide) (by decide)))))))))))))))),?_⟩
  refine⟨by show 8≤sizeLine; rw [sizeLine_eq]; decide,fun tp ht=>?_⟩
  have s1:zR H (upd H tp (.tup zgy)):=ze ht
  refine⟨_,rfl,_,rfl,a,ns,k,rfl,s1.seq hS,hlen,k0,k1,fun c=>?_⟩
  refine⟨_,rfl,_,_,rfl,rfl,⟨by decide,by decide,by decide⟩,_,_,rfl,rfl,_,rfl,?_⟩
  refine zaR (fun _=>⟨_,rfl,?_⟩) (fun _=>?_)
  all_goals
   refine⟨Nat.zero_le _,fun l hl=>?_⟩
   have hln:H l=none:=zR.free s1 hl
   have htl:tp≠l:=zv zc hl
   refine⟨_,rfl,many,rfl,by omega,by omega,zcM (lo:=0) (n:=many.toNat) (fun i σ H'=>∃ (r:Int) (v8 v9:Option V) (ds:List Int),σ = [some (.ref a),some (.int k),some (.int many),some (.int bs),some (.ref tp),some (.int c),some (.int r),some (.ref l),v8,v9]∧zex i bs ds∧zR H H'∧H' tp=some (.tup zgy)∧H' l=some (.lst (ds.map V.int)))
    ⟨_,none,none,[],rfl,⟨rfl,by simp⟩,zbQ s1 hln,by rw [zm htl]; exact zc,zc⟩ ?_ ?_⟩
   ·rintro i σ H2 hi ⟨r,v8,v9,ds,rfl,hd,s2,htp,hrow⟩
    obtain⟨q1,e1,q1p,q1l⟩:=zcn (0+(i:Int))
    obtain⟨q2,e2,q2p,q2l⟩:=zcn (3*(0+(i:Int))+k)
    obtain⟨q3,e3,q3p,q3l⟩:=zcn (0+(i:Int)+5)
    have c1:=Int.emod_nonneg c (show q1≠0 by omega)
    have c2:=Int.emod_lt_of_pos c q1p
    have hi':(i:Int) < 1000:=by omega
    refine⟨_,rfl,_,rfl,_,rfl,_,_,rfl,rfl,(by show (0:Int) < 8; decide),tp,_,_,_,rfl,rfl,SqT.of htp,e1,_,_,rfl,rfl,q1p,_,rfl,_,_,rfl,rfl,.inl ⟨by decide,by decide⟩,_,rfl,_,_,rfl,rfl,.inl ⟨by omega,by omega⟩,_,_,rfl,rfl,_,_,rfl,rfl,.inl ⟨by omega,by omega⟩,?_⟩
    refine⟨_,rfl,_,rfl,_,_,rfl,rfl,_,_,rfl,rfl,.inl ⟨by decide,by decide⟩,_,rfl,_,_,rfl,rfl,_,_,rfl,rfl,.inl ⟨by omega,by omega⟩,_,_,rfl,rfl,_,rfl,_,_,rfl,rfl,.inl ⟨by decide,by decide⟩,_,_,rfl,rfl,?_⟩
    refine⟨_,rfl,_,rfl,_,rfl,_,_,rfl,rfl,.inl ⟨by decide,by decide⟩,_,rfl,_,_,rfl,rfl,_,_,rfl,rfl,(by show (0:Int) < 8; decide),tp,_,_,_,rfl,rfl,SqT.of htp,e2,_,_,rfl,rfl,q2p,?_⟩
    generalize c % q1*(48271+2*(0+(i:Int))*(0+(i:Int)))+7919*(0+(i:Int)+1)*(0+(i:Int)+1)+104729*k=ms
    have d1:=Int.emod_nonneg ms (show q2≠0 by omega)
    have d2:=Int.emod_lt_of_pos ms q2p
    refine⟨_,rfl,_,rfl,_,_,rfl,rfl,.inl ⟨by omega,by omega⟩,_,rfl,_,_,rfl,rfl,.inr ⟨by omega,by omega⟩,_,rfl,_,rfl,_,_,rfl,rfl,_,_,rfl,rfl,(by show (0:Int) < 8; decide),tp,_,_,_,rfl,rfl,SqT.of htp,e3,_,_,rfl,rfl,q3p,?_⟩
    refine⟨_,rfl,_,_,rfl,rfl,_,rfl,?_⟩
    have hdl:=hd.1
    refine zaR (fun _=>⟨_,rfl,?_⟩) (fun _=>?_)
    all_goals
     refine⟨_,rfl,.inl ⟨rfl,_,SqL.of hrow⟩,_,rfl,_,rfl,_,_,rfl,rfl,b0,l,_,_,rfl,rfl,hrow,zaU (by rw [List.length_map]; omega),?_⟩
     refine⟨_,rfl,_,rfl,_,_,rfl,rfl,⟨b0,b1⟩,?_⟩
     refine⟨_,_,_,ds++[_],rfl,⟨by rw [List.length_append,hdl]; rfl,fun d hm=>?_⟩,zbQ s2 hln,by rw [zm htl]; exact htp,by rw [zc,List.map_append]; rfl⟩; rcases List.mem_append.mp hm with hm | hm
     ·exact hd.2 d hm
     ·have e:=List.mem_singleton.mp hm
      rw [e]
      exact⟨Int.emod_nonneg _ (by omega),Int.emod_lt_of_pos _ b0⟩
   ·rintro σ H2 ⟨r,v8,v9,ds,rfl,hd,s2,htp,hrow⟩
    exact⟨_,rfl,q l ds H2 hln s2 hd hrow⟩
theorem zam:FnScope ["script","at","most_k","most_n","plan","primes","p","k","many","left"] ["script","at","most_k","most_n"] (zj za8):=⟨rfl,rfl,rfl,by decide +kernel,rfl,by decide +kernel,by decide +kernel⟩
theorem zfr {fd:FuncData} (T:Txt K mg t) (F:Fun K "_law_code" "_law_code" za8 t.l_code fd):FnOk P w K mg base CX0 3 t.l_code fd ["script","at","most_k","most_n"] (ze2 K):=by
 obtain⟨fd_l_draws,F_l_draws,b_l_draws⟩:=T.f_l_draws
 have G_l_draws:=zcx (P:=P) (w:=w) (base:=base) T F_l_draws
 refine F.ok zam (fun vs H Q E h=>?_) (fun cdv A outer s H vs Q E hr h=>?_)
 ·obtain⟨a,ns,at',mk,mn,rfl,_⟩:=h
  rfl
 ·obtain⟨a,ns,at',mk,mn,rfl,hS,hlen,a0,a1,k1,k5,kn,n16,q⟩:=h
  refine⟨_,(@zf _ _ _ _ _ (@zA _ _ (4) _ _ _ _ zam.nd rfl (Or.inr rfl) (@zD _ _ _ _ _ _ _ _ _ _ _ _ _ _ _ _ G_l_draws (hr.mono (by decide)) rfl T.m_l_draws F_l_draws.kp b_l_draws .nil (@zae _) (@za _ _ _ _ _ (@L2.pv _ 0 _ _ (by rfl) (by first | exact Or.inl rfl | exact Or.inr (Or.inl rfl) | exact Or.inr (Or.inr rfl)) (by decide) (by decide)) (by exact (@za _ _ _ _ _ (@L2.pv _ 1 _ _ (by rfl) (by first | exact Or.inl rfl | exact Or.inr (Or.inl rfl) | exact Or.inr (Or.inr rfl)) (by decide) (by decide)) (@za _ _ _ _ _ (@zb _ _ _ _) (@za _ _ _ _ _ (@zb _ _ _ _) (@zd _) (by rfl)) (by rfl)) (by rfl))) (by rfl)) (by decide) (by rfl) (by rfl)) (by rfl) (by trivial)) (by exact (by exact (@zfO _ 5 _ _ _ _ _ _ _ [5,7,11,13,17,19,23,29,31,37,41,43,47,53,59,61,67,71,73,79,83,89,97] (by decide +kernel) zam.nd rfl (Or.inl rfl) (by first | exact .inl rfl | exact .inr rfl) (by exact (@zf _ _ _ _ _ (@zA _ _ (6) _ _ _ _ zam.nd rfl (Or.inl rfl) (@zH _ _ _ _ _ _ _ (@zp _) (@zY _ _ _ _ (@za _ _ _ _ _ (@zH _ _ _ _ _ _ _ (@zp _) (@L2.pv _ 5 _ _ (by rfl) (by first | exact Or.inl rfl | exact Or.inr (Or.inl rfl) | exact Or.inr (Or.inr rfl)) (by decide) (by decide)) (@zg _ _ _ _ _ _ _ _ (@zE _) (@zH _ _ _ _ _ _ _ (@zp _) (@L2.pv _ 4 _ _ (by rfl) (by first | exact Or.inl rfl | exact Or.inr (Or.inl rfl) | exact Or.inr (Or.inr rfl)) (by decide) (by decide)) (@zb _ _ _ _) (fun _ _=>rfl)) (@zb _ _ _ _)) (fun _ _=>rfl)) (@za _ _ _ _ _ (@zH _ _ _ _ _ _ _ (@zp _) (@L2.pv _ 5 _ _ (by rfl) (by first | exact Or.inl rfl | exact Or.inr (Or.inl rfl) | exact Or.inr (Or.inr rfl)) (by decide) (by decide)) (@zg _ _ _ _ _ _ _ _ (@zE _) (@zH _ _ _ _ _ _ _ (@zp _) (@L2.pv _ 4 _ _ (by rfl) (by first | exact Or.inl rfl | exact Or.inr (Or.inl rfl) | exact Or.inr (Or.inr rfl)) (by decide) (by decide)) (@zb _ _ _ _) (fun _ _=>rfl)) (@zb _ _ _ _)) (fun _ _=>rfl)) (@zd _) (by rfl)) (by rfl))) (@zg _ _ _ _ _ _ _ _ (@zE _) (@zH _ _ _ _ _ _ _ (@zp _) (@L2.pv _ 4 _ _ (by rfl) (by first | exact Or.inl rfl | exact Or.inr (Or.inl rfl) | exact Or.inr (Or.inr rfl)) (by decide) (by decide)) (@zb _ _ _ _) (fun _ _=>rfl)) (@zb _ _ _ _)) (fun _ _=>rfl)) (by rfl) (by trivial)) (by exact (@zf _ _ _ _ _ (@zA _ _ (7) _ _ _ _ zam.nd rfl (Or.inl rfl) (@zg _ _ _ _ _ _ _ _ (@zQ _) (@zb _ _ _ _) (@zg _ _ _ _ _ _ _ _ (@zE _) (@zH _ _ _ _ _ _ _ (@zp _) (@L2.pv _ 4 _ _ (by rfl) (by first | exact Or.inl rfl | exact Or.inr (Or.inl rfl) | exact Or.inr (Or.inr rfl)) (by decide) (by decide)) (@zb _ _ _ _) (fun _ _=>rfl)) (@zl _ _ _ _ _ _ _ _ _ (@zcN _ rfl) (by rfl) T.min_ boot_min (@za _ _ _ _ _ (@L2.pv _ 2 _ _ (by rfl) (by first | exact Or.inl rfl | exact Or.inr (Or.inl rfl) | exact Or.inr (Or.inr rfl)) (by decide) (by decide)) (@za _ _ _ _ _ (@L2.pv _ 6 _ _ (by rfl) (by first | exact Or.inl rfl | exact Or.inr (Or.inl rfl) | exact Or.inr (Or.inr rfl)) (by decide) (by decide)) (@zd _) (by rfl)) (by rfl)) (by decide) (by decide) (by rfl) (by rfl)))) (by rfl) (by trivial)) (by exact (@zf _ _ _ _ _ (@zA _ _ (8) _ _ _ _ zam.nd rfl (Or.inl rfl) (@zg _ _ _ _ _ _ _ _ (@zQ _) (@L2.pv _ 7 _ _ (by rfl) (by first | exact Or.inl rfl | exact Or.inr (Or.inl rfl) | exact Or.inr (Or.inr rfl)) (by decide) (by decide)) (@zg _ _ _ _ _ _ _ _ (@zE _) (@zH _ _ _ _ _ _ _ (@zp _) (@L2.pv _ 4 _ _ (by rfl) (by first | exact Or.inl rfl | exact Or.inr (Or.inl rfl) | exact Or.inr (Or.inr rfl)) (by decide) (by decide)) (@zb _ _ _ _) (fun _ _=>rfl)) (@zg _ _ _ _ _ _ _ _ (@zQ _) (@zg _ _ _ _ _ _ _ _ (@zd0 _) (@zl _ _ _ _ _ _ _ _ _ (@zcN _ rfl) (by rfl) T.min_ boot_min (@za _ _ _ _ _ (@L2.pv _ 3 _ _ (by rfl) (by first | exact Or.inl rfl | exact Or.inr (Or.inl rfl) | exact Or.inr (Or.inr rfl)) (by decide) (by decide)) (@za _ _ _ _ _ (@L2.pv _ 6 _ _ (by rfl) (by first | exact Or.inl rfl | exact Or.inr (Or.inl rfl) | exact Or.inr (Or.inr rfl)) (by decide) (by decide)) (@zd _) (by rfl)) (by rfl)) (by decide) (by decide) (by rfl) (by rfl)) (@L2.pv _ 7 _ _ (by rfl) (by first | exact Or.inl rfl | exact Or.inr (Or.inl rfl) | exact Or.inr (Or.inr rfl)) (by decide) (by decide))) (@zb _ _ _ _)))) (by rfl) (by trivial)) (by exact (@zf _ _ _ _ _ (@zA _ _ (9) _ _ _ _ zam.nd rfl (Or.inr rfl) (@zak _ _ _ _ _ _ _ _ _ (@zcC _ rfl) (by rfl) T.list_ boot_list (@za _ _ _ _ _ (@zak _ _ _ _ _ _ _ _ _ (@zbX _) (by rfl) T.range_ boot_range (@za _ _ _ _ _ (@L2.pv _ 6 _ _ (by rfl) (by first | exact Or.inl rfl | exact Or.inr (Or.inl rfl) | exact Or.inr (Or.inr rfl)) (by decide) (by decide)) (@zd _) (by rfl)) (by decide) (by decide) (by rfl) (by rfl)) (@zd _) (by rfl)) (by decide) (by decide) (by rfl) (by rfl)) (by rfl) (by trivial)) (by exact (@zk _ _ _ (@zy _ _ _ _ (@zN _ _ _ _ _ (@za _ _ _ _ _ (@L2.pv _ 6 _ _ (by rfl) (by first | exact Or.inl rfl | exact Or.inr (Or.inl rfl) | exact Or.inr (Or.inr rfl)) (by decide) (by decide)) (@za _ _ _ _ _ (@L2.pv _ 7 _ _ (by rfl) (by first | exact Or.inl rfl | exact Or.inr (Or.inl rfl) | exact Or.inr (Or.inr rfl)) (by decide) (by decide)) (@za _ _ _ _ _ (@zak _ _ _ _ _ _ _ _ _ (@zcz _) (by rfl) T.tuple_ boot_tuple (@za _ _ _ _ _ (@zbx _ _ _ _ _ _ _ _ _ _ _ _ _ (CompSc.of (N':=["j","left","plan"]) (ix:=[none,some 9,some 4]) (zj za8) ["script","at","most_k","most_n","plan","primes","p","k","many","left"] rfl rfl (by decide +kernel)) rfl (@zbw _ _ rfl) (@zbO _ _ _ _ _ _ rfl T.range_ (@za _ _ _ _ _ (@L2.pv _ 8 _ _ (by rfl) (by first | exact Or.inl rfl | exact Or.inr (Or.inl rfl) | exact Or.inr (Or.inr rfl)) (by decide) (by decide)) (@zd _) (by rfl)) (by rfl)) (fun _ _ _ _=>(@zL _ _ (0) _ (show (["j","left","plan"]:List Str).Nodup by decide +kernel) rfl (Or.inl rfl) (by trivial))) (fun _ _ _ _=>(@zck _)) (fun _ _ _ _=>(@zhe _ (K) _ _ _ _ _ _ _ _ _ _ _ rfl PySem.F.plainAttrs_list PySem.F.slot_list_pop PySem.F.type_list_pop (@zfF _) (@L2.pv _ 1 _ _ (by rfl) (by first | exact Or.inl rfl | exact Or.inr (Or.inl rfl) | exact Or.inr (Or.inr rfl)) (by decide) (by decide)) (@za _ _ _ _ _ (@zg _ _ _ _ _ _ _ _ (@zE _) (@zH _ _ _ _ _ _ _ (@zfP _ (K) rfl) (@L2.pv _ 2 _ _ (by rfl) (by first | exact Or.inl rfl | exact Or.inr (Or.inl rfl) | exact Or.inr (Or.inr rfl)) (by decide) (by decide)) (@zg _ _ _ _ _ _ _ _ (@zQ _) (@zb _ _ _ _) (@L2.pv _ 0 _ _ (by rfl) (by first | exact Or.inl rfl | exact Or.inr (Or.inl rfl) | exact Or.inr (Or.inr rfl)) (by decide) (by decide))) (fun _ _=>rfl)) (@zl _ _ _ _ _ _ _ _ _ (@zcD _ (K) rfl) (by rfl) T.len_ boot_len (@za _ _ _ _ _ (@L2.pv _ 1 _ _ (by rfl) (by first | exact Or.inl rfl | exact Or.inr (Or.inl rfl) | exact Or.inr (Or.inr rfl)) (by decide) (by decide)) (@zd _) (by rfl)) (by decide) (by decide) (by rfl) (by rfl))) (@zd _) (by rfl)) (by rfl) (by rfl) (by rfl) (by rfl) (by rfl))) (by intro _; rfl)) (@zd _) (by rfl)) (by decide) (by decide) (by rfl) (by rfl)) (@zd _) (by rfl)) (by rfl)) (by rfl)))))))))))))))))),?_⟩
  refine⟨_,rfl,_,rfl,a,ns,at',20,27720,rfl,hS,hlen,a0,a1,by decide,by decide,by decide,by decide,fun l ds H1 hl s1 hd hpl=>?_⟩
  have hdl:ds.length=20:=hd.1
  have dat:∀ m:Int,0≤m→m < 20→∃ c:Int,atI (ds.map V.int) m=some (.int c):=fun m h0 h1=>zaT h0 (by omega)
  refine⟨by show 23≤sizeLine; rw [sizeLine_eq]; decide,fun pr hpr=>?_⟩
  have hlpr:l≠pr:=zv hpl hpr
  obtain⟨d0,ed0⟩:=dat 0 (by decide) (by decide)
  obtain⟨d1,ed1⟩:=dat 1 (by decide) (by decide)
  obtain⟨d2,ed2⟩:=dat 2 (by decide) (by decide)
  obtain⟨d3,ed3⟩:=dat 3 (by decide) (by decide)
  have hp2:(upd H1 pr (.lst (zr.map V.int))) l=some (.lst (ds.map V.int)):=by rw [zm hlpr]; exact hpl
  obtain⟨p1,mp1,ep1⟩:=zdc (ns:=zr) (k:=d0 % 23) (Int.emod_nonneg _ (by decide)) (Int.emod_lt_of_pos _ (by decide))
  obtain⟨p2,mp2,ep2⟩:=zdc (ns:=zr) (k:=d0 % 3) (Int.emod_nonneg _ (by decide)) (by have:=Int.emod_lt_of_pos d0 (show (0:Int) < 3 by decide); have e:(zr.length:Int)=23:=rfl; omega)
  obtain⟨p,ep,hpp⟩:=zhf (x:=p1) (y:=p2) (m:=d1 % 2) (Int.emod_nonneg _ (by decide)) (Int.emod_lt_of_pos _ (by decide))
  have mp:p∈zr:=by rcases hpp with e | e <;> rw [e] <;> assumption
  have rp:=zaA mp
  refine⟨_,rfl,_,rfl,l,_,_,_,rfl,rfl,SqL.of hp2,ed0,_,_,rfl,rfl,(by show (0:Int) < 23; decide),pr,_,_,_,rfl,rfl,SqL.of zc,ep1,
   _,rfl,_,rfl,l,_,_,_,rfl,rfl,SqL.of hp2,ed0,_,_,rfl,rfl,(by show (0:Int) < 3; decide),pr,_,_,_,rfl,rfl,SqL.of zc,ep2,zdz,fun l2 hl2=>?_⟩
  have hll2:l≠l2:=zv hp2 hl2
  have hp3:(upd (upd H1 pr (.lst (zr.map V.int))) l2 (.lst [.int p1,.int p2])) l=some (.lst (ds.map V.int)):=by rw [zm hll2]; exact hp2
  refine⟨_,rfl,l,_,_,_,rfl,rfl,SqL.of hp3,ed1,_,_,rfl,rfl,(by show (0:Int) < 2; decide),l2,_,_,_,rfl,rfl,SqL.of zc,ep,?_⟩
  have hm1:(0:Int) < (if p < mk then p else mk):=by split <;> omega
  have hm2:(if p < mk then p else mk)≤mk:=by split <;> omega
  have hm3:(if p < mk then p else mk)≤p:=by split <;> omega
  refine⟨_,rfl,l,_,_,_,rfl,rfl,SqL.of hp3,ed2,_,rfl,_,rfl,_,_,rfl,_,_,rfl,rfl,hm1,_,_,rfl,rfl,?_⟩
  generalize (if p < mk then p else mk)=mm at hm1 hm2 hm3 ⊢
  have hk0:=Int.emod_nonneg d2 (show mm≠0 by omega)
  have hk1:=Int.emod_lt_of_pos d2 hm1
  have hn1:(if p < mn then p else mn)≤mn:=by split <;> omega
  have hn2:(if p < mn then p else mn)≤p:=by split <;> omega
  have hn3:mm≤(if p < mn then p else mn):=by split <;> omega
  refine⟨_,rfl,_,rfl,l,_,_,_,rfl,rfl,SqL.of hp3,ed3,_,rfl,_,rfl,_,_,rfl,_,rfl,_,_,rfl,rfl,_,_,rfl,rfl,_,_,rfl,rfl,(by omega),_,_,rfl,rfl,?_⟩
  generalize (if p < mn then p else mn)=nn at hn1 hn2 hn3 ⊢
  have hq0:=Int.emod_nonneg d3 (show nn - (1+d2 % mm)+1≠0 by omega)
  have hq1:=Int.emod_lt_of_pos d3 (show 0 < nn - (1+d2 % mm)+1 by omega)
  refine⟨_,rfl,p,rfl,fun r hr2=>⟨r,p,rfl,zc,by omega,by omega,fun lf hlf=>?_⟩⟩
  have hlr:l≠r:=zv hp3 hr2
  have hlf1:l≠lf:=by
   refine zv (H:=upd (upd (upd H1 pr (.lst (zr.map V.int))) l2 (.lst [.int p1,.int p2])) r (.rng 0 p)) (o:=.lst (ds.map V.int)) ?_ hlf
   rw [zm hlr]; exact hp3
  have sA:zR H (upd (upd H1 pr (.lst (zr.map V.int))) l2 (.lst [.int p1,.int p2])):=(s1.trans (ze hpr)).trans (ze hl2)
  have sB:=(sA.trans (ze (o:=.rng 0 p) hr2)).trans (ze (o:=.lst ((zZ 0 p.toNat).map V.int)) hlf)
  have hlfH:H lf=none:=(sA.trans (ze (o:=.rng 0 p) hr2)).free hlf
  obtain⟨nd0,rg0⟩:=ze3 p
  refine⟨_,rfl,_,rfl,_,rfl,_,rfl,by omega,by omega,zbv (n:=(1+d2 % mm+d3 % (nn - (1+d2 % mm)+1)).toNat) (fun i ys H'=>∃ xs ls:List Int,ys=xs.map V.int∧xs.length=i∧zR H H'∧H' l=some (.lst (ds.map V.int))∧H' lf=some (.lst (ls.map V.int))∧ls.length+i=p.toNat∧(xs++ls).Nodup∧∀ y∈xs++ls,0≤y∧y < p)
   ⟨[],zZ 0 p.toNat,rfl,rfl,sB,by rw [zm hlf1,zm hlr]; exact hp3,zc,by rw [zab]; rfl,by simpa using nd0,by simpa using rg0⟩ (fun i ys H' hi _=>hi) (fun ys H' _=>Nat.le_refl _) ?_ ?_⟩
  ·rintro i x ys H4 H5 hi ⟨xs,ls,rfl,hxl,s4,hpl4,hlf4,hll,nd,rg⟩ ⟨rfl,rfl⟩
   refine gY ?_
   obtain⟨c,ec⟩:=dat (4+(0+(i:Int))) (by omega) (by omega)
   have lpos:0 < ls.length:=by omega
   have lm:((ls.map V.int).length:Int)=(ls.length:Int):=by rw [List.length_map]
   have c0:=Int.emod_nonneg c (show (ls.length:Int)≠0 by omega)
   have c1:=Int.emod_lt_of_pos c (show (0:Int) < ls.length by omega)
   have hsl:=sizeLine_eq
   obtain⟨y,ey⟩:∃ y,ls[(c % (ls.length:Int)).toNat]? = some y:=⟨ls[(c % (ls.length:Int)).toNat]'(by omega),by simp⟩
   refine⟨_,rfl,.inl ⟨rfl,_,SqL.of hlf4⟩,_,rfl,_,rfl,_,_,rfl,rfl,l,_,_,_,rfl,rfl,SqL.of hpl4,ec,_,rfl,lf,_,rfl,.inl (SqL.of hlf4),_,_,rfl,rfl,(by rw [lm]; omega),lf,_,_,(c % (ls.length:Int)).toNat,.int y,rfl,rfl,hlf4,?_⟩
   rw [lm]
   refine⟨by omega,by omega,by rw [List.length_map]; exact seqIndex_of c0 c1,by rw [List.getElem?_map,ey]; rfl,zaU (by rw [List.length_map]; omega),xs++[y],ls.eraseIdx (c % (ls.length:Int)).toNat,by rw [List.map_append]; rfl,by rw [List.length_append,hxl]; rfl,zbQ s4 hlfH,by rw [zm hlf1]; exact hpl4,by rw [zc,zcV],?_,zgA ey nd rg⟩
   rw [List.length_eraseIdx]
   split <;> omega
  ·rintro ys H4 D ⟨xs,ls,rfl,hxl,s4,hpl4,hlf4,hll,nd,rg⟩ hD
   refine⟨D,_,rfl,.inl ⟨SqL.of zc,fun tt htt=>⟨by show 3≤sizeLine; rw [sizeLine_eq]; decide,fun c hc=>?_⟩⟩⟩
   have s5:=(s4.trans (ze (o:=.lst (xs.map V.int)) hD)).trans (ze (o:=.tup (xs.map V.int)) htt)
   refine q c tt p _ xs _ (s5.free hc) (s5.trans (ze hc)) ⟨mp,by omega,by omega,by omega,by omega,(List.nodup_append.mp nd).1,fun y hy=>rg y (List.mem_append_left _ hy)⟩ zc ?_
   rw [zm (zv zc hc)]
   exact zc
theorem zdP:FnScope ["thing"] ["thing"] (zj zaY):=⟨rfl,rfl,rfl,by decide +kernel,rfl,by decide +kernel,by decide +kernel⟩
theorem za9 {fd:FuncData} (T:Txt K mg t) (F:Fun K "is_whole" "is_whole" zaY t.is_whole fd):FnOk P w K mg base CX0 1 t.is_whole fd ["thing"] (zbz K):=by
 refine F.ok zdP (fun vs H Q E h=>?_) (fun cdv A outer s H vs Q E hr h=>?_)
 ·obtain⟨v,rfl,_⟩:=h
  rfl
 ·obtain⟨v,rfl,hv,q⟩:=h
  refine⟨_,(@zk _ _ _ (@zy _ _ _ _ (@zdU _ _ _ _ _ _ _ (@zl _ _ _ _ _ _ _ _ _ (@zM _) (by rfl) T.isinstance_ boot_isinstance (@za _ _ _ _ _ (@L2.pv _ 0 _ _ (by rfl) (by first | exact Or.inl rfl | exact Or.inr (Or.inl rfl) | exact Or.inr (Or.inr rfl)) (by decide) (by decide)) (@za _ _ _ _ _ (@zax _ _ (.ty "int") _ _ rfl T.int_ boot_int rfl (by decide) (by decide)) (@zd _) (by rfl)) (by rfl)) (by decide) (by decide) (by rfl) (by rfl)) (@zdT _ _ _ _ _ (@zfu _ _ _ _ (@zl _ _ _ _ _ _ _ _ _ (@zM _) (by rfl) T.isinstance_ boot_isinstance (@za _ _ _ _ _ (@L2.pv _ 0 _ _ (by rfl) (by first | exact Or.inl rfl | exact Or.inr (Or.inl rfl) | exact Or.inr (Or.inr rfl)) (by decide) (by decide)) (@za _ _ _ _ _ (@zax _ _ (.ty "bool") _ _ rfl T.bool_ boot_bool rfl (by decide) (by decide)) (@zd _) (by rfl)) (by rfl)) (by decide) (by decide) (by rfl) (by rfl))))))),?_⟩
  obtain⟨ty,ht,hi,hb,_⟩:=zfS (K:=K) hv
  refine⟨_,rfl,_,_,_,_,rfl,ht,hi,_,rfl,?_⟩
  refine zaR (fun h=>⟨_,rfl,_,_,_,_,rfl,ht,hb,_,rfl,?_⟩) (fun h=>?_)
  ·have e:isW v = !isB v:=by cases v <;> simp_all [isI,isB,isW]
   rw [← e]
   exact q
  ·have e:isW v=false:=by cases v <;> simp_all [isI,isB,isW]
   rw [← e]
   exact q
theorem zdp:FnScope ["p","thing"] ["p","thing"] (zj zaH):=⟨rfl,rfl,rfl,by decide +kernel,rfl,by decide +kernel,by decide +kernel⟩
theorem zdq {fd:FuncData} (T:Txt K mg t) (F:Fun K "is_number" "is_number" zaH t.is_number fd):FnOk P w K mg base CX0 2 t.is_number fd ["p","thing"] (zde K):=by
 obtain⟨fd_is_whole,F_is_whole,b_is_whole⟩:=T.f_is_whole
 have G_is_whole:=za9 (P:=P) (w:=w) (base:=base) T F_is_whole
 refine F.ok zdp (fun vs H Q E h=>?_) (fun cdv A outer s H vs Q E hr h=>?_)
 ·obtain⟨p,v,rfl,_⟩:=h
  rfl
 ·obtain⟨p,v,rfl,hv,q⟩:=h
  refine⟨_,(@zk _ _ _ (@zy _ _ _ _ (@zdU _ _ _ _ _ _ _ (@zD _ _ _ _ _ _ _ _ _ _ _ _ _ _ _ _ G_is_whole (hr.mono (by decide)) rfl T.m_is_whole F_is_whole.kp b_is_whole .nil (@zae _) (@za _ _ _ _ _ (@L2.pv _ 1 _ _ (by rfl) (by first | exact Or.inl rfl | exact Or.inr (Or.inl rfl) | exact Or.inr (Or.inr rfl)) (by decide) (by decide)) (@zd _) (by rfl)) (by decide) (by rfl) (by rfl)) (@zdT _ _ _ _ _ (@zfD _ _ _ _ _ _ _ _ _ _ _ _ (@za4 _) (@zbV _) (@zb _ _ _ _) (@L2.pv _ 1 _ _ (by rfl) (by first | exact Or.inl rfl | exact Or.inr (Or.inl rfl) | exact Or.inr (Or.inr rfl)) (by decide) (by decide)) (@L2.pv _ 0 _ _ (by rfl) (by first | exact Or.inl rfl | exact Or.inr (Or.inl rfl) | exact Or.inr (Or.inr rfl)) (by decide) (by decide)) (by with_unfolding_all rfl)))))),?_⟩
  refine⟨_,rfl,v,rfl,hv,_,rfl,?_⟩
  refine zaR (fun h=>?_) (fun h=>?_)
  ·obtain⟨i,rfl⟩:=zbb h
   refine⟨_,rfl,_,_,rfl,rfl,_,rfl,?_⟩
   refine zaR (fun h0=>⟨_,rfl,_,_,rfl,rfl,?_⟩) (fun h0=>?_)
   ·have e:zac p (.int i)=decide (i < p):=by simp only [zac]; rw [h0]; rfl
    rw [e] at q
    exact q
   ·have e:zac p (.int i)=false:=by simp only [zac]; rw [Bool.eq_false_iff.mpr h0]; rfl
    rw [e] at q
    exact q
  ·have e:zac p v=false:=by cases v <;> simp_all [zac,isW]
   rw [← e]
   exact q
end
end My
end
section
set_option maxHeartbeats 3999000
namespace My
open PySem L2 PyProof.Rows
section
variable {P:Program} {w:World} {K:PySem.W.Frag} {mg:Str→Option Value} {base:Heap} {t:Adr}
theorem zbT:FnScope ["thing"] ["thing"] (zj zW):=⟨rfl,rfl,rfl,by decide +kernel,rfl,by decide +kernel,by decide +kernel⟩
theorem zbU {fd:FuncData} (T:Txt K mg t) (F:Fun K "is_code_prime" "is_code_prime" zW t.is_code_prime fd):FnOk P w K mg base CX0 2 t.is_code_prime fd ["thing"] (zbS K):=by
 obtain⟨fd_is_whole,F_is_whole,b_is_whole⟩:=T.f_is_whole
 have G_is_whole:=za9 (P:=P) (w:=w) (base:=base) T F_is_whole
 refine F.ok zbT (fun vs H Q E h=>?_) (fun cdv A outer s H vs Q E hr h=>?_)
 ·obtain⟨v,rfl,_⟩:=h
  rfl
 ·obtain⟨v,rfl,hv,q⟩:=h
  refine⟨_,(@zf _ _ _ _ _ (@zan _ _ _ _ _ _ _ _ (@PW.pt _ _ _ (@zaF _ _ _ _ _ _ _ (@zU _ _ _ _ (@zat _ _ _ (@zD _ _ _ _ _ _ _ _ _ _ _ _ _ _ _ _ G_is_whole (hr.mono (by decide)) rfl T.m_is_whole F_is_whole.kp b_is_whole .nil (@zae _) (@za _ _ _ _ _ (@L2.pv _ 0 _ _ (by rfl) (by first | exact Or.inl rfl | exact Or.inr (Or.inl rfl) | exact Or.inr (Or.inr rfl)) (by decide) (by decide)) (@zd _) (by rfl)) (by decide) (by rfl) (by rfl)) (by intro _; rfl))) (@zaI _ _ _ _ (@zU _ _ _ _ (@zaC _ _ _ _ _ _ _ _ _ _ _ _ (@za4 _) (@za4 _) (@zb4 _ _ (.int 5) _ _ rfl T.g_LEAST_P.choose_spec ⟨_,rfl⟩ (by decide)) (@L2.pv _ 0 _ _ (by rfl) (by first | exact Or.inl rfl | exact Or.inr (Or.inl rfl) | exact Or.inr (Or.inr rfl)) (by decide) (by decide)) (@zb4 _ _ (.int 97) _ _ rfl T.g_GREATEST_P.choose_spec ⟨_,rfl⟩ (by decide)) (by with_unfolding_all rfl)))))) (@zk _ _ _ (@zy _ _ _ _ (@zav _ _ _ _))) (@zK _)) (by exact (@zk _ _ _ (@zy _ _ _ _ (@zl _ _ _ _ _ _ _ _ _ (@zcW _ rfl) (by rfl) T.all_ boot_all (@za _ _ _ _ _ (@zbx _ _ _ _ _ _ _ _ _ _ _ _ _ (CompSc.of (N':=["divisor","thing"]) (ix:=[none,some 0]) (zj zW) ["thing"] rfl rfl (by decide +kernel)) rfl (@zbw _ _ rfl) (@zcK _ _ _ _ _ _ _ rfl T.range_ (@za _ _ _ _ _ (@zb _ _ _ _) (@za _ _ _ _ _ (@L2.pv _ 0 _ _ (by rfl) (by first | exact Or.inl rfl | exact Or.inr (Or.inl rfl) | exact Or.inr (Or.inr rfl)) (by decide) (by decide)) (@zd _) (by rfl)) (by rfl)) (by rfl) (by rfl)) (fun _ _ _ _=>(@zL _ _ (0) _ (show (["divisor","thing"]:List Str).Nodup by decide +kernel) rfl (Or.inl rfl) (by trivial))) (fun _ _ _ _=>(@zck _)) (fun _ _ _ _=>(@zc5 _ _ _ _ _ _ _ _ (@zdv _) (@zg _ _ _ _ _ _ _ _ (@zE _) (@L2.pv _ 1 _ _ (by rfl) (by first | exact Or.inl rfl | exact Or.inr (Or.inl rfl) | exact Or.inr (Or.inr rfl)) (by decide) (by decide)) (@L2.pv _ 0 _ _ (by rfl) (by first | exact Or.inl rfl | exact Or.inr (Or.inl rfl) | exact Or.inr (Or.inr rfl)) (by decide) (by decide))) (@zb _ _ _ _) (zX _))) (by intro _; rfl)) (@zd _) (by rfl)) (by decide) (by decide) (by rfl) (by rfl)))))),?_⟩
  have hsl:=sizeLine_eq
  have q0:=q H (fun _ _ e=>e)
  refine⟨_,rfl,v,rfl,hv,_,rfl,?_⟩
  cases hw:isW v with
  | false =>
   have e:zaK v=false:=by cases v <;> simp_all [isW,zaK]
   rw [e] at q0
   exact zah q0
  | true =>
  obtain⟨p,rfl⟩:=zbb hw
  refine zal ?_
  refine⟨_,rfl,_,_,rfl,rfl,_,rfl,zaR (fun h1=>?_) (fun h1=>?_)⟩
  ·have h5:5≤p:=of_decide_eq_true h1
   refine⟨_,_,rfl,rfl,_,rfl,?_⟩
   by_cases h97:p≤97
   ·rw [decide_eq_true h97]
    refine zal ?_
    refine⟨_,rfl,2,p,rfl,⟨by omega,by omega,by omega,by omega⟩,zbv (n:=(p - 2).toNat) (fun i ys H'=>ys=(((List.range i).map fun i:Nat=>!decide (p % (2+(i:Int))=0))).map V.bl∧H'=H) ⟨rfl,rfl⟩ (fun i ys H' hi _=>hi) (fun ys H' _=>Nat.le_refl _) ?_ ?_⟩
    ·rintro i xx ys H3 H4 hi ⟨rfl,rfl⟩ ⟨rfl,rfl⟩
     refine gY ?_
     refine⟨_,rfl,_,rfl,_,_,rfl,rfl,by omega,rfl,?_⟩
     refine⟨by rw [List.length_map,List.length_map,List.length_range]; omega,?_,rfl⟩
     rw [List.range_succ,List.map_append,List.map_append]
     have e:decide (V.int (p % (2+(i:Int)))=V.int 0)=decide (p % (2+(i:Int))=0):=by simp
     simp only [e]
     rfl
    ·rintro ys H3 D ⟨rfl,rfl⟩ hD
     refine⟨D,zhn p,rfl,SqL.of zc,?_⟩
     rw [zgK h5 h97]
     exact q _ (ze hD)
   ·rw [decide_eq_false h97]
    have e:zaK (.int p)=false:=decide_eq_false fun z=>h97 (zaA z).2
    rw [e] at q0
    exact zah q0
  ·have h5:¬ 5≤p:=fun z=>h1 (decide_eq_true z)
   have e:zaK (.int p)=false:=decide_eq_false fun z=>h5 (zaA z).1
   rw [e] at q0
   exact⟨_,rfl,zah q0⟩
theorem zcI:FnScope ["p","k","thing"] ["p","k","thing"] (zj zai):=⟨rfl,rfl,rfl,by decide +kernel,rfl,by decide +kernel,by decide +kernel⟩
theorem zcJ {fd:FuncData} (T:Txt K mg t) (F:Fun K "are_places" "are_places" zai t.are_places fd):FnOk P w K mg base CX0 3 t.are_places fd ["p","k","thing"] (zcH K):=by
 obtain⟨fd_is_number,F_is_number,b_is_number⟩:=T.f_is_number
 have G_is_number:=zdq (P:=P) (w:=w) (base:=base) T F_is_number
 refine F.ok zcI (fun vs H Q E h=>?_) (fun cdv A outer s H vs Q E hr h=>?_)
 ·obtain⟨p,k,v,rfl,_⟩:=h
  rfl
 ·obtain⟨p,k,v,rfl,p97,hv,q⟩:=h
  refine⟨_,(@zf _ _ _ _ _ (@zan _ _ _ _ _ _ _ _ (@PW.pt _ _ _ (@zaF _ _ _ _ _ _ _ (@zU _ _ _ _ (@zat _ _ _ (@zl _ _ _ _ _ _ _ _ _ (@zM _) (by rfl) T.isinstance_ boot_isinstance (@za _ _ _ _ _ (@L2.pv _ 2 _ _ (by rfl) (by first | exact Or.inl rfl | exact Or.inr (Or.inl rfl) | exact Or.inr (Or.inr rfl)) (by decide) (by decide)) (@za _ _ _ _ _ (@zax _ _ (.ty "tuple") _ _ rfl T.tuple_ boot_tuple rfl (by decide) (by decide)) (@zd _) (by rfl)) (by rfl)) (by decide) (by decide) (by rfl) (by rfl)) (by intro _; rfl))) (@zaI _ _ _ _ (@zU _ _ _ _ (@zaC _ _ _ _ _ _ _ _ _ _ _ _ (@za4 _) (@za4 _) (@L2.pv _ 1 _ _ (by rfl) (by first | exact Or.inl rfl | exact Or.inr (Or.inl rfl) | exact Or.inr (Or.inr rfl)) (by decide) (by decide)) (@zl _ _ _ _ _ _ _ _ _ (@zw _) (by rfl) T.len_ boot_len (@za _ _ _ _ _ (@L2.pv _ 2 _ _ (by rfl) (by first | exact Or.inl rfl | exact Or.inr (Or.inl rfl) | exact Or.inr (Or.inr rfl)) (by decide) (by decide)) (@zd _) (by rfl)) (by decide) (by decide) (by rfl) (by rfl)) (@zb4 _ _ (.int 16) _ _ rfl T.g_MOST_PLACES.choose_spec ⟨_,rfl⟩ (by decide)) (by with_unfolding_all rfl)))))) (@zk _ _ _ (@zy _ _ _ _ (@zav _ _ _ _))) (@zK _)) (by exact (@zf _ _ _ _ _ (@zan _ _ _ _ _ _ _ _ (@zU _ _ _ _ (@zat _ _ _ (@zl _ _ _ _ _ _ _ _ _ (@zcW _ rfl) (by rfl) T.all_ boot_all (@za _ _ _ _ _ (@zbx _ _ _ _ _ _ _ _ _ _ _ _ _ (CompSc.of (N':=["place","p"]) (ix:=[none,some 0]) (zj zai) ["p","k","thing"] rfl rfl (by decide +kernel)) rfl (@zbw _ _ rfl) (@zfw _ _ _ _ (@L2.pv _ 2 _ _ (by rfl) (by first | exact Or.inl rfl | exact Or.inr (Or.inl rfl) | exact Or.inr (Or.inr rfl)) (by decide) (by decide))) (fun _ _ _ _=>(@zL _ _ (0) _ (show (["place","p"]:List Str).Nodup by decide +kernel) rfl (Or.inl rfl) (by trivial))) (fun _ _ _ _=>(@zck _)) (fun _ _ _ _=>(@zD _ _ _ _ _ _ _ _ _ _ _ _ _ _ _ _ G_is_number (hr.mono (by decide)) rfl T.m_is_number F_is_number.kp b_is_number .nil (@zae _) (@za _ _ _ _ _ (@L2.pv _ 1 _ _ (by rfl) (by first | exact Or.inl rfl | exact Or.inr (Or.inl rfl) | exact Or.inr (Or.inr rfl)) (by decide) (by decide)) (@za _ _ _ _ _ (@L2.pv _ 0 _ _ (by rfl) (by first | exact Or.inl rfl | exact Or.inr (Or.inl rfl) | exact Or.inr (Or.inr rfl)) (by decide) (by decide)) (@zd _) (by rfl)) (by rfl)) (by decide) (by rfl) (by rfl))) (by intro _; rfl)) (@zd _) (by rfl)) (by decide) (by decide) (by rfl) (by rfl)) (by intro _; rfl))) (@zk _ _ _ (@zy _ _ _ _ (@zav _ _ _ _))) (@zK _)) (by exact (@zk _ _ _ (@zy _ _ _ _ (@zc5 _ _ _ _ _ _ _ _ (@zfB _) (@zl _ _ _ _ _ _ _ _ _ (@zdB _) (by rfl) T.len_ boot_len (@za _ _ _ _ _ (@zak _ _ _ _ _ _ _ _ _ (zfk rfl) (by rfl) T.set_ boot_set (@za _ _ _ _ _ (@L2.pv _ 2 _ _ (by rfl) (by first | exact Or.inl rfl | exact Or.inr (Or.inl rfl) | exact Or.inr (Or.inr rfl)) (by decide) (by decide)) (@zd _) (by rfl)) (by decide) (by decide) (by rfl) (by rfl)) (@zd _) (by rfl)) (by decide) (by decide) (by rfl) (by rfl)) (@zl _ _ _ _ _ _ _ _ _ (@zw _) (by rfl) T.len_ boot_len (@za _ _ _ _ _ (@L2.pv _ 2 _ _ (by rfl) (by first | exact Or.inl rfl | exact Or.inr (Or.inl rfl) | exact Or.inr (Or.inr rfl)) (by decide) (by decide)) (@zd _) (by rfl)) (by decide) (by decide) (by rfl) (by rfl)) (zX _)))))))),?_⟩
  have hsl:=sizeLine_eq
  have q0:=q H (fun _ _ e=>e)
  obtain⟨ty,ht,hy⟩:=zcd (K:=K) hv.1
  refine⟨_,rfl,_,_,_,_,rfl,ht,hy,_,rfl,?_⟩
  cases et:z6 H v with
  | none =>
   rw [et] at q0
   exact zah q0
  | some xs =>
  obtain⟨tt,rfl,hH⟩:=zbK et
  obtain⟨hl,hx⟩:=hv.2 xs et
  rw [et] at q0 q
  refine zal ?_
  refine⟨_,rfl,_,rfl,tt,_,rfl,.inr (SqT.of hH),_,_,rfl,rfl,_,rfl,zaR (fun h1=>?_) (fun h1=>?_)⟩
  ·have hk:k≤(xs.length:Int):=of_decide_eq_true h1
   refine⟨_,_,rfl,rfl,_,rfl,?_⟩
   by_cases h16:(xs.length:Int)≤16
   ·rw [decide_eq_true h16]
    refine zal ?_
    refine⟨_,rfl,tt,rfl,⟨_,SqT.of hH⟩,ze4 (K:=K) (xs:=xs) (fs:=xs.map fun v=>V.bl (zac p v)) (SqT.of hH) (by rw [List.length_map]) (by omega) ?_ ?_⟩
    ·intro j x y R B hxj hyj hR
     rw [List.getElem?_map,hxj] at hyj
     obtain rfl:V.bl (zac p x)=y:=Option.some.inj hyj
     refine gY ?_
     exact⟨_,rfl,_,rfl,p,x,rfl,hx x (List.mem_of_getElem? hxj),hR⟩
    ·intro D hD
     have s1:=ze (o:=.lst (xs.map fun v=>V.bl (zac p v))) hD
     refine⟨D,xs.map (zac p),rfl,SqL.of (by rw [List.map_map]; exact zc),?_⟩
     have e:(xs.map (zac p)).all id=xs.all (zac p):=by rw [List.all_map]; rfl
     rw [e]
     cases ea:xs.all (zac p) with
     | false =>
      have e2:zn p k xs=false:=by unfold zn; rw [ea]; simp
      have q1:=q _ s1
      rw [show zbL p k (some xs)=zn p k xs from rfl,e2] at q1
      exact⟨_,rfl,zah q1⟩
     | true =>
     obtain⟨ns,rfl,hn⟩:=zdn ea
     rw [List.length_map] at h16 hk
     refine⟨_,rfl,zal ?_⟩
     refine⟨_,rfl,tt,ns,rfl,SqT.of (s1 _ _ hH),by omega,fun n hn'=>by have:=hn n hn'; omega,fun l S hl=>?_⟩
     refine⟨l,S,_,rfl,zc,_,rfl,tt,_,rfl,.inr (SqT.of ((ze hl) _ _ (s1 _ _ hH))),rfl,?_⟩
     have q1:=q _ (s1.trans (ze (o:=.set S (firstMet (fun i=>ns.getD i 0) ns.length).length) hl))
     have e2:zbL p k (some (ns.map V.int))=decide (V.int ((firstMet (fun i=>ns.getD i 0) ns.length).length:Nat)=V.int (((ns.map V.int).length:Nat):Int)):=by
      show zn p k (ns.map V.int)=_
      unfold zn
      rw [ea,decide_eq_true (show k≤(((ns.map V.int).length:Nat):Int) by rw [List.length_map]; exact hk),decide_eq_true (show (ns.map V.int).length≤16 by rw [List.length_map]; omega),Bool.true_and,Bool.true_and,Bool.true_and]
      refine decide_eq_decide.mpr ?_
      rw [zbq,← zdM,List.length_map]
      constructor
      ·intro z; rw [z]
      ·intro z
       injection z with z
       exact Int.ofNat.inj z
     rw [e2] at q1
     exact q1
   ·have e2:zn p k xs=false:=by unfold zn; rw [decide_eq_false (show ¬ xs.length≤16 by omega)]; simp
    rw [decide_eq_false h16]
    rw [show zbL p k (some xs)=zn p k xs from rfl,e2] at q0
    exact zah q0
  ·have e2:zn p k xs=false:=by unfold zn; rw [decide_eq_false (show ¬ k≤(xs.length:Int) from fun z=>h1 (decide_eq_true z))]; simp
   rw [show zbL p k (some xs)=zn p k xs from rfl,e2] at q0
   exact⟨_,rfl,zah q0⟩
theorem za0:FnScope ["thing","p","k","places"] ["thing"] (zj zbe):=⟨rfl,rfl,rfl,by decide +kernel,rfl,by decide +kernel,by decide +kernel⟩
theorem zeh {fd:FuncData} (T:Txt K mg t) (F:Fun K "is_code" "is_code" zbe t.is_code fd):FnOk P w K mg base CX0 4 t.is_code fd ["thing"] (zcw K):=by
 obtain⟨fd_is_whole,F_is_whole,b_is_whole⟩:=T.f_is_whole
 have G_is_whole:=za9 (P:=P) (w:=w) (base:=base) T F_is_whole
 obtain⟨fd_is_code_prime,F_is_code_prime,b_is_code_prime⟩:=T.f_is_code_prime
 have G_is_code_prime:=zbU (P:=P) (w:=w) (base:=base) T F_is_code_prime
 obtain⟨fd_are_places,F_are_places,b_are_places⟩:=T.f_are_places
 have G_are_places:=zcJ (P:=P) (w:=w) (base:=base) T F_are_places
 refine F.ok za0 (fun vs H Q E h=>?_) (fun cdv A outer s H vs Q E hr h=>?_)
 ·obtain⟨v,rfl,_⟩:=h
  rfl
 ·obtain⟨v,rfl,hv,q⟩:=h
  refine⟨_,(@zf _ _ _ _ _ (@zan _ _ _ _ _ _ _ _ (@PW.pt _ _ _ (@zaF _ _ _ _ _ _ _ (@zU _ _ _ _ (@zat _ _ _ (@zl _ _ _ _ _ _ _ _ _ (@zM _) (by rfl) T.isinstance_ boot_isinstance (@za _ _ _ _ _ (@L2.pv _ 0 _ _ (by rfl) (by first | exact Or.inl rfl | exact Or.inr (Or.inl rfl) | exact Or.inr (Or.inr rfl)) (by decide) (by decide)) (@za _ _ _ _ _ (@zax _ _ (.ty "tuple") _ _ rfl T.tuple_ boot_tuple rfl (by decide) (by decide)) (@zd _) (by rfl)) (by rfl)) (by decide) (by decide) (by rfl) (by rfl)) (by intro _; rfl))) (@zaI _ _ _ _ (@zV _ _ _ _ _ _ _ _ (@zdv _) (@zl _ _ _ _ _ _ _ _ _ (@zw _) (by rfl) T.len_ boot_len (@za _ _ _ _ _ (@L2.pv _ 0 _ _ (by rfl) (by first | exact Or.inl rfl | exact Or.inr (Or.inl rfl) | exact Or.inr (Or.inr rfl)) (by decide) (by decide)) (@zd _) (by rfl)) (by decide) (by decide) (by rfl) (by rfl)) (@zb _ _ _ _) (zX _))))) (@zk _ _ _ (@zy _ _ _ _ (@zav _ _ _ _))) (@zK _)) (by exact (@zf _ _ _ _ _ (@zdW _ _ _ _ _ _ (@L2.pv _ 0 _ _ (by rfl) (by first | exact Or.inl rfl | exact Or.inr (Or.inl rfl) | exact Or.inr (Or.inr rfl)) (by decide) (by decide)) (@zdV _ _ _ _ _ _ rfl (@zaf _ _ _ _ _ (@zL _ _ (1) _ za0.nd rfl (Or.inl rfl) (by trivial)) (@zaf _ _ _ _ _ (@zL _ _ (2) _ za0.nd rfl (Or.inl rfl) (by trivial)) (@zaf _ _ _ _ _ (@zL _ _ (3) _ za0.nd rfl (Or.inl rfl) (by trivial)) (@zc4 _) (by rfl)) (by rfl)) (by rfl)) (by rfl) (by rfl)) (by rfl) (by rfl) (by rfl)) (by exact (@zf _ _ _ _ _ (@zan _ _ _ _ _ _ _ _ (@PW.pt _ _ _ (@zaF _ _ _ _ _ _ _ (@zU _ _ _ _ (@zat _ _ _ (@zD _ _ _ _ _ _ _ _ _ _ _ _ _ _ _ _ G_is_code_prime (hr.mono (by decide)) rfl T.m_is_code_prime F_is_code_prime.kp b_is_code_prime .nil (@zae _) (@za _ _ _ _ _ (@L2.pv _ 1 _ _ (by rfl) (by first | exact Or.inl rfl | exact Or.inr (Or.inl rfl) | exact Or.inr (Or.inr rfl)) (by decide) (by decide)) (@zd _) (by rfl)) (by decide) (by rfl) (by rfl)) (by intro _; rfl))) (@zaF _ _ _ _ _ _ _ (@zU _ _ _ _ (@zat _ _ _ (@zD _ _ _ _ _ _ _ _ _ _ _ _ _ _ _ _ G_is_whole (hr.mono (by decide)) rfl T.m_is_whole F_is_whole.kp b_is_whole .nil (@zae _) (@za _ _ _ _ _ (@L2.pv _ 2 _ _ (by rfl) (by first | exact Or.inl rfl | exact Or.inr (Or.inl rfl) | exact Or.inr (Or.inr rfl)) (by decide) (by decide)) (@zd _) (by rfl)) (by decide) (by rfl) (by rfl)) (by intro _; rfl))) (@zaI _ _ _ _ (@zU _ _ _ _ (@zaC _ _ _ _ _ _ _ _ _ _ _ _ (@za4 _) (@za4 _) (@zb _ _ _ _) (@L2.pv _ 2 _ _ (by rfl) (by first | exact Or.inl rfl | exact Or.inr (Or.inl rfl) | exact Or.inr (Or.inr rfl)) (by decide) (by decide)) (@zb4 _ _ (.int 5) _ _ rfl T.g_MOST_NUMBERS.choose_spec ⟨_,rfl⟩ (by decide)) (by with_unfolding_all rfl))))))) (@zk _ _ _ (@zy _ _ _ _ (@zav _ _ _ _))) (@zK _)) (by exact (@zk _ _ _ (@zy _ _ _ _ (@zD _ _ _ _ _ _ _ _ _ _ _ _ _ _ _ _ G_are_places (hr.mono (by decide)) rfl T.m_are_places F_are_places.kp b_are_places .nil (@zae _) (@za _ _ _ _ _ (@L2.pv _ 1 _ _ (by rfl) (by first | exact Or.inl rfl | exact Or.inr (Or.inl rfl) | exact Or.inr (Or.inr rfl)) (by decide) (by decide)) (@za _ _ _ _ _ (@L2.pv _ 2 _ _ (by rfl) (by first | exact Or.inl rfl | exact Or.inr (Or.inl rfl) | exact Or.inr (Or.inr rfl)) (by decide) (by decide)) (@za _ _ _ _ _ (@L2.pv _ 3 _ _ (by rfl) (by first | exact Or.inl rfl | exact Or.inr (Or.inl rfl) | exact Or.inr (Or.inr rfl)) (by decide) (by decide)) (@zd _) (by rfl)) (by rfl)) (by rfl)) (by decide) (by rfl) (by rfl)))))))))),?_⟩
  have q0:=q H (fun _ _ e=>e)
  obtain⟨ty,ht,hy⟩:=zcd (K:=K) hv.1
  refine⟨_,rfl,_,_,_,_,rfl,ht,hy,_,rfl,?_⟩
  unfold codeB at q q0
  cases et:z6 H v with
  | none =>
   rw [et] at q0
   exact zah q0
  | some xs =>
  obtain⟨c,rfl,hH⟩:=zbK et
  obtain⟨hl,hx⟩:=hv.2 xs et
  rw [et] at q0 q
  replace q:∀ H',zR H H'→Q (.bl (za1 H xs)) H':=q
  replace q0:Q (.bl (za1 H xs)) H:=q0
  refine zal ?_
  refine⟨_,rfl,c,_,rfl,.inr (SqT.of hH),rfl,_,rfl,?_⟩
  by_cases h3:xs.length=3
  ·obtain⟨x,y,z,rfl⟩:=zhT h3
   refine zal ?_
   have ax:=(hx x (by simp)).1
   have ay:=(hx y (by simp)).1
   have az:=hx z (by simp)
   refine⟨_,rfl,c,_,rfl,SqT.of hH,rfl,_,_,rfl,_,_,rfl,_,_,rfl,rfl,?_⟩
   refine⟨_,rfl,x,rfl,ax,fun H1 s1=>⟨_,rfl,?_⟩⟩
   have q1:=fun H' s'=>q H' (s1.trans s')
   have q11:=q1 H1 (fun _ _ e=>e)
   cases ex:zaK x with
   | false =>
    have e:za1 H [x,y,z]=false:=by show zaO H x y z=false; unfold zaO; rw [ex]; rfl
    rw [e] at q11
    exact zah q11
   | true =>
   obtain⟨p,rfl⟩:∃ p,x = .int p:=by cases x <;> first | exact⟨_,rfl⟩ | cases ex
   have hp:p∈zr:=of_decide_eq_true ex
   have rp:=zaA hp
   refine zal ?_
   refine⟨_,rfl,y,rfl,ay.same s1,_,rfl,?_⟩
   cases hw:isW y with
   | false =>
    have e:za1 H [.int p,y,z]=false:=by
     show zaO H (.int p) y z=false
     unfold zaO
     rw [show kB y=false by cases y <;> simp_all [isW,kB],Bool.false_and,Bool.and_false]
    rw [e] at q11
    exact zah q11
   | true =>
   obtain⟨k,rfl⟩:=zbb hw
   refine zal ?_
   refine⟨_,rfl,_,_,rfl,rfl,_,rfl,zaR (fun h1=>?_) (fun h1=>?_)⟩
   ·refine⟨_,_,rfl,rfl,_,rfl,?_⟩
    by_cases h5:k≤5
    ·rw [decide_eq_true h5]
     refine zal ?_
     have e:za1 H [.int p,.int k,z]=zbL p k (z6 H z):=by
      show zaO H (.int p) (.int k) z=_
      unfold zaO
      rw [ex,show kB (.int k)=true by show (decide (1≤k) && decide (k≤5))=true; rw [h1,decide_eq_true h5]; rfl,Bool.true_and,Bool.true_and]
      rfl
     have az1:=az.same s1
     refine⟨_,rfl,_,rfl,_,rfl,p,k,z,rfl,by omega,az1,fun H' s'=>?_⟩
     have q2:=q1 H' s'
     rw [zaE s1 az.1,← e]
     exact q2
    ·rw [decide_eq_false h5]
     have e:za1 H [.int p,.int k,z]=false:=by
      show zaO H (.int p) (.int k) z=false
      unfold zaO
      rw [show kB (.int k)=false by show (decide (1≤k) && decide (k≤5))=false; rw [decide_eq_false h5,Bool.and_false],Bool.false_and,Bool.and_false]
     rw [e] at q11
     exact zah q11
   ·have e:za1 H [.int p,.int k,z]=false:=by
     show zaO H (.int p) (.int k) z=false
     unfold zaO
     rw [show kB (.int k)=false by show (decide (1≤k) && decide (k≤5))=false; rw [Bool.eq_false_iff.mpr h1,Bool.false_and],Bool.false_and,Bool.and_false]
    rw [e] at q11
    exact⟨_,rfl,zah q11⟩
  ·have e1:(!decide (V.int (xs.length:Nat)=V.int 3))=true:=by
    rw [decide_eq_false]
    ·rfl
    ·intro z
     injection z with z
     exact h3 (Int.ofNat.inj z)
   rw [zc2 h3] at q0
   rw [e1]
   exact zah q0
end
end My
end
section
set_option maxHeartbeats 3999000
namespace My
open PySem L2 PyProof.Rows
section
variable {P:Program} {w:World} {K:PySem.W.Frag} {mg:Str→Option Value} {base:Heap} {t:Adr}
theorem zei:FnScope ["found"] ["found"] (zj zbg):=⟨rfl,rfl,rfl,by decide +kernel,rfl,by decide +kernel,by decide +kernel⟩
theorem zej {fd:FuncData} (T:Txt K mg t) (F:Fun K "_law_whole" "_law_whole" zbg t.l_whole fd):FnOk P w K mg base CX0 1 t.l_whole fd ["found"] (zbz K):=by
 refine F.ok zei (fun vs H Q E h=>?_) (fun cdv A outer s H vs Q E hr h=>?_)
 ·obtain⟨v,rfl,_⟩:=h
  rfl
 ·obtain⟨v,rfl,hv,q⟩:=h
  refine⟨_,(@zk _ _ _ (@zy _ _ _ _ (@zdU _ _ _ _ _ _ _ (@zl _ _ _ _ _ _ _ _ _ (@zM _) (by rfl) T.isinstance_ boot_isinstance (@za _ _ _ _ _ (@L2.pv _ 0 _ _ (by rfl) (by first | exact Or.inl rfl | exact Or.inr (Or.inl rfl) | exact Or.inr (Or.inr rfl)) (by decide) (by decide)) (@za _ _ _ _ _ (@zax _ _ (.ty "int") _ _ rfl T.int_ boot_int rfl (by decide) (by decide)) (@zd _) (by rfl)) (by rfl)) (by decide) (by decide) (by rfl) (by rfl)) (@zdT _ _ _ _ _ (@zfu _ _ _ _ (@zl _ _ _ _ _ _ _ _ _ (@zM _) (by rfl) T.isinstance_ boot_isinstance (@za _ _ _ _ _ (@L2.pv _ 0 _ _ (by rfl) (by first | exact Or.inl rfl | exact Or.inr (Or.inl rfl) | exact Or.inr (Or.inr rfl)) (by decide) (by decide)) (@za _ _ _ _ _ (@zax _ _ (.ty "bool") _ _ rfl T.bool_ boot_bool rfl (by decide) (by decide)) (@zd _) (by rfl)) (by rfl)) (by decide) (by decide) (by rfl) (by rfl))))))),?_⟩
  obtain⟨ty,ht,hi,hb,_⟩:=zfS (K:=K) hv
  refine⟨_,rfl,_,_,_,_,rfl,ht,hi,_,rfl,?_⟩
  refine zaR (fun h=>⟨_,rfl,_,_,_,_,rfl,ht,hb,_,rfl,?_⟩) (fun h=>?_)
  ·have e:isW v = !isB v:=by cases v <;> simp_all [isI,isB,isW]
   rw [← e]
   exact q
  ·have e:isW v=false:=by cases v <;> simp_all [isI,isB,isW]
   rw [← e]
   exact q
theorem zdQ:FnScope ["draw","some"] ["draw"] (zj zch):=⟨rfl,rfl,rfl,by decide +kernel,rfl,by decide +kernel,by decide +kernel⟩
theorem zdR {fd:FuncData} (T:Txt K mg t) (F:Fun K "_law_any" "_law_any" zch t.l_any fd):FnOk P w K mg base CX0 1 t.l_any fd ["draw"] (zgc K):=by
 refine F.ok zdQ (fun vs H Q E h=>?_) (fun cdv A outer s H vs Q E hr h=>?_)
 ·obtain⟨d,rfl,_⟩:=h
  rfl
 ·obtain⟨d,rfl,d0,d1,q⟩:=h
  refine⟨_,(@zf _ _ _ _ _ (@zA _ _ (1) _ _ _ _ zdQ.nd rfl (Or.inl rfl) (@zY _ _ _ _ (@za _ _ _ _ _ (@zg0 _ _ _) (by exact (@za _ _ _ _ _ (@zav _ _ _ _) (by exact (@za _ _ _ _ _ (@zav _ _ _ _) (by exact (@za _ _ _ _ _ (@zfy _ _ _ _ _ _ zd1 (@zb _ _ _ _)) (by exact (@zao _ _ _ _ _ _ (by exact (@zao _ _ _ _ _ _ (by exact (@zao _ _ _ _ _ _ (by exact (@zao _ _ _ _ _ _ (by exact (@zao _ _ _ _ _ _ (by exact (@zao _ _ _ _ _ _ (by exact (@zao _ _ _ _ _ _ (by exact (@zao _ _ _ _ _ _ (by exact (@zao _ _ _ _ _ _ (by exact (@zao _ _ _ _ _ _ (by exact (@zao _ _ _ _ _ _ (by exact (@za _ _ _ _ _ (@zft _ _ _ _) (by exact (@za _ _ _ _ _ (@zft _ _ _ _) (by exact (@za _ _ _ _ _ (@zY _ _ _ _ (@zd _)) (by exact (@za _ _ _ _ _ (@zN _ _ _ _ _ (@zd _)) (by exact (@za _ _ _ _ _ (@zN _ _ _ _ _ (@za _ _ _ _ _ (@zb _ _ _ _) (@zd _) (by rfl))) (by exact (@za _ _ _ _ _ (@zY _ _ _ _ (@za _ _ _ _ _ (@zb _ _ _ _) (@za _ _ _ _ _ (@zb _ _ _ _) (@zd _) (by rfl)) (by rfl))) (@za _ _ _ _ _ (@zN _ _ _ _ _ (@za _ _ _ _ _ (@zN _ _ _ _ _ (@za _ _ _ _ _ (@zb _ _ _ _) (@zd _) (by rfl))) (@zd _) (by rfl))) (@za _ _ _ _ _ (@zN _ _ _ _ _ (@za _ _ _ _ _ (@zb _ _ _ _) (@za _ _ _ _ _ (@zb _ _ _ _) (@zd _) (by rfl)) (by rfl))) (@zd _) (by rfl)) (by rfl)) (by rfl))) (by rfl))) (by rfl))) (by rfl))) (by rfl))) (by rfl))))))))))))))))))))))))) (by rfl))) (by rfl))) (by rfl))) (by rfl))) (by rfl) (by trivial)) (by exact (@zk _ _ _ (@zy _ _ _ _ (@zH _ _ _ _ _ _ _ (@zp _) (@zg _ _ _ _ _ _ _ _ (@zd6 _) (@L2.pv _ 1 _ _ (by rfl) (by first | exact Or.inl rfl | exact Or.inr (Or.inl rfl) | exact Or.inr (Or.inr rfl)) (by decide) (by decide)) (@zY _ _ _ _ (@za _ _ _ _ _ (@zg _ _ _ _ _ _ _ _ (@zQ _) (@zg _ _ _ _ _ _ _ _ (@zfz _) (@zb _ _ _ _) (@zb _ _ _ _)) (@L2.pv _ 0 _ _ (by rfl) (by first | exact Or.inl rfl | exact Or.inr (Or.inl rfl) | exact Or.inr (Or.inr rfl)) (by decide) (by decide))) (@zd _) (by rfl)))) (@zg _ _ _ _ _ _ _ _ (@zE _) (@L2.pv _ 0 _ _ (by rfl) (by first | exact Or.inl rfl | exact Or.inr (Or.inl rfl) | exact Or.inr (Or.inr rfl)) (by decide) (by decide)) (@zb _ _ _ _)) (fun _ _=>rfl)))))),?_⟩
  have hsl:=sizeLine_eq
  refine⟨_,rfl,by show 0≤sizeLine; omega,fun a1 h1=>?_⟩
  have u1:=ze (o:=.lst []) h1
  have f1:upd H a1 (.lst []) a1=some (.lst []):=zc
  generalize upd H a1 (.lst [])=H1 at u1 f1 ⊢
  refine⟨by show 0≤sizeLine; omega,fun a2 h2=>?_⟩
  have u2:=ze (o:=.tup []) h2
  have f2:upd H1 a2 (.tup []) a2=some (.tup []):=zc
  generalize upd H1 a2 (.tup [])=H2 at u2 f2 ⊢
  refine⟨by show 1≤sizeLine; omega,fun a3 h3=>?_⟩
  have u3:=ze (o:=.tup [.int 0]) h3
  have f3:upd H2 a3 (.tup [.int 0]) a3=some (.tup [.int 0]):=zc
  generalize upd H2 a3 (.tup [.int 0])=H3 at u3 f3 ⊢
  refine⟨by show 2≤sizeLine; omega,fun a4 h4=>?_⟩
  have u4:=ze (o:=.lst [.int 0,.int 1]) h4
  have f4:upd H3 a4 (.lst [.int 0,.int 1]) a4=some (.lst [.int 0,.int 1]):=zc
  generalize upd H3 a4 (.lst [.int 0,.int 1])=H4 at u4 f4 ⊢
  refine⟨by show 1≤sizeLine; omega,fun a5 h5=>?_⟩
  have u5:=ze (o:=.tup [.int 0]) h5
  have f5:upd H4 a5 (.tup [.int 0]) a5=some (.tup [.int 0]):=zc
  generalize upd H4 a5 (.tup [.int 0])=H5 at u5 f5 ⊢
  refine⟨by show 1≤sizeLine; omega,fun a6 h6=>?_⟩
  have u6:=ze (o:=.tup [.ref a5]) h6
  have f6:upd H5 a6 (.tup [.ref a5]) a6=some (.tup [.ref a5]):=zc
  generalize upd H5 a6 (.tup [.ref a5])=H6 at u6 f6 ⊢
  refine⟨by show 2≤sizeLine; omega,fun a7 h7=>?_⟩
  have u7:=ze (o:=.tup [.int 7,.int 2]) h7
  have f7:upd H6 a7 (.tup [.int 7,.int 2]) a7=some (.tup [.int 7,.int 2]):=zc
  generalize upd H6 a7 (.tup [.int 7,.int 2])=H7 at u7 f7 ⊢
  refine⟨by show 23≤sizeLine; omega,fun a8 h8=>?_⟩
  refine⟨_,rfl,_,_,rfl,rfl,⟨by decide,by decide,by decide⟩,_,rfl,_,_,rfl,rfl,by show 1≤sizeLine; omega,fun a9 h9=>?_⟩
  refine⟨a8,a9,(zfo a1 a2 a3 a4 a6 a7 0).dropLast,[.int (10 ^ (39:Int).toNat+d)],rfl,rfl,(ze h9) _ _ zc,zc,by show 24≤sizeLine; omega,fun a10 h10=>?_⟩
  obtain⟨v,hv,ev⟩:=zcg (xs:=zfo a1 a2 a3 a4 a6 a7 (10 ^ (39:Int).toNat+d)) (k:=d % 24) (Int.emod_nonneg _ (by decide)) (Int.emod_lt_of_pos _ (by decide))
  refine⟨_,rfl,_,_,rfl,rfl,(by show (0:Int) < 24; decide),a10,zfo a1 a2 a3 a4 a6 a7 (10 ^ (39:Int).toNat+d),_,_,rfl,rfl,SqL.of zc,ev,?_⟩
  have t8:=(ze h8).trans ((ze h9).trans (ze (o:=.lst (zfo a1 a2 a3 a4 a6 a7 (10 ^ (39:Int).toNat+d))) h10))
  have t7:=u7.trans t8
  have t6:=u6.trans t7
  have t5:=u5.trans t6
  have t4:=u4.trans t5
  have t3:=u3.trans t4
  have t2:=u2.trans t3
  refine q v _ (u1.trans t2) ?_
  exact zgL (t2 _ _ f1) (t3 _ _ f2) (t4 _ _ f3) (t5 _ _ f4) (t6 _ _ f5) (t7 _ _ f6) (t8 _ _ f7) v hv
end
end My
end
section
set_option maxHeartbeats 3999000
namespace My
open PySem L2 PyProof.Rows
section
variable {P:Program} {w:World} {K:PySem.W.Frag} {mg:Str→Option Value} {base:Heap} {t:Adr}
theorem zaz:FnScope ["thing","p","k","places"] ["thing"] (zj z9):=⟨rfl,rfl,rfl,by decide +kernel,rfl,by decide +kernel,by decide +kernel⟩
theorem zdr {fd:FuncData} (T:Txt K mg t) (F:Fun K "_law_is_code" "_law_is_code" z9 t.l_is_code fd):FnOk P w K mg base CX0 2 t.l_is_code fd ["thing"] (zcw K):=by
 obtain⟨fd_l_whole,F_l_whole,b_l_whole⟩:=T.f_l_whole
 have G_l_whole:=zej (P:=P) (w:=w) (base:=base) T F_l_whole
 refine F.ok zaz (fun vs H Q E h=>?_) (fun cdv A outer s H vs Q E hr h=>?_)
 ·obtain⟨v,rfl,_⟩:=h
  rfl
 ·obtain⟨v,rfl,hv,q⟩:=h
  have hu:(A.deeper (envOfC (Str.ofString "_law_is_code") (zj z9) s.heap.objs.size t.l_is_code cdv)).units+20 < cLine:=by have:=hr.units; omega
  refine⟨_,(@zf _ _ _ _ _ (@zan _ _ _ _ _ _ _ _ (@PW.pt _ _ _ (@zaF _ _ _ _ _ _ _ (@zU _ _ _ _ (@zat _ _ _ (@zl _ _ _ _ _ _ _ _ _ (@zM _) (by rfl) T.isinstance_ boot_isinstance (@za _ _ _ _ _ (@L2.pv _ 0 _ _ (by rfl) (by first | exact Or.inl rfl | exact Or.inr (Or.inl rfl) | exact Or.inr (Or.inr rfl)) (by decide) (by decide)) (@za _ _ _ _ _ (@zax _ _ (.ty "tuple") _ _ rfl T.tuple_ boot_tuple rfl (by decide) (by decide)) (@zd _) (by rfl)) (by rfl)) (by decide) (by decide) (by rfl) (by rfl)) (by intro _; rfl))) (@zaF _ _ _ _ _ _ _ (@zV _ _ _ _ _ _ _ _ (@zdv _) (@zl _ _ _ _ _ _ _ _ _ (@zw _) (by rfl) T.len_ boot_len (@za _ _ _ _ _ (@L2.pv _ 0 _ _ (by rfl) (by first | exact Or.inl rfl | exact Or.inr (Or.inl rfl) | exact Or.inr (Or.inr rfl)) (by decide) (by decide)) (@zd _) (by rfl)) (by decide) (by decide) (by rfl) (by rfl)) (@zb _ _ _ _) (zX _)) (@zaI _ _ _ _ (@zU _ _ _ _ (@zat _ _ _ (@zl _ _ _ _ _ _ _ _ _ (@zM _) (by rfl) T.isinstance_ boot_isinstance (@za _ _ _ _ _ (@zH _ _ _ _ _ _ _ (@zbP _) (@L2.pv _ 0 _ _ (by rfl) (by first | exact Or.inl rfl | exact Or.inr (Or.inl rfl) | exact Or.inr (Or.inr rfl)) (by decide) (by decide)) (@zb _ _ _ _) (fun _ _=>rfl)) (@za _ _ _ _ _ (@zax _ _ (.ty "tuple") _ _ rfl T.tuple_ boot_tuple rfl (by decide) (by decide)) (@zd _) (by rfl)) (by rfl)) (by decide) (by decide) (by rfl) (by rfl)) (by intro _; rfl))))))) (@zk _ _ _ (@zy _ _ _ _ (@zav _ _ _ _))) (@zK _)) (by exact (@zf _ _ _ _ _ (@zdW _ _ _ _ _ _ (@L2.pv _ 0 _ _ (by rfl) (by first | exact Or.inl rfl | exact Or.inr (Or.inl rfl) | exact Or.inr (Or.inr rfl)) (by decide) (by decide)) (@zdV _ _ _ _ _ _ rfl (@zaf _ _ _ _ _ (@zL _ _ (1) _ zaz.nd rfl (Or.inr rfl) (by trivial)) (@zaf _ _ _ _ _ (@zL _ _ (2) _ zaz.nd rfl (Or.inl rfl) (by trivial)) (@zaf _ _ _ _ _ (@zL _ _ (3) _ zaz.nd rfl (Or.inl rfl) (by trivial)) (@zc4 _) (by rfl)) (by rfl)) (by rfl)) (by rfl) (by rfl)) (by rfl) (by rfl) (by rfl)) (by exact (@zf _ _ _ _ _ (@zan _ _ _ _ _ _ _ _ (@PW.pt _ _ _ (@zaF _ _ _ _ _ _ _ (@zU _ _ _ _ (@zat _ _ _ (@zD _ _ _ _ _ _ _ _ _ _ _ _ _ _ _ _ G_l_whole (hr.mono (by decide)) rfl T.m_l_whole F_l_whole.kp b_l_whole .nil (@zae _) (@za _ _ _ _ _ (@L2.pv _ 1 _ _ (by rfl) (by first | exact Or.inl rfl | exact Or.inr (Or.inl rfl) | exact Or.inr (Or.inr rfl)) (by decide) (by decide)) (@zd _) (by rfl)) (by decide) (by rfl) (by rfl)) (by intro _; rfl))) (@zaF _ _ _ _ _ _ _ (@zU _ _ _ _ (@zat _ _ _ (@zD _ _ _ _ _ _ _ _ _ _ _ _ _ _ _ _ G_l_whole (hr.mono (by decide)) rfl T.m_l_whole F_l_whole.kp b_l_whole .nil (@zae _) (@za _ _ _ _ _ (@L2.pv _ 2 _ _ (by rfl) (by first | exact Or.inl rfl | exact Or.inr (Or.inl rfl) | exact Or.inr (Or.inr rfl)) (by decide) (by decide)) (@zd _) (by rfl)) (by decide) (by rfl) (by rfl)) (by intro _; rfl))) (@zaF _ _ _ _ _ _ _ (@zU _ _ _ _ (@zaC _ _ _ _ _ _ _ _ _ _ _ _ (@za4 _) (@zbV _) (@zb _ _ _ _) (@L2.pv _ 1 _ _ (by rfl) (by first | exact Or.inl rfl | exact Or.inr (Or.inl rfl) | exact Or.inr (Or.inr rfl)) (by decide) (by decide)) (@zb _ _ _ _) (by with_unfolding_all rfl))) (@zaI _ _ _ _ (@zU _ _ _ _ (@zaC _ _ _ _ _ _ _ _ _ _ _ _ (@za4 _) (@zbV _) (@zb _ _ _ _) (@L2.pv _ 2 _ _ (by rfl) (by first | exact Or.inl rfl | exact Or.inr (Or.inl rfl) | exact Or.inr (Or.inr rfl)) (by decide) (by decide)) (@zb _ _ _ _) (by with_unfolding_all rfl)))))))) (@zk _ _ _ (@zy _ _ _ _ (@zav _ _ _ _))) (@zK _)) (by exact (@zf _ _ _ _ _ (@zan _ _ _ _ _ _ _ _ (@PW.pt _ _ _ (@zaF _ _ _ _ _ _ _ (@zV _ _ _ _ _ _ _ _ (@zfL _ hu) (@zbx _ _ _ _ _ _ _ _ _ _ _ _ _ (CompSc.of (N':=["j","p"]) (ix:=[none,some 1]) (zj z9) ["thing","p","k","places"] rfl rfl (by decide +kernel)) rfl (@zbw _ _ rfl) (@zcK _ _ _ _ _ _ _ rfl T.range_ (@za _ _ _ _ _ (@zb _ _ _ _) (@za _ _ _ _ _ (@zb _ _ _ _) (@zd _) (by rfl)) (by rfl)) (by rfl) (by rfl)) (fun _ _ _ _=>(@zL _ _ (0) _ (show (["j","p"]:List Str).Nodup by decide +kernel) rfl (Or.inl rfl) (by trivial))) (fun _ _ _ _=>(@zdx _ _ _ (@PW.pt _ _ _ (@zg1 _ _ _ _ _ _ _ (@zV _ _ _ _ _ _ _ _ (@zfB _) (@zg _ _ _ _ _ _ _ _ (@zE _) (@L2.pv _ 1 _ _ (by rfl) (by first | exact Or.inl rfl | exact Or.inr (Or.inl rfl) | exact Or.inr (Or.inr rfl)) (by decide) (by decide)) (@L2.pv _ 0 _ _ (by rfl) (by first | exact Or.inl rfl | exact Or.inr (Or.inl rfl) | exact Or.inr (Or.inr rfl)) (by decide) (by decide))) (@zb _ _ _ _) (zX _)) (@zgg _ _ _ _ (@zV _ _ _ _ _ _ _ _ (@zdv _) (@L2.pv _ 1 _ _ (by rfl) (by first | exact Or.inl rfl | exact Or.inr (Or.inl rfl) | exact Or.inr (Or.inr rfl)) (by decide) (by decide)) (@L2.pv _ 0 _ _ (by rfl) (by first | exact Or.inl rfl | exact Or.inr (Or.inl rfl) | exact Or.inr (Or.inr rfl)) (by decide) (by decide)) (zX _))))))) (fun _ _ _ _=>(@L2.pv _ 0 _ _ (by rfl) (by first | exact Or.inl rfl | exact Or.inr (Or.inl rfl) | exact Or.inr (Or.inr rfl)) (by decide) (by decide))) (by intro _; rfl)) (@zY _ _ _ _ (@zd _)) (zX _)) (@zaI _ _ _ _ (@zU _ _ _ _ (@zaC _ _ _ _ _ _ _ _ _ _ _ _ (@za4 _) (@zbV _) (@L2.pv _ 2 _ _ (by rfl) (by first | exact Or.inl rfl | exact Or.inr (Or.inl rfl) | exact Or.inr (Or.inr rfl)) (by decide) (by decide)) (@zl _ _ _ _ _ _ _ _ _ (@zw _) (by rfl) T.len_ boot_len (@za _ _ _ _ _ (@L2.pv _ 3 _ _ (by rfl) (by first | exact Or.inl rfl | exact Or.inr (Or.inl rfl) | exact Or.inr (Or.inr rfl)) (by decide) (by decide)) (@zd _) (by rfl)) (by decide) (by decide) (by rfl) (by rfl)) (@zb _ _ _ _) (by with_unfolding_all rfl)))))) (@zk _ _ _ (@zy _ _ _ _ (@zav _ _ _ _))) (@zK _)) (by exact (@zf _ _ _ _ _ (@zan _ _ _ _ _ _ _ _ (@zV _ _ _ _ _ _ _ _ (@zfL _ hu) (@zbx _ _ _ _ _ _ _ _ _ _ _ _ _ (CompSc.of (N':=["place","p"]) (ix:=[none,some 1]) (zj z9) ["thing","p","k","places"] rfl rfl (by decide +kernel)) rfl (@zbw _ _ rfl) (@zfw _ _ _ _ (@L2.pv _ 3 _ _ (by rfl) (by first | exact Or.inl rfl | exact Or.inr (Or.inl rfl) | exact Or.inr (Or.inr rfl)) (by decide) (by decide))) (fun _ _ _ _=>(@zL _ _ (0) _ (show (["place","p"]:List Str).Nodup by decide +kernel) rfl (Or.inl rfl) (by trivial))) (fun _ _ _ _=>(@zdx _ _ _ (@PW.pt _ _ _ (@zaF _ _ _ _ _ _ _ (@zU _ _ _ _ (@zat _ _ _ (@zD _ _ _ _ _ _ _ _ _ _ _ _ _ _ _ _ G_l_whole (hr.mono (by decide)) rfl T.m_l_whole F_l_whole.kp b_l_whole .nil (@zae _) (@za _ _ _ _ _ (@L2.pv _ 0 _ _ (by rfl) (by first | exact Or.inl rfl | exact Or.inr (Or.inl rfl) | exact Or.inr (Or.inr rfl)) (by decide) (by decide)) (@zd _) (by rfl)) (by decide) (by rfl) (by rfl)) (by intro _; rfl))) (@zaI _ _ _ _ (@zU _ _ _ _ (@zaC _ _ _ _ _ _ _ _ _ _ _ _ (@za4 _) (@zbV _) (@zb _ _ _ _) (@L2.pv _ 0 _ _ (by rfl) (by first | exact Or.inl rfl | exact Or.inr (Or.inl rfl) | exact Or.inr (Or.inr rfl)) (by decide) (by decide)) (@L2.pv _ 1 _ _ (by rfl) (by first | exact Or.inl rfl | exact Or.inr (Or.inl rfl) | exact Or.inr (Or.inr rfl)) (by decide) (by decide)) (by with_unfolding_all rfl)))))))) (fun _ _ _ _=>(@L2.pv _ 0 _ _ (by rfl) (by first | exact Or.inl rfl | exact Or.inr (Or.inl rfl) | exact Or.inr (Or.inr rfl)) (by decide) (by decide))) (by intro _; rfl)) (@zY _ _ _ _ (@zd _)) (zX _)) (@zk _ _ _ (@zy _ _ _ _ (@zav _ _ _ _))) (@zK _)) (by exact (@zk _ _ _ (@zy _ _ _ _ (@zc5 _ _ _ _ _ _ _ _ (@zhd _ hu) (zdl rfl rfl T.sorted_ rfl T.set_ (@za _ _ _ _ _ (@L2.pv _ 3 _ _ (by rfl) (by first | exact Or.inl rfl | exact Or.inr (Or.inl rfl) | exact Or.inr (Or.inr rfl)) (by decide) (by decide)) (@zd _) (by rfl))) (@zl _ _ _ _ _ _ _ _ _ zcF (by rfl) T.sorted_ boot_sorted (@za _ _ _ _ _ (@L2.pv _ 3 _ _ (by rfl) (by first | exact Or.inl rfl | exact Or.inr (Or.inl rfl) | exact Or.inr (Or.inr rfl)) (by decide) (by decide)) (@zd _) (by rfl)) (by decide) (by decide) (by rfl) (by rfl)) (zX _)))))))))))))),?_⟩
  have hsl:=sizeLine_eq
  have q0:=q H (fun _ _ e=>e)
  obtain⟨ty,ht,hy⟩:=zcd (K:=K) hv.1
  refine⟨_,rfl,_,_,_,_,rfl,ht,hy,_,rfl,?_⟩
  unfold codeB at q q0
  cases et:z6 H v with
  | none =>
   rw [et] at q0
   exact zah q0
  | some ws =>
  obtain⟨c,rfl,hH⟩:=zbK et
  obtain⟨hl,hx⟩:=hv.2 ws et
  rw [et] at q0 q
  replace q:∀ H',zR H H'→Q (.bl (za1 H ws)) H':=q
  replace q0:Q (.bl (za1 H ws)) H:=q0
  refine zal ?_
  refine⟨_,rfl,c,_,rfl,.inr (SqT.of hH),rfl,_,rfl,?_⟩
  by_cases h3:ws.length=3
  ·obtain⟨x,y,z,rfl⟩:=zhT h3
   refine zal ?_
   have ax:=(hx x (by simp)).1
   have ay:=(hx y (by simp)).1
   have az:=hx z (by simp)
   obtain⟨ty2,ht2,hy2⟩:=zcd (K:=K) az.1
   refine⟨_,rfl,c,_,_,_,rfl,rfl,SqT.of hH,rfl,_,_,_,_,rfl,ht2,hy2,_,rfl,?_⟩
   have eL:za1 H [x,y,z]=zaO H x y z:=rfl
   rw [eL] at q q0
   unfold zaO at q q0
   cases ez:z6 H z with
   | none =>
    rw [ez,show zbL (iOf x) (iOf y) none=false from rfl,Bool.and_false,Bool.and_false] at q0
    exact zah q0
   | some xs =>
   obtain⟨tt,rfl,hz⟩:=zbK ez
   obtain⟨hl2,hx2⟩:=az.2 xs ez
   rw [ez,show zbL (iOf x) (iOf y) (some xs)=zn (iOf x) (iOf y) xs from rfl] at q q0
   refine zal ?_
   refine⟨_,rfl,c,_,rfl,SqT.of hH,rfl,_,_,rfl,_,_,rfl,_,_,rfl,rfl,?_⟩
   refine⟨_,rfl,x,rfl,ax,_,rfl,?_⟩
   cases hw:isW x with
   | false =>
    rw [show zaK x=false by cases x <;> simp_all [isW,zaK],Bool.false_and] at q0
    exact zah q0
   | true =>
   obtain⟨p,rfl⟩:=zbb hw
   refine zal ?_
   refine⟨_,rfl,y,rfl,ay,_,rfl,?_⟩
   cases hw2:isW y with
   | false =>
    rw [show kB y=false by cases y <;> simp_all [isW,kB],Bool.false_and,Bool.and_false] at q0
    exact zah q0
   | true =>
   obtain⟨k,rfl⟩:=zbb hw2
   replace q:∀ H',zR H H'→Q (.bl (decide (p∈zr) && ((decide (1≤k) && decide (k≤5)) && zn p k xs))) H':=q
   replace q0:Q (.bl (decide (p∈zr) && ((decide (1≤k) && decide (k≤5)) && zn p k xs))) H:=q0
   refine zal ?_
   refine⟨_,rfl,_,_,rfl,rfl,_,rfl,zaR (fun h1=>?_) (fun h1=>?_)⟩
   rotate_left
   ·rw [decide_eq_false (show ¬ p∈zr from fun z=>h1 (decide_eq_true (zaA z).1)),Bool.false_and] at q0
    exact⟨_,rfl,zah q0⟩
   have h5:5≤p:=of_decide_eq_true h1
   refine⟨_,_,rfl,rfl,_,rfl,?_⟩
   by_cases h98:p < 98
   rotate_left
   ·rw [decide_eq_false (show ¬ p∈zr from fun z=>h98 (by have:=(zaA z).2; omega)),Bool.false_and] at q0
    rw [decide_eq_false h98]
    exact zah q0
   rw [decide_eq_true h98]
   refine zal ?_
   refine⟨_,rfl,_,_,rfl,rfl,_,rfl,zaR (fun h1=>?_) (fun h1=>?_)⟩
   rotate_left
   ·rw [Bool.eq_false_iff.mpr h1,Bool.false_and,Bool.false_and,Bool.and_false] at q0
    exact⟨_,rfl,zah q0⟩
   have k1:1≤k:=of_decide_eq_true h1
   refine⟨_,_,rfl,rfl,_,rfl,?_⟩
   by_cases h6:k < 6
   rotate_left
   ·rw [decide_eq_false (show ¬ k≤5 by omega),Bool.and_false,Bool.false_and,Bool.and_false] at q0
    rw [decide_eq_false h6]
    exact zah q0
   rw [decide_eq_true h6]
   rw [decide_eq_true k1,decide_eq_true (show k≤5 by omega),Bool.true_and,Bool.true_and] at q0
   replace q:∀ H',zR H H'→Q (.bl (decide (p∈zr) && zn p k xs)) H':=fun H' s'=>by
    have:=q H' s'
    rwa [decide_eq_true k1,decide_eq_true (show k≤5 by omega),Bool.true_and,Bool.true_and] at this
   refine zal ?_
   refine⟨2,10,rfl,⟨by decide,by decide,by decide,by decide⟩,zbv (n:=8) (fun i ys H'=>ys=(dv p i).map V.int∧H'=H) ⟨rfl,rfl⟩ (fun i ys H' hi _=>hi) (fun ys H' _=>Nat.le_refl _) ?_ ?_⟩
   ·rintro i xx ys H3 H4 hi ⟨rfl,rfl⟩ ⟨rfl,rfl⟩
    have hdl:=zho p i
    have e1:decide (V.int (p % (2+(i:Int)))=V.int 0)=decide (p % (2+(i:Int))=0):=by simp
    have e2:decide (V.int p=V.int (2+(i:Int)))=decide (p=2+(i:Int)):=by simp
    refine⟨_,rfl,_,rfl,_,_,rfl,rfl,by omega,rfl,?_⟩
    rw [e1]
    refine⟨_,rfl,zaR (fun c1=>?_) (fun c1=>?_)⟩
    ·refine⟨_,rfl,_,rfl,rfl,?_⟩
     rw [e2]
     refine⟨_,rfl,zaR (fun c2=>?_) (fun c2=>?_)⟩
     ·refine⟨_,rfl,by rw [List.length_map]; omega,?_,rfl⟩
      rw [zdo,c1,c2,List.map_append]
      rfl
     ·refine⟨?_,rfl⟩
      rw [zdo,c1,Bool.eq_false_iff.mpr c2,List.map_append]
      exact (List.append_nil _).symm
    ·refine zal ⟨?_,rfl⟩
     rw [zdo,Bool.eq_false_iff.mpr c1,List.map_append]
     exact (List.append_nil _).symm
   rintro ys H3 D ⟨rfl,rfl⟩ hD
   refine⟨by show 0≤sizeLine; omega,fun e0 he0=>?_⟩
   refine zgT (SqL.of ((ze he0) _ _ zc)) (SqL.of zc) ⟨_,rfl,?_⟩
   have s1:=(ze (o:=.lst ((dv p 8).map V.int)) hD).trans (ze (o:=.lst []) he0)
   generalize upd (upd H3 D (.lst ((dv p 8).map V.int))) e0 (.lst [])=H4 at s1 ⊢
   have e9:((dv p 8).map V.int).isEmpty=decide (p∈zr):=by rw [List.isEmpty_map]; exact zgb h5 (by omega)
   rw [e9]
   have q4:=q H4 s1
   cases ep:decide (p∈zr) with
   | false =>
    rw [ep,Bool.false_and] at q4
    exact zah q4
   | true =>
   rw [ep,Bool.true_and] at q4
   replace q:∀ H',zR H3 H'→Q (.bl (zn p k xs)) H':=fun H' s'=>by
    have:=q H' s'
    rwa [ep,Bool.true_and] at this
   refine zal ?_
   have hz4:=s1 _ _ hz
   refine⟨_,rfl,_,rfl,tt,_,rfl,.inr (SqT.of hz4),_,_,rfl,rfl,_,rfl,zaR (fun h7=>?_) (fun h7=>?_)⟩
   rotate_left
   ·rw [show zn p k xs=false by unfold zn; rw [Bool.eq_false_iff.mpr h7,Bool.false_and]] at q4
    exact⟨_,rfl,zah q4⟩
   refine⟨_,_,rfl,rfl,_,rfl,?_⟩
   by_cases h17:(xs.length:Int) < 17
   rotate_left
   ·rw [show zn p k xs=false by unfold zn; rw [decide_eq_false (show ¬ xs.length≤16 by omega),Bool.false_and,Bool.and_false]] at q4
    rw [decide_eq_false h17]
    exact zah q4
   rw [decide_eq_true h17]
   refine zal ?_
   have eP:zn p k xs=(xs.all (zac p) && decide xs.Nodup):=by unfold zn; rw [h7,decide_eq_true (show xs.length≤16 by omega),Bool.true_and,Bool.true_and]
   rw [eP] at q
   refine⟨_,rfl,tt,rfl,⟨_,SqT.of hz4⟩,zfn (K:=K) (xs:=xs) (kp:=fun x=>!zac p x) (f:=id) (SqT.of hz4) (by omega) ?_ ?_⟩
   ·intro i x R B hxi hR
    have hxA:=(hx2 x (List.mem_of_getElem? hxi)).same s1
    refine⟨_,rfl,x,rfl,hxA,_,rfl,?_⟩
    cases hw3:isW x with
    | false =>
     rw [show zac p x=false by cases x <;> simp_all [isW,zac]] at hR
     exact zah ⟨_,rfl,hR⟩
    | true =>
    obtain⟨n,rfl⟩:=zbb hw3
    refine zal ?_
    replace hR:if (!zac p (.int n))=true then R (.int n) H4 else B H4:=hR
    refine⟨_,rfl,_,_,rfl,rfl,_,rfl,zaR (fun h8=>?_) (fun h8=>?_)⟩
    ·refine⟨_,rfl,_,_,rfl,rfl,_,rfl,?_⟩
     rw [show zac p (.int n)=decide (n < p) by simp only [zac]; rw [h8]; rfl] at hR
     cases hc:decide (n < p) with
     | true =>
      rw [hc] at hR
      exact zal hR
     | false =>
      rw [hc] at hR
      exact zah ⟨_,rfl,hR⟩
    ·rw [show zac p (.int n)=false by simp only [zac]; rw [Bool.eq_false_iff.mpr h8]; rfl] at hR
     exact⟨_,rfl,zah ⟨_,rfl,hR⟩⟩
   intro D2 hD2
   refine⟨by show 0≤sizeLine; omega,fun e1 he1=>?_⟩
   refine zgT (SqL.of ((ze he1) _ _ zc)) (SqL.of zc) ⟨_,rfl,?_⟩
   have s2:=s1.trans ((ze (o:=.lst ((xs.filter fun x=>!zac p x).map id)) hD2).trans (ze (o:=.lst []) he1))
   generalize upd (upd H4 D2 (.lst ((xs.filter fun x=>!zac p x).map id))) e1 (.lst [])=H5 at s2 ⊢
   rw [zgd]
   have q5:=q H5 s2
   cases ea:xs.all (zac p) with
   | false =>
    rw [ea,Bool.false_and] at q5
    exact zah q5
   | true =>
   rw [ea,Bool.true_and] at q
   obtain⟨ns,rfl,hn⟩:=zdn ea
   rw [List.length_map] at h17
   refine zal ?_
   refine⟨_,rfl,tt,ns,rfl,SqT.of (s2 _ _ hz),by omega,fun n hn'=>by have:=hn n hn'; omega,fun l ms hl pm so=>?_⟩
   refine⟨_,rfl,tt,ns,rfl,SqT.of ((ze hl) _ _ (s2 _ _ hz)),fun l' ms' hl' pm' so'=>?_⟩
   refine ze0 (.inl ⟨SqL.of ((ze hl') _ _ zc),SqL.of zc⟩) ?_
   have e10:decide ((ns.map V.int).Nodup)=decide (ms=ms'):=decide_eq_decide.mpr (by rw [zbq]; exact (zcG pm pm' so so').symm)
   rw [e10] at q
   exact q _ (s2.trans ((ze hl).trans (ze hl')))
  ·have e1:(!decide (V.int (ws.length:Nat)=V.int 3))=true:=by
    rw [decide_eq_false]
    ·rfl
    ·intro z
     injection z with z
     exact h3 (Int.ofNat.inj z)
   rw [zc2 h3] at q0
   rw [e1]
   exact zah q0
end
end My
end
section
set_option maxHeartbeats 3999000
namespace My
open PySem L2 PyProof.Rows
section
variable {P:Program} {w:World} {K:PySem.W.Frag} {mg:Str→Option Value} {base:Heap} {t:Adr}
theorem zG:FnScope ["code","row","p","k","places","at","way","odd","other","some"] ["code","row"] (zj zaZ):=⟨rfl,rfl,rfl,by decide +kernel,rfl,by decide +kernel,by decide +kernel⟩
theorem zdS {fd:FuncData} (T:Txt K mg t) (F:Fun K "_law_spoilt" "_law_spoilt" zaZ t.l_spoilt fd):FnOk P w K mg base CX0 2 t.l_spoilt fd ["code","row"] (zdO K):=by
 obtain⟨fd_l_any,F_l_any,b_l_any⟩:=T.f_l_any
 have G_l_any:=zdR (P:=P) (w:=w) (base:=base) T F_l_any
 refine F.ok zG (fun vs H Q E h=>?_) (fun cdv A outer s H vs Q E hr h=>?_)
 ·obtain⟨c,tt,r,p,k,pl,rs,rfl,_⟩:=h
  rfl
 ·obtain⟨c,tt,r,p,k,pl,rs,rfl,hc,hne,hpl,hS,hrl,hrs,q⟩:=h
  refine⟨_,(@zf _ _ _ _ _ (@zdW _ _ _ _ _ _ (@L2.pv _ 0 _ _ (by rfl) (by first | exact Or.inl rfl | exact Or.inr (Or.inl rfl) | exact Or.inr (Or.inr rfl)) (by decide) (by decide)) (@zdV _ _ _ _ _ _ rfl (@zaf _ _ _ _ _ (@zL _ _ (2) _ zG.nd rfl (Or.inl rfl) (by trivial)) (@zaf _ _ _ _ _ (@zL _ _ (3) _ zG.nd rfl (Or.inl rfl) (by trivial)) (@zaf _ _ _ _ _ (@zL _ _ (4) _ zG.nd rfl (Or.inl rfl) (by trivial)) (@zc4 _) (by rfl)) (by rfl)) (by rfl)) (by rfl) (by rfl)) (by rfl) (by rfl) (by rfl)) (by exact (@zf _ _ _ _ _ (@zA _ _ (5) _ _ _ _ zG.nd rfl (Or.inl rfl) (@zg _ _ _ _ _ _ _ _ (@zE _) (@zH _ _ _ _ _ _ _ (@zp _) (@L2.pv _ 1 _ _ (by rfl) (by first | exact Or.inl rfl | exact Or.inr (Or.inl rfl) | exact Or.inr (Or.inr rfl)) (by decide) (by decide)) (@zb _ _ _ _) (fun _ _=>rfl)) (@zl _ _ _ _ _ _ _ _ _ (@zw _) (by rfl) T.len_ boot_len (@za _ _ _ _ _ (@L2.pv _ 4 _ _ (by rfl) (by first | exact Or.inl rfl | exact Or.inr (Or.inl rfl) | exact Or.inr (Or.inr rfl)) (by decide) (by decide)) (@zd _) (by rfl)) (by decide) (by decide) (by rfl) (by rfl))) (by rfl) (by trivial)) (by exact (@zf _ _ _ _ _ (@zA _ _ (6) _ _ _ _ zG.nd rfl (Or.inl rfl) (@zg _ _ _ _ _ _ _ _ (@zE _) (@zH _ _ _ _ _ _ _ (@zp _) (@L2.pv _ 1 _ _ (by rfl) (by first | exact Or.inl rfl | exact Or.inr (Or.inl rfl) | exact Or.inr (Or.inr rfl)) (by decide) (by decide)) (@zb _ _ _ _) (fun _ _=>rfl)) (@zb _ _ _ _)) (by rfl) (by trivial)) (by exact (@zf _ _ _ _ _ (@zA _ _ (7) _ _ _ _ zG.nd rfl (Or.inl rfl) (@zD _ _ _ _ _ _ _ _ _ _ _ _ _ _ _ _ G_l_any (hr.mono (by decide)) rfl T.m_l_any F_l_any.kp b_l_any .nil (@zae _) (@za _ _ _ _ _ (@zH _ _ _ _ _ _ _ (@zp _) (@L2.pv _ 1 _ _ (by rfl) (by first | exact Or.inl rfl | exact Or.inr (Or.inl rfl) | exact Or.inr (Or.inr rfl)) (by decide) (by decide)) (@zb _ _ _ _) (fun _ _=>rfl)) (@zd _) (by rfl)) (by decide) (by rfl) (by rfl)) (by rfl) (by trivial)) (by exact (@zf _ _ _ _ _ (@zan _ _ _ _ _ _ _ _ (@zV _ _ _ _ _ _ _ _ (@zbV _) (@L2.pv _ 6 _ _ (by rfl) (by first | exact Or.inl rfl | exact Or.inr (Or.inl rfl) | exact Or.inr (Or.inr rfl)) (by decide) (by decide)) (@zb _ _ _ _) (zX _)) (@zk _ _ _ (@zy _ _ _ _ (@zH _ _ _ _ _ _ _ (@zp _) (@zY _ _ _ _ (@za _ _ _ _ _ (@zN _ _ _ _ _ (@za _ _ _ _ _ (@L2.pv _ 7 _ _ (by rfl) (by first | exact Or.inl rfl | exact Or.inr (Or.inl rfl) | exact Or.inr (Or.inr rfl)) (by decide) (by decide)) (@za _ _ _ _ _ (@L2.pv _ 3 _ _ (by rfl) (by first | exact Or.inl rfl | exact Or.inr (Or.inl rfl) | exact Or.inr (Or.inr rfl)) (by decide) (by decide)) (@za _ _ _ _ _ (@L2.pv _ 4 _ _ (by rfl) (by first | exact Or.inl rfl | exact Or.inr (Or.inl rfl) | exact Or.inr (Or.inr rfl)) (by decide) (by decide)) (@zd _) (by rfl)) (by rfl)) (by rfl))) (@za _ _ _ _ _ (@zN _ _ _ _ _ (@za _ _ _ _ _ (@L2.pv _ 2 _ _ (by rfl) (by first | exact Or.inl rfl | exact Or.inr (Or.inl rfl) | exact Or.inr (Or.inr rfl)) (by decide) (by decide)) (@za _ _ _ _ _ (@L2.pv _ 7 _ _ (by rfl) (by first | exact Or.inl rfl | exact Or.inr (Or.inl rfl) | exact Or.inr (Or.inr rfl)) (by decide) (by decide)) (@za _ _ _ _ _ (@L2.pv _ 4 _ _ (by rfl) (by first | exact Or.inl rfl | exact Or.inr (Or.inl rfl) | exact Or.inr (Or.inr rfl)) (by decide) (by decide)) (@zd _) (by rfl)) (by rfl)) (by rfl))) (@za _ _ _ _ _ (@zN _ _ _ _ _ (@za _ _ _ _ _ (@L2.pv _ 2 _ _ (by rfl) (by first | exact Or.inl rfl | exact Or.inr (Or.inl rfl) | exact Or.inr (Or.inr rfl)) (by decide) (by decide)) (@za _ _ _ _ _ (@L2.pv _ 3 _ _ (by rfl) (by first | exact Or.inl rfl | exact Or.inr (Or.inl rfl) | exact Or.inr (Or.inr rfl)) (by decide) (by decide)) (@za _ _ _ _ _ (@L2.pv _ 7 _ _ (by rfl) (by first | exact Or.inl rfl | exact Or.inr (Or.inl rfl) | exact Or.inr (Or.inr rfl)) (by decide) (by decide)) (@zd _) (by rfl)) (by rfl)) (by rfl))) (@zd _) (by rfl)) (by rfl)) (by rfl))) (@L2.pv _ 6 _ _ (by rfl) (by first | exact Or.inl rfl | exact Or.inr (Or.inl rfl) | exact Or.inr (Or.inr rfl)) (by decide) (by decide)) (fun _ _=>rfl)))) (@zK _)) (by exact (@zf _ _ _ _ _ (@zan _ _ _ _ _ _ _ _ (@zV _ _ _ _ _ _ _ _ (@zbV _) (@L2.pv _ 6 _ _ (by rfl) (by first | exact Or.inl rfl | exact Or.inr (Or.inl rfl) | exact Or.inr (Or.inr rfl)) (by decide) (by decide)) (@zb _ _ _ _) (zX _)) (@zf _ _ _ _ _ (@zA _ _ (8) _ _ _ _ zG.nd rfl (Or.inl rfl) (@zH _ _ _ _ _ _ _ (@zp _) (@zY _ _ _ _ (@za _ _ _ _ _ (@L2.pv _ 7 _ _ (by rfl) (by first | exact Or.inl rfl | exact Or.inr (Or.inl rfl) | exact Or.inr (Or.inr rfl)) (by decide) (by decide)) (@za _ _ _ _ _ (@zg _ _ _ _ _ _ _ _ (@zQ _) (@zH _ _ _ _ _ _ _ (@zbP _) (@L2.pv _ 4 _ _ (by rfl) (by first | exact Or.inl rfl | exact Or.inr (Or.inl rfl) | exact Or.inr (Or.inr rfl)) (by decide) (by decide)) (@L2.pv _ 5 _ _ (by rfl) (by first | exact Or.inl rfl | exact Or.inr (Or.inl rfl) | exact Or.inr (Or.inr rfl)) (by decide) (by decide)) (fun _ _=>rfl)) (@zH _ _ _ _ _ _ _ (@zp _) (@zY _ _ _ _ (@za _ _ _ _ _ (@zb _ _ _ _) (@za _ _ _ _ _ (@zfy _ _ _ _ _ _ zd1 (@zb _ _ _ _)) (@za _ _ _ _ _ (@L2.pv _ 2 _ _ (by rfl) (by first | exact Or.inl rfl | exact Or.inr (Or.inl rfl) | exact Or.inr (Or.inr rfl)) (by decide) (by decide)) (@zd _) (by rfl)) (by rfl)) (by rfl))) (@zg _ _ _ _ _ _ _ _ (@zE _) (@zH _ _ _ _ _ _ _ (@zp _) (@L2.pv _ 1 _ _ (by rfl) (by first | exact Or.inl rfl | exact Or.inr (Or.inl rfl) | exact Or.inr (Or.inr rfl)) (by decide) (by decide)) (@zb _ _ _ _) (fun _ _=>rfl)) (@zb _ _ _ _)) (fun _ _=>rfl))) (@za _ _ _ _ _ (@zH _ _ _ _ _ _ _ (@zbP _) (@L2.pv _ 4 _ _ (by rfl) (by first | exact Or.inl rfl | exact Or.inr (Or.inl rfl) | exact Or.inr (Or.inr rfl)) (by decide) (by decide)) (@zg _ _ _ _ _ _ _ _ (@zE _) (@zH _ _ _ _ _ _ _ (@zp _) (@L2.pv _ 1 _ _ (by rfl) (by first | exact Or.inl rfl | exact Or.inr (Or.inl rfl) | exact Or.inr (Or.inr rfl)) (by decide) (by decide)) (@zb _ _ _ _) (fun _ _=>rfl)) (@zl _ _ _ _ _ _ _ _ _ (@zw _) (by rfl) T.len_ boot_len (@za _ _ _ _ _ (@L2.pv _ 4 _ _ (by rfl) (by first | exact Or.inl rfl | exact Or.inr (Or.inl rfl) | exact Or.inr (Or.inr rfl)) (by decide) (by decide)) (@zd _) (by rfl)) (by decide) (by decide) (by rfl) (by rfl))) (fun _ _=>rfl)) (@zd _) (by rfl)) (by rfl)) (by rfl))) (@zg _ _ _ _ _ _ _ _ (@zd0 _) (@L2.pv _ 6 _ _ (by rfl) (by first | exact Or.inl rfl | exact Or.inr (Or.inl rfl) | exact Or.inr (Or.inr rfl)) (by decide) (by decide)) (@zb _ _ _ _)) (fun _ _=>rfl)) (by rfl) (by trivial)) (by exact (@zk _ _ _ (@zy _ _ _ _ (@zN _ _ _ _ _ (@za _ _ _ _ _ (@L2.pv _ 2 _ _ (by rfl) (by first | exact Or.inl rfl | exact Or.inr (Or.inl rfl) | exact Or.inr (Or.inr rfl)) (by decide) (by decide)) (@za _ _ _ _ _ (@L2.pv _ 3 _ _ (by rfl) (by first | exact Or.inl rfl | exact Or.inr (Or.inl rfl) | exact Or.inr (Or.inr rfl)) (by decide) (by decide)) (@za _ _ _ _ _ (@zg _ _ _ _ _ _ _ _ zdm (@zg _ _ _ _ _ _ _ _ (@zgJ _) (@za5 _ _ _ _ _ _ _ _ _ _ zcc (@L2.pv _ 4 _ _ (by rfl) (by first | exact Or.inl rfl | exact Or.inr (Or.inl rfl) | exact Or.inr (Or.inr rfl)) (by decide) (by decide)) (@zb5 _) (@zba _ _ _ (@L2.pv _ 5 _ _ (by rfl) (by first | exact Or.inl rfl | exact Or.inr (Or.inl rfl) | exact Or.inr (Or.inr rfl)) (by decide) (by decide)))) (@zN _ _ _ _ _ (@za _ _ _ _ _ (@L2.pv _ 8 _ _ (by rfl) (by first | exact Or.inl rfl | exact Or.inr (Or.inl rfl) | exact Or.inr (Or.inr rfl)) (by decide) (by decide)) (@zd _) (by rfl)))) (@za5 _ _ _ _ _ _ _ _ _ _ zcc (@L2.pv _ 4 _ _ (by rfl) (by first | exact Or.inl rfl | exact Or.inr (Or.inl rfl) | exact Or.inr (Or.inr rfl)) (by decide) (by decide)) (@zba _ _ _ (@zg _ _ _ _ _ _ _ _ (@zQ _) (@L2.pv _ 5 _ _ (by rfl) (by first | exact Or.inl rfl | exact Or.inr (Or.inl rfl) | exact Or.inr (Or.inr rfl)) (by decide) (by decide)) (@zb _ _ _ _))) (@zb5 _))) (@zd _) (by rfl)) (by rfl)) (by rfl))))))) (@zK _)) (by exact (@zf _ _ _ _ _ (@zA _ _ (9) _ _ _ _ zG.nd rfl (Or.inl rfl) (@zY _ _ _ _ (@za _ _ _ _ _ (@zN _ _ _ _ _ (@za _ _ _ _ _ (@L2.pv _ 2 _ _ (by rfl) (by first | exact Or.inl rfl | exact Or.inr (Or.inl rfl) | exact Or.inr (Or.inr rfl)) (by decide) (by decide)) (@za _ _ _ _ _ (@L2.pv _ 3 _ _ (by rfl) (by first | exact Or.inl rfl | exact Or.inr (Or.inl rfl) | exact Or.inr (Or.inr rfl)) (by decide) (by decide)) (@za _ _ _ _ _ (@zak _ _ _ _ _ _ _ _ _ (@zc7 _) (by rfl) T.list_ boot_list (@za _ _ _ _ _ (@L2.pv _ 4 _ _ (by rfl) (by first | exact Or.inl rfl | exact Or.inr (Or.inl rfl) | exact Or.inr (Or.inr rfl)) (by decide) (by decide)) (@zd _) (by rfl)) (by decide) (by decide) (by rfl) (by rfl)) (@zd _) (by rfl)) (by rfl)) (by rfl))) (by exact (@za _ _ _ _ _ (@zY _ _ _ _ (@za _ _ _ _ _ (@L2.pv _ 2 _ _ (by rfl) (by first | exact Or.inl rfl | exact Or.inr (Or.inl rfl) | exact Or.inr (Or.inr rfl)) (by decide) (by decide)) (@za _ _ _ _ _ (@L2.pv _ 3 _ _ (by rfl) (by first | exact Or.inl rfl | exact Or.inr (Or.inl rfl) | exact Or.inr (Or.inr rfl)) (by decide) (by decide)) (@za _ _ _ _ _ (@L2.pv _ 4 _ _ (by rfl) (by first | exact Or.inl rfl | exact Or.inr (Or.inl rfl) | exact Or.inr (Or.inr rfl)) (by decide) (by decide)) (@zd _) (by rfl)) (by rfl)) (by rfl))) (by exact (@za _ _ _ _ _ (@zN _ _ _ _ _ (@za _ _ _ _ _ (@L2.pv _ 2 _ _ (by rfl) (by first | exact Or.inl rfl | exact Or.inr (Or.inl rfl) | exact Or.inr (Or.inr rfl)) (by decide) (by decide)) (@za _ _ _ _ _ (@L2.pv _ 3 _ _ (by rfl) (by first | exact Or.inl rfl | exact Or.inr (Or.inl rfl) | exact Or.inr (Or.inr rfl)) (by decide) (by decide)) (@zd _) (by rfl)) (by rfl))) (@za _ _ _ _ _ (@zN _ _ _ _ _ (@za _ _ _ _ _ (@L2.pv _ 2 _ _ (by rfl) (by first | exact Or.inl rfl | exact Or.inr (Or.inl rfl) | exact Or.inr (Or.inr rfl)) (by decide) (by decide)) (by exact (@za _ _ _ _ _ (@L2.pv _ 3 _ _ (by rfl) (by first | exact Or.inl rfl | exact Or.inr (Or.inl rfl) | exact Or.inr (Or.inr rfl)) (by decide) (by decide)) (@za _ _ _ _ _ (@L2.pv _ 4 _ _ (by rfl) (by first | exact Or.inl rfl | exact Or.inr (Or.inl rfl) | exact Or.inr (Or.inr rfl)) (by decide) (by decide)) (@za _ _ _ _ _ (@zb _ _ _ _) (@zd _) (by rfl)) (by rfl)) (by rfl))) (by rfl))) (@za _ _ _ _ _ (@zN _ _ _ _ _ (@za _ _ _ _ _ (@L2.pv _ 2 _ _ (by rfl) (by first | exact Or.inl rfl | exact Or.inr (Or.inl rfl) | exact Or.inr (Or.inr rfl)) (by decide) (by decide)) (@za _ _ _ _ _ (@L2.pv _ 3 _ _ (by rfl) (by first | exact Or.inl rfl | exact Or.inr (Or.inl rfl) | exact Or.inr (Or.inr rfl)) (by decide) (by decide)) (@za _ _ _ _ _ (@zg _ _ _ _ _ _ _ _ zdm (@L2.pv _ 4 _ _ (by rfl) (by first | exact Or.inl rfl | exact Or.inr (Or.inl rfl) | exact Or.inr (Or.inr rfl)) (by decide) (by decide)) (@za5 _ _ _ _ _ _ _ _ _ _ zcc (@L2.pv _ 4 _ _ (by rfl) (by first | exact Or.inl rfl | exact Or.inr (Or.inl rfl) | exact Or.inr (Or.inr rfl)) (by decide) (by decide)) (@zb5 _) (@zba _ _ _ (@zb _ _ _ _)))) (@zd _) (by rfl)) (by rfl)) (by rfl))) (@zd _) (by rfl)) (by rfl)) (by rfl))) (by rfl))) (by rfl))) (by rfl) (by trivial)) (by exact (@zf _ _ _ _ _ (@zA _ _ (9) _ _ _ _ zG.nd rfl (Or.inl rfl) (@zg _ _ _ _ _ _ _ _ (@zd6 _) (@L2.pv _ 9 _ _ (by rfl) (by first | exact Or.inl rfl | exact Or.inr (Or.inl rfl) | exact Or.inr (Or.inr rfl)) (by decide) (by decide)) (@zY _ _ _ _ (@za _ _ _ _ _ (@zN _ _ _ _ _ (@za _ _ _ _ _ (@L2.pv _ 2 _ _ (by rfl) (by first | exact Or.inl rfl | exact Or.inr (Or.inl rfl) | exact Or.inr (Or.inr rfl)) (by decide) (by decide)) (@za _ _ _ _ _ (@L2.pv _ 3 _ _ (by rfl) (by first | exact Or.inl rfl | exact Or.inr (Or.inl rfl) | exact Or.inr (Or.inr rfl)) (by decide) (by decide)) (@za _ _ _ _ _ (@zg _ _ _ _ _ _ _ _ zdm (@L2.pv _ 4 _ _ (by rfl) (by first | exact Or.inl rfl | exact Or.inr (Or.inl rfl) | exact Or.inr (Or.inr rfl)) (by decide) (by decide)) (@zN _ _ _ _ _ (@za _ _ _ _ _ (@L2.pv _ 2 _ _ (by rfl) (by first | exact Or.inl rfl | exact Or.inr (Or.inl rfl) | exact Or.inr (Or.inr rfl)) (by decide) (by decide)) (@zd _) (by rfl)))) (@zd _) (by rfl)) (by rfl)) (by rfl))) (@za _ _ _ _ _ (@zN _ _ _ _ _ (@za _ _ _ _ _ (@zg _ _ _ _ _ _ _ _ (@zQ _) (@zb _ _ _ _) (@zg _ _ _ _ _ _ _ _ (@zE _) (@zH _ _ _ _ _ _ _ (@zp _) (@L2.pv _ 1 _ _ (by rfl) (by first | exact Or.inl rfl | exact Or.inr (Or.inl rfl) | exact Or.inr (Or.inr rfl)) (by decide) (by decide)) (@zb _ _ _ _) (fun _ _=>rfl)) (@zb _ _ _ _))) (@za _ _ _ _ _ (@L2.pv _ 3 _ _ (by rfl) (by first | exact Or.inl rfl | exact Or.inr (Or.inl rfl) | exact Or.inr (Or.inr rfl)) (by decide) (by decide)) (@za _ _ _ _ _ (@L2.pv _ 4 _ _ (by rfl) (by first | exact Or.inl rfl | exact Or.inr (Or.inl rfl) | exact Or.inr (Or.inr rfl)) (by decide) (by decide)) (@zd _) (by rfl)) (by rfl)) (by rfl))) (@zd _) (by rfl)) (by rfl)))) (by rfl) (by trivial)) (by exact (@zk _ _ _ (@zy _ _ _ _ (@zH _ _ _ _ _ _ _ (@zp _) (@zg _ _ _ _ _ _ _ _ (@zd6 _) (@L2.pv _ 9 _ _ (by rfl) (by first | exact Or.inl rfl | exact Or.inr (Or.inl rfl) | exact Or.inr (Or.inr rfl)) (by decide) (by decide)) (@zY _ _ _ _ (@za _ _ _ _ _ (@zN _ _ _ _ _ (@za _ _ _ _ _ (@L2.pv _ 2 _ _ (by rfl) (by first | exact Or.inl rfl | exact Or.inr (Or.inl rfl) | exact Or.inr (Or.inr rfl)) (by decide) (by decide)) (@za _ _ _ _ _ (@zg _ _ _ _ _ _ _ _ (@zQ _) (@L2.pv _ 3 _ _ (by rfl) (by first | exact Or.inl rfl | exact Or.inr (Or.inl rfl) | exact Or.inr (Or.inr rfl)) (by decide) (by decide)) (@zH _ _ _ _ _ _ _ (@zp _) (@zY _ _ _ _ (@zao _ _ _ _ _ _ (by exact (@za _ _ _ _ _ (@zfy _ _ _ _ _ _ zd1 (@zb _ _ _ _)) (@za _ _ _ _ _ (@zb _ _ _ _) (@za _ _ _ _ _ (@zb _ _ _ _) (@zd _) (by rfl)) (by rfl)) (by rfl))))) (@zg _ _ _ _ _ _ _ _ (@zE _) (@zH _ _ _ _ _ _ _ (@zp _) (@L2.pv _ 1 _ _ (by rfl) (by first | exact Or.inl rfl | exact Or.inr (Or.inl rfl) | exact Or.inr (Or.inr rfl)) (by decide) (by decide)) (@zb _ _ _ _) (fun _ _=>rfl)) (@zb _ _ _ _)) (fun _ _=>rfl))) (@za _ _ _ _ _ (@za5 _ _ _ _ _ _ _ _ _ _ zcc (@L2.pv _ 4 _ _ (by rfl) (by first | exact Or.inl rfl | exact Or.inr (Or.inl rfl) | exact Or.inr (Or.inr rfl)) (by decide) (by decide)) (@zb5 _) (@zba _ _ _ (@zg _ _ _ _ _ _ _ _ (@zQ _) (@L2.pv _ 5 _ _ (by rfl) (by first | exact Or.inl rfl | exact Or.inr (Or.inl rfl) | exact Or.inr (Or.inr rfl)) (by decide) (by decide)) (@zb _ _ _ _)))) (@zd _) (by rfl)) (by rfl)) (by rfl))) (@zd _) (by rfl)))) (@zg _ _ _ _ _ _ _ _ (@zd0 _) (@L2.pv _ 6 _ _ (by rfl) (by first | exact Or.inl rfl | exact Or.inr (Or.inl rfl) | exact Or.inr (Or.inr rfl)) (by decide) (by decide)) (@zb _ _ _ _)) (fun _ _=>rfl)))))))))))))))))))),?_⟩
  have hsl:=sizeLine_eq
  have hn0:0 < pl.length:=List.length_pos_iff.mpr hne
  have rat:∀ m:Int,0≤m→m < 4→∃ d:Int,(0≤d∧d≤100000)∧atI (rs.map V.int) m=some (.int d):=fun m h0 h1=>by
   obtain⟨d,hd,e⟩:=zdc (ns:=rs) h0 (by omega)
   exact⟨d,hrs d hd,e⟩
  obtain⟨r0,b0,e0⟩:=rat 0 (by decide) (by decide)
  obtain⟨r1,b1,e1⟩:=rat 1 (by decide) (by decide)
  obtain⟨r2,b2,e2⟩:=rat 2 (by decide) (by decide)
  obtain⟨r3,b3,e3⟩:=rat 3 (by decide) (by decide)
  have lm:(((pl.map V.int).length:Nat):Int)=(pl.length:Int):=by rw [List.length_map]
  have hpos:(0:Int) < (((pl.map V.int).length:Nat):Int):=by omega
  refine⟨_,rfl,c,_,rfl,SqT.of hc.1,rfl,_,_,rfl,_,_,rfl,_,_,rfl,rfl,?_⟩
  refine⟨_,rfl,r,_,_,_,rfl,rfl,hS,e1,_,rfl,tt,_,rfl,.inr (SqT.of hc.2),_,_,rfl,rfl,hpos,?_⟩
  have a0:=Int.emod_nonneg r1 (show (((pl.map V.int).length:Nat):Int)≠0 by omega)
  have a1:=Int.emod_lt_of_pos r1 hpos
  refine⟨_,rfl,r,_,_,_,rfl,rfl,hS,e0,_,_,rfl,rfl,(by show (0:Int) < 14; decide),?_⟩
  have w0:=Int.emod_nonneg r0 (show (14:Int)≠0 by decide)
  have w1:=Int.emod_lt_of_pos r0 (show (0:Int) < 14 by decide)
  refine⟨_,rfl,r,_,_,_,rfl,rfl,hS,e2,r2,rfl,b2.1,b2.2,fun odd H1 s1 ao=>?_⟩
  have hS1:=s1.seq hS
  have hc1:=s1 _ _ hc.2
  have aI:∀ {H':Hp} (i:Int),An2 H' (.int i):=fun i=>An2.int i
  have aP:∀ {H':Hp},zR H1 H'→An2 H' (.ref tt):=fun s'=>An2.tup (s' _ _ hc1) (by rw [List.length_map]; omega) zas
  refine⟨_,rfl,_,_,rfl,rfl,_,rfl,zaR (fun h3=>?_) (fun h3=>?_)⟩
  ·have w3:r0 % 14 < 3:=of_decide_eq_true h3
   refine⟨_,rfl,_,rfl,_,rfl,by show 3≤sizeLine; omega,fun t1 ht1=>?_⟩
   have u1:=ze (o:=.tup [odd,.int k,.ref tt]) ht1
   have f1:upd H1 t1 (.tup [odd,.int k,.ref tt]) t1=some (.tup [odd,.int k,.ref tt]):=zc
   generalize upd H1 t1 (.tup [odd,.int k,.ref tt])=H2 at u1 f1 ⊢
   refine⟨_,rfl,_,rfl,_,rfl,by show 3≤sizeLine; omega,fun t2 ht2=>?_⟩
   have u2:=ze (o:=.tup [.int p,odd,.ref tt]) ht2
   have f2:upd H2 t2 (.tup [.int p,odd,.ref tt]) t2=some (.tup [.int p,odd,.ref tt]):=zc
   generalize upd H2 t2 (.tup [.int p,odd,.ref tt])=H3 at u2 f2 ⊢
   refine⟨_,rfl,_,rfl,_,rfl,by show 3≤sizeLine; omega,fun t3 ht3=>?_⟩
   have u3:=ze (o:=.tup [.int p,.int k,odd]) ht3
   have f3:upd H3 t3 (.tup [.int p,.int k,odd]) t3=some (.tup [.int p,.int k,odd]):=zc
   generalize upd H3 t3 (.tup [.int p,.int k,odd])=H4 at u3 f3 ⊢
   refine⟨by show 3≤sizeLine; omega,fun l hl=>?_⟩
   have u4:=ze (o:=.lst [.ref t1,.ref t2,.ref t3]) hl
   obtain⟨v,hv,ev⟩:=zcg (xs:=[.ref t1,.ref t2,.ref t3]) (k:=r0 % 14) w0 w3
   refine⟨_,rfl,l,_,_,_,rfl,rfl,SqL.of zc,ev,?_⟩
   have t14:=u1.trans (u2.trans (u3.trans u4))
   refine q v _ (s1.trans t14) ?_
   have ao2:=(ao.an2).same t14
   have aP4:=aP t14
   rcases (List.mem_cons.mp hv) with rfl | hv
   ·exact An3.three ((u2.trans (u3.trans u4)) _ _ f1) ao2 (aI k) aP4
   rcases (List.mem_cons.mp hv) with rfl | hv
   ·exact An3.three ((u3.trans u4) _ _ f2) (aI p) ao2 aP4
   rw [List.mem_singleton.mp hv]
   exact An3.three (u4 _ _ f3) (aI p) (aI k) ao2
  refine⟨_,rfl,_,_,rfl,rfl,_,rfl,zaR (fun h6=>?_) (fun h6=>?_)⟩
  ·have w3:¬ r0 % 14 < 3:=fun z=>h3 (decide_eq_true z)
   have w6:r0 % 14 < 6:=of_decide_eq_true h6
   obtain⟨pa,epa⟩:=zaT (ns:=pl) a0 (by omega)
   obtain⟨pb,epb⟩:=zaT (ns:=pl) (k:=r3 % (((pl.map V.int).length:Nat):Int)) (Int.emod_nonneg _ (by omega)) (by have:=Int.emod_lt_of_pos r3 hpos; omega)
   obtain⟨pc,epc⟩:=zaT (ns:=[1,-1,p]) (k:=r3 % 3) (Int.emod_nonneg _ (by decide)) (Int.emod_lt_of_pos _ (by decide))
   refine⟨_,rfl,_,rfl,_,rfl,tt,_,_,_,rfl,rfl,SqT.of hc1,epa,_,rfl,_,rfl,by show 3≤sizeLine; omega,fun l1 hl1=>?_⟩
   have u1:=ze (o:=.lst [.int 1,.int (-1),.int p]) hl1
   have f1:upd H1 l1 (.lst [.int 1,.int (-1),.int p]) l1=some (.lst ([1,-1,p].map V.int)):=zc
   show (fun H2=>_) (upd H1 l1 (.lst [.int 1,.int (-1),.int p]))
   generalize upd H1 l1 (.lst [.int 1,.int (-1),.int p])=H2 at u1 f1 ⊢
   refine⟨_,rfl,r,_,_,_,rfl,rfl,u1.seq hS1,e3,_,_,rfl,rfl,(by show (0:Int) < 3; decide),l1,_,_,_,rfl,rfl,SqL.of f1,epc,_,_,rfl,rfl,?_⟩
   refine⟨_,rfl,_,rfl,r,_,_,_,rfl,rfl,u1.seq hS1,e3,_,rfl,tt,_,rfl,.inr (SqT.of (u1 _ _ hc1)),_,_,rfl,rfl,hpos,tt,_,_,_,rfl,rfl,SqT.of (u1 _ _ hc1),epb,by show 3≤sizeLine; omega,fun l2 hl2=>?_⟩
   obtain⟨v,hv,ev⟩:=zcg (xs:=[odd,.int (pa+pc),.int pb]) (k:=r0 % 14 - 3) (by omega) (show _ < (3:Int) by omega)
   have hv1:Any1 H1 v:=by
    rcases (List.mem_cons.mp hv) with rfl | hv
    ·exact ao.1
    rcases (List.mem_cons.mp hv) with rfl | hv
    ·exact .int _
    rw [List.mem_singleton.mp hv]
    exact .int _
   have u2:=u1.trans (ze (o:=.lst [odd,.int (pa+pc),.int pb]) hl2)
   have f2:upd H2 l2 (.lst [odd,.int (pa+pc),.int pb]) l2=some (.lst [odd,.int (pa+pc),.int pb]):=zc
   refine⟨_,rfl,_,_,rfl,rfl,l2,_,_,_,rfl,rfl,SqL.of f2,ev,?_⟩
   generalize upd H2 l2 (.lst [odd,.int (pa+pc),.int pb])=H3 at u2 ⊢
   refine⟨_,rfl,_,rfl,_,rfl,_,rfl,_,rfl,tt,_,rfl,u2 _ _ hc1,fun x1 H4 u4 f4=>?_⟩
   refine⟨_,rfl,by show 1≤sizeLine; omega,fun x2 hx2=>?_⟩
   have u5:=u4.trans (ze (o:=.tup [v]) hx2)
   have f5:upd H4 x2 (.tup [v]) x2=some (.tup [v]):=zc
   have f5':=(ze (o:=.tup [v]) hx2) _ _ f4
   generalize upd H4 x2 (.tup [v])=H5 at u5 f5 f5' ⊢
   have hcl:(zaQ (pl.map V.int) none (some (r1 % (((pl.map V.int).length:Nat):Int)))).length≤16:=Nat.le_trans (zce _ _ _) (by rw [List.length_map]; exact hpl)
   have hcl2:(zaQ (pl.map V.int) (some (r1 % (((pl.map V.int).length:Nat):Int)+1)) none).length≤16:=Nat.le_trans (zce _ _ _) (by rw [List.length_map]; exact hpl)
   refine⟨x1,x2,_,_,rfl,rfl,f5',f5,by show _+1≤sizeLine; omega,by simp,fun x3 H6 u6 f6=>?_⟩
   have t6:=u2.trans (u5.trans u6)
   refine⟨_,rfl,_,rfl,_,_,rfl,rfl,_,rfl,tt,_,rfl,t6 _ _ hc1,fun x4 H7 u7 f7=>?_⟩
   refine⟨x3,x4,_,_,rfl,rfl,u7 _ _ f6,f7,by simp,by rw [List.length_append]; show _+1+_≤sizeLine; omega,fun x5 H8 u8 f8=>?_⟩
   have t8:=t6.trans (u7.trans u8)
   refine⟨by show 3≤sizeLine; omega,fun x6 hx6=>?_⟩
   have u9:=ze (o:=.tup [.int p,.int k,.ref x5]) hx6
   refine q _ _ (s1.trans (t8.trans u9)) (An3.three zc (aI p) (aI k) (An2.tup (u9 _ _ f8) ?_ ?_))
   ·rw [List.length_append,List.length_append]; show _+1+_≤1000; omega
   ·intro x hx
    rcases (List.mem_append.mp hx) with hx | hx
    ·rcases List.mem_append.mp hx with hx | hx
     ·exact zas x (zcf hx)
     ·rw [List.mem_singleton.mp hx]
      exact hv1.same (t8.trans u9)
    ·exact zas x (zcf hx)
  have w6:¬ r0 % 14 < 6:=fun z=>h6 (decide_eq_true z)
  obtain⟨pd,epd⟩:=zaT (ns:=[1,-1,2,4]) (k:=r3 % 4) (Int.emod_nonneg _ (by decide)) (Int.emod_lt_of_pos _ (by decide))
  refine⟨_,rfl,_,rfl,_,rfl,tt,_,rfl,.inr (SqT.of hc1),fun l1 hl1=>?_⟩
  have u1:=ze (o:=.lst (pl.map V.int)) hl1
  have f1:upd H1 l1 (.lst (pl.map V.int)) l1=some (.lst (pl.map V.int)):=zc
  generalize upd H1 l1 (.lst (pl.map V.int))=H2 at u1 f1 ⊢
  refine⟨by show 3≤sizeLine; omega,fun t1 ht1=>?_⟩
  have u2:=ze (o:=.tup [.int p,.int k,.ref l1]) ht1
  have f2:upd H2 t1 (.tup [.int p,.int k,.ref l1]) t1=some (.tup [.int p,.int k,.ref l1]):=zc
  generalize upd H2 t1 (.tup [.int p,.int k,.ref l1])=H3 at u2 f2 ⊢
  refine⟨_,rfl,_,rfl,_,rfl,by show 3≤sizeLine; omega,fun t2 ht2=>?_⟩
  have u3:=ze (o:=.lst [.int p,.int k,.ref tt]) ht2
  have f3:upd H3 t2 (.lst [.int p,.int k,.ref tt]) t2=some (.lst [.int p,.int k,.ref tt]):=zc
  generalize upd H3 t2 (.lst [.int p,.int k,.ref tt])=H4 at u3 f3 ⊢
  refine⟨_,rfl,_,rfl,by show 2≤sizeLine; omega,fun t3 ht3=>?_⟩
  have u4:=ze (o:=.tup [.int p,.int k]) ht3
  have f4:upd H4 t3 (.tup [.int p,.int k]) t3=some (.tup [.int p,.int k]):=zc
  generalize upd H4 t3 (.tup [.int p,.int k])=H5 at u4 f4 ⊢
  refine⟨_,rfl,_,rfl,_,rfl,by show 4≤sizeLine; omega,fun t4 ht4=>?_⟩
  have u5:=ze (o:=.tup [.int p,.int k,.ref tt,.int 0]) ht4
  have f5:upd H5 t4 (.tup [.int p,.int k,.ref tt,.int 0]) t4=some (.tup [.int p,.int k,.ref tt,.int 0]):=zc
  generalize upd H5 t4 (.tup [.int p,.int k,.ref tt,.int 0])=H6 at u5 f5 ⊢
  have s6:=u1.trans (u2.trans (u3.trans (u4.trans u5)))
  refine⟨_,rfl,_,rfl,_,rfl,_,rfl,_,rfl,tt,_,rfl,s6 _ _ hc1,fun x1 H7 u6 f6=>?_⟩
  have hcl:(zaQ (pl.map V.int) none (some 1)).length≤16:=Nat.le_trans (zce _ _ _) (by rw [List.length_map]; exact hpl)
  have s7:=s6.trans u6
  refine⟨tt,x1,_,_,rfl,rfl,s7 _ _ hc1,f6,by simpa using hne,by rw [List.length_map]; omega,fun x2 H8 u7 f7=>?_⟩
  have s8:=s7.trans u7
  refine⟨by show 3≤sizeLine; omega,fun t5 ht5=>?_⟩
  have u8:=ze (o:=.tup [.int p,.int k,.ref x2]) ht5
  have f8:upd H8 t5 (.tup [.int p,.int k,.ref x2]) t5=some (.tup [.int p,.int k,.ref x2]):=zc
  generalize upd H8 t5 (.tup [.int p,.int k,.ref x2])=H9 at u8 f8 ⊢
  refine⟨by show 5≤sizeLine; omega,fun l9 hl9=>?_⟩
  have u9:=ze (o:=.lst [.ref t1,.ref t2,.ref t3,.ref t4,.ref t5]) hl9
  have f9:upd H9 l9 (.lst [.ref t1,.ref t2,.ref t3,.ref t4,.ref t5]) l9=some (.lst [.ref t1,.ref t2,.ref t3,.ref t4,.ref t5]):=zc
  generalize upd H9 l9 (.lst [.ref t1,.ref t2,.ref t3,.ref t4,.ref t5])=H10 at u9 f9 ⊢
  have s10:=s8.trans (u8.trans u9)
  refine⟨_,rfl,_,rfl,_,rfl,_,rfl,_,rfl,by show 1≤sizeLine; omega,fun x3 hx3=>?_⟩
  have u10:=ze (o:=.tup [.int p]) hx3
  have f10:upd H10 x3 (.tup [.int p]) x3=some (.tup [.int p]):=zc
  generalize upd H10 x3 (.tup [.int p])=H11 at u10 f10 ⊢
  have s11:=s10.trans u10
  refine⟨tt,x3,_,_,rfl,rfl,s11 _ _ hc1,f10,by simpa using hne,by rw [List.length_map]; show _+1≤sizeLine; omega,fun x4 H12 u11 f11=>?_⟩
  refine⟨by show 3≤sizeLine; omega,fun t6 ht6=>?_⟩
  have u12:=ze (o:=.tup [.int p,.int k,.ref x4]) ht6
  have f12:upd H12 t6 (.tup [.int p,.int k,.ref x4]) t6=some (.tup [.int p,.int k,.ref x4]):=zc
  generalize upd H12 t6 (.tup [.int p,.int k,.ref x4])=H13 at u12 f12 ⊢
  have s13:=s11.trans (u11.trans u12)
  refine⟨_,rfl,r,_,_,_,rfl,rfl,s13.seq hS1,e3,_,_,rfl,rfl,(by show (0:Int) < 130; decide),_,_,rfl,rfl,_,rfl,_,rfl,by show 3≤sizeLine; omega,fun t7 ht7=>?_⟩
  have u13:=ze (o:=.tup [.int (2+r3 % 130),.int k,.ref tt]) ht7
  have f13:upd H13 t7 (.tup [.int (2+r3 % 130),.int k,.ref tt]) t7=some (.tup [.int (2+r3 % 130),.int k,.ref tt]):=zc
  show (fun H14=>_) (upd H13 t7 (.tup [.int (2+r3 % 130),.int k,.ref tt]))
  generalize upd H13 t7 (.tup [.int (2+r3 % 130),.int k,.ref tt])=H14 at u13 f13 ⊢
  refine⟨by show 2≤sizeLine; omega,fun l14 hl14=>?_⟩
  have u14:=ze (o:=.lst [.ref t6,.ref t7]) hl14
  have f14:upd H14 l14 (.lst [.ref t6,.ref t7]) l14=some (.lst [.ref t6,.ref t7]):=zc
  generalize upd H14 l14 (.lst [.ref t6,.ref t7])=H15 at u14 f14 ⊢
  have s1015:=u10.trans (u11.trans (u12.trans (u13.trans u14)))
  refine⟨l9,l14,_,_,rfl,rfl,s1015 _ _ f9,f14,by show 7≤sizeLine; omega,fun l15 hl15=>?_⟩
  have u15:=ze (o:=.lst [.ref t1,.ref t2,.ref t3,.ref t4,.ref t5,.ref t6,.ref t7]) hl15
  have f15:upd H15 l15 (.lst [.ref t1,.ref t2,.ref t3,.ref t4,.ref t5,.ref t6,.ref t7]) l15=some (.lst [.ref t1,.ref t2,.ref t3,.ref t4,.ref t5,.ref t6,.ref t7]):=zc
  show (fun H16=>_) (upd H15 l15 (.lst [.ref t1,.ref t2,.ref t3,.ref t4,.ref t5,.ref t6,.ref t7]))
  generalize upd H15 l15 (.lst [.ref t1,.ref t2,.ref t3,.ref t4,.ref t5,.ref t6,.ref t7])=H16 at u15 f15 ⊢
  have s16:=s10.trans (s1015.trans u15)
  refine⟨_,rfl,_,rfl,_,rfl,_,rfl,by show 4≤sizeLine; omega,fun l16 hl16=>?_⟩
  have u16:=ze (o:=.lst ([1,-1,2,4].map V.int)) hl16
  have f16:upd H16 l16 (.lst ([1,-1,2,4].map V.int)) l16=some (.lst ([1,-1,2,4].map V.int)):=zc
  have s17:=s16.trans u16
  refine⟨_,rfl,r,_,_,_,rfl,rfl,s17.seq hS1,e3,_,_,rfl,rfl,(by show (0:Int) < 4; decide),l16,_,_,_,rfl,rfl,SqL.of f16,epd,_,_,rfl,rfl,_,rfl,_,rfl,_,_,rfl,rfl,_,rfl,tt,_,rfl,s17 _ _ hc1,fun x5 H18 u17 f17=>?_⟩
  refine⟨by show 3≤sizeLine; omega,fun t8 ht8=>?_⟩
  have u18:=ze (o:=.tup [.int p,.int (k+pd),.ref x5]) ht8
  have f18:upd H18 t8 (.tup [.int p,.int (k+pd),.ref x5]) t8=some (.tup [.int p,.int (k+pd),.ref x5]):=zc
  show (fun H19=>_) (upd H18 t8 (.tup [.int p,.int (k+pd),.ref x5]))
  generalize upd H18 t8 (.tup [.int p,.int (k+pd),.ref x5])=H19 at u18 f18 ⊢
  refine⟨by show 1≤sizeLine; omega,fun l19 hl19=>?_⟩
  have u19:=ze (o:=.lst [.ref t8]) hl19
  have f19:upd H19 l19 (.lst [.ref t8]) l19=some (.lst [.ref t8]):=zc
  generalize upd H19 l19 (.lst [.ref t8])=H20 at u19 f19 ⊢
  have s1620:=u16.trans (u17.trans (u18.trans u19))
  refine⟨l15,l19,_,_,rfl,rfl,s1620 _ _ f15,f19,by show 8≤sizeLine; omega,fun l20 hl20=>?_⟩
  have u20:=ze (o:=.lst [.ref t1,.ref t2,.ref t3,.ref t4,.ref t5,.ref t6,.ref t7,.ref t8]) hl20
  have f20:upd H20 l20 (.lst [.ref t1,.ref t2,.ref t3,.ref t4,.ref t5,.ref t6,.ref t7,.ref t8]) l20=some (.lst [.ref t1,.ref t2,.ref t3,.ref t4,.ref t5,.ref t6,.ref t7,.ref t8]):=zc
  obtain⟨v,hv,ev⟩:=zcg (xs:=[.ref t1,.ref t2,.ref t3,.ref t4,.ref t5,.ref t6,.ref t7,.ref t8]) (k:=r0 % 14 - 6) (by omega) (show _ < (8:Int) by omega)
  refine⟨_,rfl,_,_,rfl,rfl,l20,_,_,_,rfl,rfl,SqL.of f20,ev,?_⟩
  have z18:=u19.trans u20
  have z17:=u18.trans z18
  have z13:=u14.trans (u15.trans (u16.trans (u17.trans z17)))
  have z12:=u13.trans z13
  have z11:=u12.trans z12
  have z8:=u9.trans (u10.trans (u11.trans z11))
  have z7:=u8.trans z8
  have z5:=u6.trans (u7.trans z7)
  have z4:=u5.trans z5
  have z3:=u4.trans z4
  have z2:=u3.trans z3
  have z1:=u2.trans z2
  have z0:=u1.trans z1
  have aP':=aP z0
  refine q v (upd H20 l20 (.lst [.ref t1,.ref t2,.ref t3,.ref t4,.ref t5,.ref t6,.ref t7,.ref t8])) (s1.trans z0) ?_
  generalize upd H20 l20 (.lst [.ref t1,.ref t2,.ref t3,.ref t4,.ref t5,.ref t6,.ref t7,.ref t8])=H21 at *
  rcases (List.mem_cons.mp hv) with rfl | hv
  ·exact An3.three (z2 _ _ f2) (aI p) (aI k) (An3.lst (z1 _ _ f1)).an2
  rcases (List.mem_cons.mp hv) with rfl | hv
  ·exact An3.lst (z3 _ _ f3)
  rcases (List.mem_cons.mp hv) with rfl | hv
  ·refine An3.tup (z4 _ _ f4) (by simp) fun x hx=>?_
   rcases (List.mem_cons.mp hx) with rfl | hx
   ·exact aI p
   rw [List.mem_singleton.mp hx]
   exact aI k
  rcases (List.mem_cons.mp hv) with rfl | hv
  ·refine An3.tup (z5 _ _ f5) (by simp) fun x hx=>?_
   rcases (List.mem_cons.mp hx) with rfl | hx
   ·exact aI p
   rcases (List.mem_cons.mp hx) with rfl | hx
   ·exact aI k
   rcases (List.mem_cons.mp hx) with rfl | hx
   ·exact aP'
   rw [List.mem_singleton.mp hx]
   exact aI 0
  rcases (List.mem_cons.mp hv) with rfl | hv
  ·refine An3.three (z8 _ _ f8) (aI p) (aI k) (An2.tup (z7 _ _ f7) (by rw [List.length_append,List.length_map]; omega) fun x hx=>?_)
   rcases (List.mem_append.mp hx) with hx | hx
   ·exact zas x hx
   ·exact zas x (zcf hx)
  rcases (List.mem_cons.mp hv) with rfl | hv
  ·refine An3.three (z12 _ _ f12) (aI p) (aI k) (An2.tup (z11 _ _ f11) (by rw [List.length_append,List.length_map]; show _+1≤1000; omega) fun x hx=>?_)
   rcases (List.mem_append.mp hx) with hx | hx
   ·exact zas x hx
   ·rw [List.mem_singleton.mp hx]
    exact .int p
  rcases (List.mem_cons.mp hv) with rfl | hv
  ·exact An3.three (z13 _ _ f13) (aI _) (aI k) aP'
  rw [List.mem_singleton.mp hv]
  exact An3.three (z18 _ _ f18) (aI p) (aI _) (An2.tup (z17 _ _ f17) (Nat.le_trans (zce _ _ _) (by rw [List.length_map]; omega)) fun x hx=>zas x (zcf hx))
end
end My
end
section
set_option maxHeartbeats 3999000
namespace My
open PySem L2 PyProof.Rows
section
variable {P:Program} {w:World} {K:PySem.W.Frag} {mg:Str→Option Value} {base:Heap} {t:Adr}
theorem zih {ds:List Int} (hl:ds.length=40) {i:Int} (h0:0≤i) (h1:i < 10):∃ rs:List Int,zaQ (ds.map V.int) (some (4*i)) (some (4*i+4))=rs.map V.int∧rs.length=4∧∀ x∈rs,x∈ds:=by
 unfold zaQ
 rw [List.length_map,← List.map_drop,← List.map_take]
 refine⟨_,rfl,?_,fun x hx=>List.mem_of_mem_drop (List.mem_of_mem_take hx)⟩
 have e1:HT.sIx ds.length 0 (some (4*i))=(4*i).toNat:=by
  unfold HT.sIx
  simp only
  rw [if_neg (by omega)]
  omega
 have e2:HT.sIx ds.length ds.length (some (4*i+4))=(4*i+4).toNat:=by
  unfold HT.sIx
  simp only
  rw [if_neg (by omega)]
  omega
 rw [e1,e2,List.length_take,List.length_drop]
 omega
theorem zgM {H:Hp} {c tt:Addr} {p k:Int} {pl:List Int} (hc:zaV H c tt p k pl) (ok:CodeOk 5 16 p k pl):codeB H (.ref c)=true:=by
 unfold codeB
 rw [zar hc.1]
 show zaO H (.int p) (.int k) (.ref tt)=true
 unfold zaO
 rw [zar hc.2]
 have kl:=ok.kl
 have ln:=ok.ln
 have e1:zaK (.int p)=true:=decide_eq_true ok.pr
 have e2:kB (.int k)=true:=by show (decide (1≤k) && decide (k≤5))=true; rw [decide_eq_true ok.k1,decide_eq_true ok.kk]; rfl
 have e3:zn p k (pl.map V.int)=true:=by
  unfold zn
  rw [decide_eq_true (show k≤(((pl.map V.int).length:Nat):Int) by rw [List.length_map]; exact kl),decide_eq_true (show (pl.map V.int).length≤16 by rw [List.length_map]; omega),decide_eq_true (zbq.mpr ok.nd),Bool.and_true,Bool.true_and,Bool.true_and]
  refine List.all_eq_true.mpr fun x hx=>?_
  obtain⟨n,hn,rfl⟩:=List.mem_map.mp hx
  have:=ok.rg n hn
  show (decide (0≤n) && decide (n < p))=true
  rw [decide_eq_true this.1,decide_eq_true this.2]
  rfl
 rw [e1,e2]
 exact e3
theorem zeM {H:Hp} {c tt:Addr} {p k:Int} {pl:List Int} (hc:zaV H c tt p k pl) (hl:pl.length≤1000):An3 H (.ref c):=An3.three hc.1 (An2.int p) (An2.int k) (An2.tup hc.2 (by rw [List.length_map]; exact hl) zas)
theorem zge {H:Hp} {c tt:Addr} {p k:Int} {pl:List Int} (hc:zaV H c tt p k pl) (hl:16 < pl.length):codeB H (.ref c)=false:=by
 unfold codeB
 rw [zar hc.1]
 show zaO H (.int p) (.int k) (.ref tt)=false
 unfold zaO
 rw [zar hc.2]
 show (_ && (_ && zn p k (pl.map V.int)))=false
 rw [show zn p k (pl.map V.int)=false by unfold zn; rw [decide_eq_false (show ¬ (pl.map V.int).length≤16 by rw [List.length_map]; omega),Bool.false_and,Bool.and_false],Bool.and_false,Bool.and_false]
theorem zbr:FnScope ["script","code","draws","k","thing","one","found"] ["script"] (zj zbN):=⟨rfl,rfl,rfl,by decide +kernel,rfl,by decide +kernel,by decide +kernel⟩
theorem zhp {fd:FuncData} (T:Txt K mg t) (F:Fun K "law" "law" zbN t.law fd):FnOk P w K mg base CX0 5 t.law fd ["script"] (zdd K):=by
 obtain⟨fd_l_code,F_l_code,b_l_code⟩:=T.f_l_code
 have G_l_code:=zfr (P:=P) (w:=w) (base:=base) T F_l_code
 obtain⟨fd_is_code,F_is_code,b_is_code⟩:=T.f_is_code
 have G_is_code:=zeh (P:=P) (w:=w) (base:=base) T F_is_code
 obtain⟨fd_l_draws,F_l_draws,b_l_draws⟩:=T.f_l_draws
 have G_l_draws:=zcx (P:=P) (w:=w) (base:=base) T F_l_draws
 obtain⟨fd_l_spoilt,F_l_spoilt,b_l_spoilt⟩:=T.f_l_spoilt
 have G_l_spoilt:=zdS (P:=P) (w:=w) (base:=base) T F_l_spoilt
 obtain⟨fd_l_any,F_l_any,b_l_any⟩:=T.f_l_any
 have G_l_any:=zdR (P:=P) (w:=w) (base:=base) T F_l_any
 obtain⟨fd_l_is_code,F_l_is_code,b_l_is_code⟩:=T.f_l_is_code
 have G_l_is_code:=zdr (P:=P) (w:=w) (base:=base) T F_l_is_code
 refine F.ok zbr (fun vs H Q E h=>?_) (fun cdv A outer s H vs Q E hr h=>?_)
 ·obtain⟨a,ns,rfl,_⟩:=h
  rfl
 ·obtain⟨a,ns,rfl,hS,hlen,q⟩:=h
  refine⟨_,(@zf _ _ _ _ _ (@zA _ _ (1) _ _ _ _ zbr.nd rfl (Or.inl rfl) (@zD _ _ _ _ _ _ _ _ _ _ _ _ _ _ _ _ G_l_code (hr.mono (by decide)) rfl T.m_l_code F_l_code.kp b_l_code .nil (@zae _) (@za _ _ _ _ _ (@L2.pv _ 0 _ _ (by rfl) (by first | exact Or.inl rfl | exact Or.inr (Or.inl rfl) | exact Or.inr (Or.inr rfl)) (by decide) (by decide)) (by exact (@za _ _ _ _ _ (@zb _ _ _ _) (@za _ _ _ _ _ (@zb _ _ _ _) (@za _ _ _ _ _ (@zb _ _ _ _) (@zd _) (by rfl)) (by rfl)) (by rfl))) (by rfl)) (by decide) (by rfl) (by rfl)) (by rfl) (by trivial)) (by exact (@zf _ _ _ _ _ (@zan _ _ _ _ _ _ _ _ (@PW.pt _ _ _ (@zaF _ _ _ _ _ _ _ (@zV _ _ _ _ _ _ _ _ zeL (@zD _ _ _ _ _ _ _ _ _ _ _ _ _ _ _ _ G_is_code (hr.mono (by decide)) rfl T.m_is_code F_is_code.kp b_is_code .nil (@zae _) (@za _ _ _ _ _ (@L2.pv _ 1 _ _ (by rfl) (by first | exact Or.inl rfl | exact Or.inr (Or.inl rfl) | exact Or.inr (Or.inr rfl)) (by decide) (by decide)) (@zd _) (by rfl)) (by decide) (by rfl) (by rfl)) (@zav _ _ _ _) (zX _)) (@zaI _ _ _ _ (@zV _ _ _ _ _ _ _ _ zeL (@zD _ _ _ _ _ _ _ _ _ _ _ _ _ _ _ _ G_is_code (hr.mono (by decide)) rfl T.m_is_code F_is_code.kp b_is_code .nil (@zae _) (@za _ _ _ _ _ (@zN _ _ _ _ _ (@za _ _ _ _ _ (@zb _ _ _ _) (@za _ _ _ _ _ (@zb _ _ _ _) (@za _ _ _ _ _ (@zak _ _ _ _ _ _ _ _ _ (zcv rfl) (by rfl) T.tuple_ boot_tuple (@za _ _ _ _ _ (@zak _ _ _ _ _ _ _ _ _ (@zbX _) (by rfl) T.range_ boot_range (@za _ _ _ _ _ (@zb _ _ _ _) (@zd _) (by rfl)) (by decide) (by decide) (by rfl) (by rfl)) (@zd _) (by rfl)) (by decide) (by decide) (by rfl) (by rfl)) (@zd _) (by rfl)) (by rfl)) (by rfl))) (@zd _) (by rfl)) (by decide) (by rfl) (by rfl)) (@zav _ _ _ _) (zX _))))) (@zk _ _ _ (@zy _ _ _ _ (@zav _ _ _ _))) (@zK _)) (by exact (@zf _ _ _ _ _ (@zA _ _ (2) _ _ _ _ zbr.nd rfl (Or.inl rfl) (@zD _ _ _ _ _ _ _ _ _ _ _ _ _ _ _ _ G_l_draws (hr.mono (by decide)) rfl T.m_l_draws F_l_draws.kp b_l_draws .nil (@zae _) (@za _ _ _ _ _ (@L2.pv _ 0 _ _ (by rfl) (by first | exact Or.inl rfl | exact Or.inr (Or.inl rfl) | exact Or.inr (Or.inr rfl)) (by decide) (by decide)) (by exact (@za _ _ _ _ _ (@zb _ _ _ _) (@za _ _ _ _ _ (@zb _ _ _ _) (@za _ _ _ _ _ (@zb _ _ _ _) (@zd _) (by rfl)) (by rfl)) (by rfl))) (by rfl)) (by decide) (by rfl) (by rfl)) (by rfl) (by trivial)) (by exact (@zf _ _ _ _ _ (@zdZ _ _ _ _ _ _ _ _ PassesOwn.never rfl (@zbO _ _ _ _ _ _ rfl T.range_ (@za _ _ _ _ _ (@zb _ _ _ _) (@zd _) (by rfl)) (by rfl)) (@zL _ _ (3) _ zbr.nd rfl (Or.inl rfl) (by trivial)) (@zf _ _ _ _ _ (@zA _ _ (4) _ _ _ _ zbr.nd rfl (Or.inl rfl) (@zD _ _ _ _ _ _ _ _ _ _ _ _ _ _ _ _ G_l_spoilt (hr.mono (by decide)) rfl T.m_l_spoilt F_l_spoilt.kp b_l_spoilt .nil (@zae _) (@za _ _ _ _ _ (@L2.pv _ 1 _ _ (by rfl) (by first | exact Or.inl rfl | exact Or.inr (Or.inl rfl) | exact Or.inr (Or.inr rfl)) (by decide) (by decide)) (@za _ _ _ _ _ (@za5 _ _ _ _ _ _ _ _ _ _ zgr (@L2.pv _ 2 _ _ (by rfl) (by first | exact Or.inl rfl | exact Or.inr (Or.inl rfl) | exact Or.inr (Or.inr rfl)) (by decide) (by decide)) (@zba _ _ _ (@zg _ _ _ _ _ _ _ _ (@zag _) (@zb _ _ _ _) (@L2.pv _ 3 _ _ (by rfl) (by first | exact Or.inl rfl | exact Or.inr (Or.inl rfl) | exact Or.inr (Or.inr rfl)) (by decide) (by decide)))) (@zba _ _ _ (@zg _ _ _ _ _ _ _ _ (@zQ _) (@zg _ _ _ _ _ _ _ _ (@zag _) (@zb _ _ _ _) (@L2.pv _ 3 _ _ (by rfl) (by first | exact Or.inl rfl | exact Or.inr (Or.inl rfl) | exact Or.inr (Or.inr rfl)) (by decide) (by decide))) (@zb _ _ _ _)))) (@zd _) (by rfl)) (by rfl)) (by decide) (by rfl) (by rfl)) (by rfl) (by trivial)) (by exact (@zk _ _ _ (@zdZ _ _ _ _ _ _ _ _ PassesOwn.never rfl (@zgj _ _ _ _ (@zY _ _ _ _ (@za _ _ _ _ _ (@L2.pv _ 4 _ _ (by rfl) (by first | exact Or.inl rfl | exact Or.inr (Or.inl rfl) | exact Or.inr (Or.inr rfl)) (by decide) (by decide)) (@za _ _ _ _ _ (@zD _ _ _ _ _ _ _ _ _ _ _ _ _ _ _ _ G_l_any (hr.mono (by decide)) rfl T.m_l_any F_l_any.kp b_l_any .nil (@zae _) (@za _ _ _ _ _ (@zH _ _ _ _ _ _ _ (@zp _) (@L2.pv _ 2 _ _ (by rfl) (by first | exact Or.inl rfl | exact Or.inr (Or.inl rfl) | exact Or.inr (Or.inr rfl)) (by decide) (by decide)) (@zg _ _ _ _ _ _ _ _ (@zag _) (@zb _ _ _ _) (@L2.pv _ 3 _ _ (by rfl) (by first | exact Or.inl rfl | exact Or.inr (Or.inl rfl) | exact Or.inr (Or.inr rfl)) (by decide) (by decide))) (fun _ _=>rfl)) (@zd _) (by rfl)) (by decide) (by rfl) (by rfl)) (@zd _) (by rfl)) (by rfl)))) (@zL _ _ (5) _ zbr.nd rfl (Or.inl rfl) (by trivial)) (@zf _ _ _ _ _ (@zA _ _ (6) _ _ _ _ zbr.nd rfl (Or.inl rfl) (@zD _ _ _ _ _ _ _ _ _ _ _ _ _ _ _ _ G_is_code (hr.mono (by decide)) rfl T.m_is_code F_is_code.kp b_is_code .nil (@zae _) (@za _ _ _ _ _ (@L2.pv _ 5 _ _ (by rfl) (by first | exact Or.inl rfl | exact Or.inr (Or.inl rfl) | exact Or.inr (Or.inr rfl)) (by decide) (by decide)) (@zd _) (by rfl)) (by decide) (by rfl) (by rfl)) (by rfl) (by trivial)) (by exact (@zk _ _ _ (@zan _ _ _ _ _ _ _ _ (@PW.pt _ _ _ (@zaF _ _ _ _ _ _ _ (@zU _ _ _ _ (@zat _ _ _ (@zl _ _ _ _ _ _ _ _ _ (@zM _) (by rfl) T.isinstance_ boot_isinstance (@za _ _ _ _ _ (@L2.pv _ 6 _ _ (by rfl) (by first | exact Or.inl rfl | exact Or.inr (Or.inl rfl) | exact Or.inr (Or.inr rfl)) (by decide) (by decide)) (@za _ _ _ _ _ (@zax _ _ (.ty "bool") _ _ rfl T.bool_ boot_bool rfl (by decide) (by decide)) (@zd _) (by rfl)) (by rfl)) (by decide) (by decide) (by rfl) (by rfl)) (by intro _; rfl))) (@zaI _ _ _ _ (@zV _ _ _ _ _ _ _ _ (@zdv _) (@L2.pv _ 6 _ _ (by rfl) (by first | exact Or.inl rfl | exact Or.inr (Or.inl rfl) | exact Or.inr (Or.inr rfl)) (by decide) (by decide)) (@zD _ _ _ _ _ _ _ _ _ _ _ _ _ _ _ _ G_l_is_code (hr.mono (by decide)) rfl T.m_l_is_code F_l_is_code.kp b_l_is_code .nil (@zae _) (@za _ _ _ _ _ (@L2.pv _ 5 _ _ (by rfl) (by first | exact Or.inl rfl | exact Or.inr (Or.inl rfl) | exact Or.inr (Or.inr rfl)) (by decide) (by decide)) (@zd _) (by rfl)) (by decide) (by rfl) (by rfl)) (zX _))))) (@zk _ _ _ (@zy _ _ _ _ (@zav _ _ _ _))) (@zK _))))) (by intro _; rfl))))) (by intro _; rfl)) (by exact (@zk _ _ _ (@zy _ _ _ _ (@zav _ _ _ _))))))))))),?_⟩
  have hsl:=sizeLine_eq
  refine⟨_,rfl,a,ns,0,5,16,rfl,hS,hlen,by decide,by decide,by decide,by decide,by decide,by decide,fun c tt p k pl H1 hc s1 ok h1c h1t=>?_⟩
  have ln:=ok.ln
  have kl:=ok.kl
  have k1:=ok.k1
  have hco:zaV H1 c tt p k pl:=⟨h1c,h1t⟩
  refine⟨_,rfl,_,rfl,zeM hco (by omega),fun H2 s2=>?_⟩
  rw [zgM hco ok]
  refine⟨_,_,rfl,rfl,_,rfl,zal ?_⟩
  refine⟨17,rfl,fun r hr2=>⟨r,17,rfl,zc,by decide,by decide,fun t2 ht2=>?_⟩⟩
  have u2:=(ze (o:=.rng 0 17) hr2).trans (ze (o:=.tup ((zZ 0 (17:Int).toNat).map V.int)) ht2)
  have f2:upd (upd H2 r (.rng 0 17)) t2 (.tup ((zZ 0 (17:Int).toNat).map V.int)) t2=some (.tup ((zZ 0 (17:Int).toNat).map V.int)):=zc
  generalize upd (upd H2 r (.rng 0 17)) t2 (.tup ((zZ 0 (17:Int).toNat).map V.int))=H3 at u2 f2 ⊢
  refine⟨by show 3≤sizeLine; omega,fun c2 hc2=>?_⟩
  have u3:=ze (o:=.tup [.int 97,.int 5,.ref t2]) hc2
  have hco2:zaV (upd H3 c2 (.tup [.int 97,.int 5,.ref t2])) c2 t2 97 5 (zZ 0 (17:Int).toNat):=⟨zc,u3 _ _ f2⟩
  have s3:=s1.trans (s2.trans (u2.trans u3))
  have s13:=s2.trans (u2.trans u3)
  generalize upd H3 c2 (.tup [.int 97,.int 5,.ref t2])=H4 at hco2 s3 s13 ⊢
  refine⟨_,rfl,zeM hco2 (by rw [zab]; decide),fun H5 s5=>?_⟩
  rw [zge hco2 (by rw [zab]; decide)]
  refine⟨_,_,rfl,rfl,_,rfl,zal ?_⟩
  have s05:=s3.trans s5
  have hco5:=hco.same (s13.trans s5)
  refine⟨_,rfl,a,ns,1,40,27720,rfl,s05.seq hS,hlen,by decide,by decide,by decide,by decide,by decide,by decide,fun l ds H6 hl s6 hd hpl=>?_⟩
  have hdl:ds.length=40:=hd.1
  have hco6:=hco5.same s6
  refine⟨10,rfl,by decide,by decide,zcM (lo:=0) (n:=10) (fun i σ H'=>∃ (e3 e4 e5 e6:Option V),σ = [some (.ref a),some (.ref c),some (.ref l),e3,e4,e5,e6]∧zR H6 H') ⟨none,none,none,none,rfl,fun _ _ e=>e⟩ ?_ ?_⟩
  ·rintro i σ H7 hi ⟨e3,e4,e5,e6,rfl,s7⟩
   obtain⟨rs,ers,hrs,hrm⟩:=zih hdl (i:=0+(i:Int)) (by omega) (by omega)
   obtain⟨d,hdm,ed⟩:=zdc (ns:=ds) (k:=4*(0+(i:Int))) (by omega) (by omega)
   refine⟨_,rfl,_,rfl,_,rfl,_,_,rfl,rfl,.inl ⟨by decide,by decide⟩,_,rfl,_,rfl,_,_,rfl,rfl,.inl ⟨by decide,by decide⟩,_,_,rfl,rfl,_,rfl,l,_,rfl,SqL.of (s7 _ _ hpl),fun l8 hl8=>?_⟩
   have u8:=ze (o:=.lst (zaQ (ds.map V.int) (some (4*(0+(i:Int)))) (some (4*(0+(i:Int))+4)))) hl8
   have f8:upd H7 l8 (.lst (zaQ (ds.map V.int) (some (4*(0+(i:Int)))) (some (4*(0+(i:Int))+4)))) l8=some (.lst (rs.map V.int)):=by rw [ers]; exact zc
   refine⟨c,tt,l8,p,k,pl,rs,rfl,(hco6.same s7).same u8,by intro z; rw [z] at kl; simp at kl; omega,by omega,SqL.of f8,hrs,fun x hx=>by have:=hd.2 x (hrm x hx); omega,fun v H9 s9 av=>?_⟩
   have s79:=s7.trans (u8.trans s9)
   refine⟨_,rfl,_,rfl,_,rfl,_,_,rfl,rfl,.inl ⟨by decide,by decide⟩,l,_,_,_,rfl,rfl,SqL.of (s79 _ _ hpl),ed,d,rfl,(hd.2 d hdm).1,by have:=(hd.2 d hdm).2; omega,fun v2 H10 s10 av2=>?_⟩
   refine⟨by show 2≤sizeLine; omega,fun ll hll=>?_⟩
   have u11:=ze (o:=.lst [v,v2]) hll
   have f11:upd H10 ll (.lst [v,v2]) ll=some (.lst [v,v2]):=zc
   generalize upd H10 ll (.lst [v,v2])=H11 at u11 f11 ⊢
   have s6':=s79.trans (s10.trans u11)
   have an:∀ x∈[v,v2],An3 H11 x:=fun x hx=>by
    rcases (List.mem_cons.mp hx) with rfl | hx
    ·exact av.same (s10.trans u11)
    rw [List.mem_singleton.mp hx]
    exact av2.same u11
   refine⟨ll,rfl,⟨_,SqL.of f11⟩,zfx (xs:=[v,v2]) (fun j σ H'=>∃ (e5 e6:Option V),σ = [some (.ref a),some (.ref c),some (.ref l),some (.int (0+(i:Int))),some v,e5,e6]∧zR H11 H') ⟨_,_,rfl,fun _ _ e=>e⟩ ?_ ?_ ?_⟩
   ·rintro j σ H' hj ⟨_,_,_,s'⟩
    exact SqL.of (s' _ _ f11)
   ·rintro j x σ H12 hx ⟨e5',e6',rfl,s12⟩
    have ax:=(an x (List.mem_of_getElem? hx)).same s12
    refine⟨_,rfl,x,rfl,ax,fun H13 s13=>?_⟩
    refine⟨_,rfl,_,_,_,_,rfl,.bl _,rfl,_,rfl,zal ?_⟩
    refine⟨_,rfl,_,rfl,x,rfl,ax.same s13,fun H14 s14=>?_⟩
    rw [zeg s13 ax]
    refine⟨rfl,_,rfl,?_⟩
    rw [decide_eq_true rfl]
    refine zal ?_
    exact⟨_,_,rfl,s12.trans (s13.trans s14)⟩
   ·rintro σ H12 ⟨e5',e6',rfl,s12⟩
    exact⟨_,_,_,_,rfl,s6'.trans s12⟩
  ·rintro σ H7 ⟨e3,e4,e5,e6,rfl,s7⟩
   exact q H7
end
end My
end
section
set_option maxHeartbeats 3999000
namespace My
open PySem L2 PyProof.Rows
structure Dn (K:PySem.W.Frag) (x:Str) (st:Stmt) (f:Addr) (fd:FuncData):Prop where
 a:PySem.W.nsIn K mainGlobals x=some (some (.ref f))
 f:Fun K x x st f fd
theorem zeN {K:PySem.W.Frag} {x:Str} {i:Int} {u:Value} (y:PySem.W.nsIn K mainGlobals x=some (some u)) (r:RelV (.int i) u):∃ u,PySem.W.nsIn K mainGlobals x=some (some u)∧RelV (.int i) u:=⟨u,y,r⟩
theorem za2 {K:PySem.W.Frag} {x:Str} {st:Stmt} {f:Addr} {od an:Option Addr} {sl:Array (Option Value)} {oc kV dc pm cd ct:Value} (a:PySem.W.nsIn K mainGlobals x=some (some (.ref f))) (l:K.lookup f=some ⟨oc,od,.func (PySem.W.fnOf x x (zaG st) (zay st) (zj st) .none kV dc pm an cd ct),sl⟩) (c:PySem.W.codeIn K cd x=true) (k:PySem.W.keepIn K (.ref f)=true):Dn K x st f (PySem.W.fnOf x x (zaG st) (zay st) (zj st) .none kV dc pm an cd ct):=⟨a,zfH l c k⟩
theorem zhq {l:PySem.W.OpenLaw} {w:World} {K:PySem.W.Frag} {h:Heap} {mg:Str→Option Value} {fa fl:Addr} (X:K.In h) (G:h.Ns mainGlobals mg) (hfa:mg "law" = some (.ref fa))
  {od an:Option Addr} {sl:Array (Option Value)} {oc kV dc pm cd ct:Value} (d_is_whole:∃ f fd,Dn K "is_whole" zaY f fd) (d_is_number:∃ f fd,Dn K "is_number" zaH f fd) (d_is_code_prime:∃ f fd,Dn K "is_code_prime" zW f fd) (d_are_places:∃ f fd,Dn K "are_places" zai f fd) (d_is_code:∃ f fd,Dn K "is_code" zbe f fd) (d_l_cell:∃ f fd,Dn K "_law_cell" zbM f fd) (d_l_draws:∃ f fd,Dn K "_law_draws" zbf f fd) (d_l_whole:∃ f fd,Dn K "_law_whole" zbg f fd) (d_l_code:∃ f fd,Dn K "_law_code" za8 f fd) (d_l_any:∃ f fd,Dn K "_law_any" zch f fd) (d_l_spoilt:∃ f fd,Dn K "_law_spoilt" zaZ f fd) (d_l_is_code:∃ f fd,Dn K "_law_is_code" z9 f fd)
  (al:PySem.W.nsIn K mainGlobals "law" = some (some (.ref fl))) (ll:K.lookup fl=some ⟨oc,od,.func (PySem.W.fnOf "law" "law" (zaG zbN) (zay zbN) (zj zbN) .none kV dc pm an cd ct),sl⟩) (cl:PySem.W.codeIn K cd "law" = true) (kl:PySem.W.keepIn K (.ref fl)=true) (z_len:PySem.W.nsIn K mainGlobals "len" = some none) (z_range:PySem.W.nsIn K mainGlobals "range" = some none) (z_list:PySem.W.nsIn K mainGlobals "list" = some none) (z_tuple:PySem.W.nsIn K mainGlobals "tuple" = some none) (z_min:PySem.W.nsIn K mainGlobals "min" = some none) (z_isinstance:PySem.W.nsIn K mainGlobals "isinstance" = some none) (z_int:PySem.W.nsIn K mainGlobals "int" = some none) (z_bool:PySem.W.nsIn K mainGlobals "bool" = some none) (z_set:PySem.W.nsIn K mainGlobals "set" = some none) (z_all:PySem.W.nsIn K mainGlobals "all" = some none) (z_sorted:PySem.W.nsIn K mainGlobals "sorted" = some none) (y_LEAST_P:∃ u,PySem.W.nsIn K mainGlobals "LEAST_P" = some (some u)∧RelV (.int 5) u) (y_GREATEST_P:∃ u,PySem.W.nsIn K mainGlobals "GREATEST_P" = some (some u)∧RelV (.int 97) u) (y_MOST_NUMBERS:∃ u,PySem.W.nsIn K mainGlobals "MOST_NUMBERS" = some (some u)∧RelV (.int 5) u) (y_MOST_PLACES:∃ u,PySem.W.nsIn K mainGlobals "MOST_PLACES" = some (some u)∧RelV (.int 16) u) :
  ∃ fd:FuncData,(∀ (s:Shared) (v:Value),BindsTo s fd ⟨[v],[]⟩ [("script",v)])∧∀ base:Heap,K.In base→base.Ns mainGlobals mg→FnOk l.prog w K mg base CX0 5 fa fd ["script"] (zdd K):=by
 cases hfa.symm.trans (PySem.W.mg_of X G al)
 obtain⟨f_is_whole,fd_is_whole,D_is_whole⟩:=d_is_whole
 have b_is_whole:=D_is_whole.f.binds (ps:=["thing"]) fun _ _ _ _ _ _ us hl=>match us,hl with | [_],_=>rfl
 obtain⟨f_is_number,fd_is_number,D_is_number⟩:=d_is_number
 have b_is_number:=D_is_number.f.binds (ps:=["p","thing"]) fun _ _ _ _ _ _ us hl=>match us,hl with | [_,_],_=>rfl
 obtain⟨f_is_code_prime,fd_is_code_prime,D_is_code_prime⟩:=d_is_code_prime
 have b_is_code_prime:=D_is_code_prime.f.binds (ps:=["thing"]) fun _ _ _ _ _ _ us hl=>match us,hl with | [_],_=>rfl
 obtain⟨f_are_places,fd_are_places,D_are_places⟩:=d_are_places
 have b_are_places:=D_are_places.f.binds (ps:=["p","k","thing"]) fun _ _ _ _ _ _ us hl=>match us,hl with | [_,_,_],_=>rfl
 obtain⟨f_is_code,fd_is_code,D_is_code⟩:=d_is_code
 have b_is_code:=D_is_code.f.binds (ps:=["thing"]) fun _ _ _ _ _ _ us hl=>match us,hl with | [_],_=>rfl
 obtain⟨f_l_cell,fd_l_cell,D_l_cell⟩:=d_l_cell
 have b_l_cell:=D_l_cell.f.binds (ps:=["script","k"]) fun _ _ _ _ _ _ us hl=>match us,hl with | [_,_],_=>rfl
 obtain⟨f_l_draws,fd_l_draws,D_l_draws⟩:=d_l_draws
 have b_l_draws:=D_l_draws.f.binds (ps:=["script","k","many","base"]) fun _ _ _ _ _ _ us hl=>match us,hl with | [_,_,_,_],_=>rfl
 obtain⟨f_l_whole,fd_l_whole,D_l_whole⟩:=d_l_whole
 have b_l_whole:=D_l_whole.f.binds (ps:=["found"]) fun _ _ _ _ _ _ us hl=>match us,hl with | [_],_=>rfl
 obtain⟨f_l_code,fd_l_code,D_l_code⟩:=d_l_code
 have b_l_code:=D_l_code.f.binds (ps:=["script","at","most_k","most_n"]) fun _ _ _ _ _ _ us hl=>match us,hl with | [_,_,_,_],_=>rfl
 obtain⟨f_l_any,fd_l_any,D_l_any⟩:=d_l_any
 have b_l_any:=D_l_any.f.binds (ps:=["draw"]) fun _ _ _ _ _ _ us hl=>match us,hl with | [_],_=>rfl
 obtain⟨f_l_spoilt,fd_l_spoilt,D_l_spoilt⟩:=d_l_spoilt
 have b_l_spoilt:=D_l_spoilt.f.binds (ps:=["code","row"]) fun _ _ _ _ _ _ us hl=>match us,hl with | [_,_],_=>rfl
 obtain⟨f_l_is_code,fd_l_is_code,D_l_is_code⟩:=d_l_is_code
 have b_l_is_code:=D_l_is_code.f.binds (ps:=["thing"]) fun _ _ _ _ _ _ us hl=>match us,hl with | [_],_=>rfl
 have T:Txt K mg ⟨f_is_whole,f_is_number,f_is_code_prime,f_are_places,f_is_code,f_l_cell,f_l_draws,f_l_whole,f_l_code,f_l_any,f_l_spoilt,f_l_is_code,fa⟩:=⟨PySem.W.mg_none_of X G z_len,PySem.W.mg_none_of X G z_range,PySem.W.mg_none_of X G z_list,PySem.W.mg_none_of X G z_tuple,PySem.W.mg_none_of X G z_min,PySem.W.mg_none_of X G z_isinstance,PySem.W.mg_none_of X G z_int,PySem.W.mg_none_of X G z_bool,PySem.W.mg_none_of X G z_set,PySem.W.mg_none_of X G z_all,PySem.W.mg_none_of X G z_sorted,(by obtain⟨u,e,q,r⟩:=y_LEAST_P; subst r; exact⟨q,PySem.W.mg_of X G e⟩),(by obtain⟨u,e,q,r⟩:=y_GREATEST_P; subst r; exact⟨q,PySem.W.mg_of X G e⟩),(by obtain⟨u,e,q,r⟩:=y_MOST_NUMBERS; subst r; exact⟨q,PySem.W.mg_of X G e⟩),(by obtain⟨u,e,q,r⟩:=y_MOST_PLACES; subst r; exact⟨q,PySem.W.mg_of X G e⟩),PySem.W.mg_of X G D_is_whole.a,PySem.W.mg_of X G D_is_number.a,PySem.W.mg_of X G D_is_code_prime.a,PySem.W.mg_of X G D_are_places.a,PySem.W.mg_of X G D_is_code.a,PySem.W.mg_of X G D_l_cell.a,PySem.W.mg_of X G D_l_draws.a,PySem.W.mg_of X G D_l_whole.a,PySem.W.mg_of X G D_l_code.a,PySem.W.mg_of X G D_l_any.a,PySem.W.mg_of X G D_l_spoilt.a,PySem.W.mg_of X G D_l_is_code.a,⟨_,D_is_whole.f,b_is_whole⟩,⟨_,D_is_number.f,b_is_number⟩,⟨_,D_is_code_prime.f,b_is_code_prime⟩,⟨_,D_are_places.f,b_are_places⟩,⟨_,D_is_code.f,b_is_code⟩,⟨_,D_l_cell.f,b_l_cell⟩,⟨_,D_l_draws.f,b_l_draws⟩,⟨_,D_l_whole.f,b_l_whole⟩,⟨_,D_l_code.f,b_l_code⟩,⟨_,D_l_any.f,b_l_any⟩,⟨_,D_l_spoilt.f,b_l_spoilt⟩,⟨_,D_l_is_code.f,b_l_is_code⟩⟩
 have FL:=zfH (st:=zbN) ll cl kl
 exact⟨PySem.W.fnOf "law" "law" (zaG zbN) (zay zbN) (zj zbN) .none kV dc pm an cd ct,fun s v=>.of_eq rfl,fun base _ _=>zhp T FL⟩
theorem walk {l:PySem.W.OpenLaw} {q:Program} {loose:List Str} {XP:(Str→Option Value)→Heap→Prop} {YP:World→Heap→Prop} {d:DefRec} {K:Params→PySem.W.Frag} (hn:l.most=some 63) (hdf:d.params.defaults = []) (hY:∀ (w:World) (h:Heap),YP w h→(K w.params).In h)
  (F:∀ (w:World) (mg:Str→Option Value) (fa:Addr) (h:Heap),(K w.params).In h→h.Ns mainGlobals mg→mg d.name=some (.ref fa)→∃ fd:FuncData,(∀ (s:Shared) (u:Value),BindsTo s fd ⟨[u],[]⟩ [("script",u)])∧∀ base:Heap,(K w.params).In base→base.Ns mainGlobals mg→FnOk l.prog w (K w.params) mg base CX0 5 fa fd ["script"] (zdd (K w.params))):PySem.W.WalkO q loose XP YP l.row.toRowW d [] (fun f vs=>PySem.call f vs) :=
 L2.zgt (n:=63) (k:=5) (x:="script") (CX:=fun _=>CX0) (sp:=fun w=>zdd (K w.params)) hn (by decide) hdf ⟨rfl,by decide,by decide⟩ hY F (fun _ _ a ns hl _ hS=>⟨a,ns,rfl,hS,hl,fun _=>rfl⟩) fun _ _ _ _ _ z=>z
end My
open PySem PySem.W
open PyProof.Rows
set_option maxHeartbeats 0 in
theorem PySem.Challenge.cw_slipcurve_k01_what_is_a_code_holds : PySem.Challenge.rw_slipcurve_k01_what_is_a_code.Holds := by
 w_on; o_law; k_head; (case hw=>w_witness2)
 k_fill
 refine My.walk (l:=PySem.Challenge.rw_slipcurve_k01_what_is_a_code) rfl rfl (fun w h Y=>PySem.W.kIn_of Y) ?F
 case F =>
  intro w mg fa h KX G hmg
  refine' My.zhq KX G hmg ⟨_,_,My.za2 ?a_is_whole ?l_is_whole ?c_is_whole ?k_is_whole⟩ ⟨_,_,My.za2 ?a_is_number ?l_is_number ?c_is_number ?k_is_number⟩ ⟨_,_,My.za2 ?a_is_code_prime ?l_is_code_prime ?c_is_code_prime ?k_is_code_prime⟩ ⟨_,_,My.za2 ?a_are_places ?l_are_places ?c_are_places ?k_are_places⟩ ⟨_,_,My.za2 ?a_is_code ?l_is_code ?c_is_code ?k_is_code⟩ ⟨_,_,My.za2 ?a_l_cell ?l_l_cell ?c_l_cell ?k_l_cell⟩ ⟨_,_,My.za2 ?a_l_draws ?l_l_draws ?c_l_draws ?k_l_draws⟩ ⟨_,_,My.za2 ?a_l_whole ?l_l_whole ?c_l_whole ?k_l_whole⟩ ⟨_,_,My.za2 ?a_l_code ?l_l_code ?c_l_code ?k_l_code⟩ ⟨_,_,My.za2 ?a_l_any ?l_l_any ?c_l_any ?k_l_any⟩ ⟨_,_,My.za2 ?a_l_spoilt ?l_l_spoilt ?c_l_spoilt ?k_l_spoilt⟩ ⟨_,_,My.za2 ?a_l_is_code ?l_l_is_code ?c_l_is_code ?k_l_is_code⟩ ?al ?ll ?cl ?kl ?z_len ?z_range ?z_list ?z_tuple ?z_min ?z_isinstance ?z_int ?z_bool ?z_set ?z_all ?z_sorted (My.zeN ?y_LEAST_P ?x_LEAST_P) (My.zeN ?y_GREATEST_P ?x_GREATEST_P) (My.zeN ?y_MOST_NUMBERS ?x_MOST_NUMBERS) (My.zeN ?y_MOST_PLACES ?x_MOST_PLACES)
  (case a_is_whole=>k_is); (case l_is_whole=>k_is); (case c_is_whole=>k_is); (case k_is_whole=>k_is)
  (case a_is_number=>k_is); (case l_is_number=>k_is); (case c_is_number=>k_is); (case k_is_number=>k_is)
  (case a_is_code_prime=>k_is); (case l_is_code_prime=>k_is); (case c_is_code_prime=>k_is); (case k_is_code_prime=>k_is)
  (case a_are_places=>k_is); (case l_are_places=>k_is); (case c_are_places=>k_is); (case k_are_places=>k_is)
  (case a_is_code=>k_is); (case l_is_code=>k_is); (case c_is_code=>k_is); (case k_is_code=>k_is)
  (case a_l_cell=>k_is); (case l_l_cell=>k_is); (case c_l_cell=>k_is); (case k_l_cell=>k_is)
  (case a_l_draws=>k_is); (case l_l_draws=>k_is); (case c_l_draws=>k_is); (case k_l_draws=>k_is)
  (case a_l_whole=>k_is); (case l_l_whole=>k_is); (case c_l_whole=>k_is); (case k_l_whole=>k_is)
  (case a_l_code=>k_is); (case l_l_code=>k_is); (case c_l_code=>k_is); (case k_l_code=>k_is)
  (case a_l_any=>k_is); (case l_l_any=>k_is); (case c_l_any=>k_is); (case k_l_any=>k_is)
  (case a_l_spoilt=>k_is); (case l_l_spoilt=>k_is); (case c_l_spoilt=>k_is); (case k_l_spoilt=>k_is)
  (case a_l_is_code=>k_is); (case l_l_is_code=>k_is); (case c_l_is_code=>k_is); (case k_l_is_code=>k_is)
  (case al=>k_is); (case ll=>k_is); (case cl=>k_is); (case kl=>k_is)
  (case z_len=>k_is); (case z_range=>k_is); (case z_list=>k_is); (case z_tuple=>k_is); (case z_min=>k_is); (case z_isinstance=>k_is); (case z_int=>k_is); (case z_bool=>k_is); (case z_set=>k_is); (case z_all=>k_is); (case z_sorted=>k_is); (case y_LEAST_P=>k_is); (case x_LEAST_P=>exact⟨_,rfl⟩); (case y_GREATEST_P=>k_is); (case x_GREATEST_P=>exact⟨_,rfl⟩); (case y_MOST_NUMBERS=>k_is); (case x_MOST_NUMBERS=>exact⟨_,rfl⟩); (case y_MOST_PLACES=>k_is); (case x_MOST_PLACES=>exact⟨_,rfl⟩)
#print axioms PySem.Challenge.cw_slipcurve_k01_what_is_a_code_holds
end