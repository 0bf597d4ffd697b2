import PyProof.Rows.All
import Wide.All
import OpenK.AllK
import Wide.FinOn
import Lean
import PyProof.EqAt
import PyProof.EqKinds
import PyProof.Rows.MinMaxN
import PyProof.ListMulRoad
import KE.KUnpackStar
import KE.KIntText
import PyProof.CallStr
import KE.KDictSum
import KE.KSortTup
import PyProof.Walk
import PyProof.Rows.SortRuns
import PyProof.Rows.ChunkEnd
import PyProof.Rows.Range3
import PyProof.Rows.SeqGen
import PyProof.ConsumeWalk
import PyProof.ListRange
import PyProof.NeKinds
import PyProof.TupleCall
import PySem.Challenge.RW_slipcurve_k07_locators
local macro_rules | `(tactic| trivial) => `(tactic| first | exact .inl rfl | exact .inr rfl | assumption)
set_option Elab.async false
set_option linter.all false
set_option maxRecDepth 100000
namespace L2
open PySem PySem.Spec PyProof.Rows
abbrev Key:=Sum Int Str
def zhZ : Key → Value → Bool
 | .inl k,v => Value.isInt k v
 | .inr x,v => Value.isStrOf x v
def zjB (w : World) : Key → Int
 | .inl k => hashInt k
 | .inr x => hashStr w x
theorem zY : ∀ {k : Key} {v : Value},zhZ k v = true → (∃ i t,k = Sum.inl i ∧ v = Value.int i t) ∨ (∃ x t,k = Sum.inr x ∧ v = Value.str x t)
 | .inl i,v,h => by
  obtain ⟨t,e⟩:=Value.isInt_shape (k:=i) (v:=v) h
  exact .inl ⟨i,t,rfl,e⟩
 | .inr x,v,h => by
  obtain ⟨t,e⟩:=Value.isStrOf_shape (x:=x) (v:=v) h
  exact .inr ⟨x,t,rfl,e⟩
theorem zib (a b : Int) : decide ((Sum.inl a : Key) = Sum.inl b) = (a == b):=by
 by_cases e : a = b
 ·subst e; simp
 ·have h : ¬ (Sum.inl a : Key) = Sum.inl b:=fun q => e (Sum.inl.inj q)
  rw [decide_eq_false h]
  exact (beq_eq_false_iff_ne.mpr e).symm
theorem zic (a b : Str) : decide ((Sum.inr a : Key) = Sum.inr b) = decide (a = b):=by
 by_cases e : a = b
 ·subst e; simp
 ·have h : ¬ (Sum.inr a : Key) = Sum.inr b:=fun q => e (Sum.inr.inj q)
  rw [decide_eq_false h,decide_eq_false e]
theorem zid (a : Int) (b : Str) : decide ((Sum.inl a : Key) = Sum.inr b) = false:=decide_eq_false (fun q => nomatch q)
theorem zie (a : Str) (b : Int) : decide ((Sum.inr a : Key) = Sum.inl b) = false:=decide_eq_false (fun q => nomatch q)
def zdE (prog : Program) (w : World) : PySem.KeyKind prog w Key where
 is:=zhZ
 hash:=zjB w
 inj:=fun v a b ha hb => by
  rcases zY ha with ⟨i,t,rfl,rfl⟩ | ⟨x,t,rfl,rfl⟩
  ·rcases zY hb with ⟨j,u,rfl,e⟩ | ⟨y,u,rfl,e⟩
   ·injection e with e1 _; rw [e1]
   ·exact nomatch e
  ·rcases zY hb with ⟨j,u,rfl,e⟩ | ⟨y,u,rfl,e⟩
   ·exact nomatch e
   ·injection e with e1 _; rw [e1]
 byValue:=fun k v h => by
  rcases zY h with ⟨i,t,rfl,rfl⟩ | ⟨x,t,rfl,rfl⟩ <;> rfl
 pyHash:=fun hv h => by
  rcases zY hv with ⟨i,t,rfl,rfl⟩ | ⟨x,t,rfl,rfl⟩
  ·exact wpAny_pyHash_int h
  ·exact wpAny_pyHash_str h
 eqBool:=fun hu hv h => by
  rcases zY hu with ⟨i,t,rfl,rfl⟩ | ⟨x,t,rfl,rfl⟩
  ·rcases zY hv with ⟨j,u,rfl,rfl⟩ | ⟨y,u,rfl,rfl⟩
   ·rw [zib] at h; exact wpAny_eqBool_int h
   ·rw [zid] at h; exact SeqAt.EqAt.int_str i t y u _ _ _ _ h
  ·rcases zY hv with ⟨j,u,rfl,rfl⟩ | ⟨y,u,rfl,rfl⟩
   ·rw [zie] at h; exact SeqAt.EqAt.str_int x t j u _ _ _ _ h
   ·rw [zic] at h; exact wpAny_eqBool_str h
 «strs»:=fun k x t v h => by
  rcases zY h with ⟨i,u,rfl,e⟩ | ⟨y,u,rfl,e⟩
  ·exact nomatch e
  ·injection e with e1 _
   subst e1
   cases v <;> rfl
end L2
namespace L2
open PySem PySem.Spec PyProof.Rows
inductive V where
 | non | bl (b : Bool) | int (i : Int) | str (x : Str) | byt (b : Array UInt8) | flt (b : UInt64) | ref (a : Addr) | ty (n : String)
 deriving DecidableEq
def RelV : V → Value → Prop
 | .non,u => u = Value.none
 | .bl b,u => u = Value.bool b
 | .int i,u => ∃ t,u = Value.int i t
 | .str x,u => ∃ t,u = Value.str x t
 | .byt b,u => ∃ t,u = Value.bytes b t
 | .flt b,u => ∃ t,u = Value.float b t
 | .ref a,u => u = Value.ref a
 | .ty n,u => u = Value.type n
abbrev zC : List V → List Value → Prop:=Paired RelV
theorem zC.length {xs : List V} {us : List Value} (r : zC xs us) : xs.length = us.length:=Paired.length r
theorem zC.get : ∀ {xs : List V} {us : List Value} {i : Nat} {x : V},zC xs us → xs[i]? = some x → ∃ u,us[i]? = some u ∧ RelV x u
 | _,_,_,_,.nil,e => by simp at e
 | _,_,0,_,.cons r _,e => by simp at e; subst e; exact ⟨_,rfl,r⟩
 | _,_,i + 1,x,.cons _ t,e => by
  obtain ⟨u,h1,h2⟩:=zC.get (i:=i) (x:=x) t (by simpa using e)
  exact ⟨u,by simpa using h1,h2⟩
theorem zC.set {x : V} {u : Value} (r : RelV x u) : ∀ {xs : List V} {us : List Value} (i : Nat),zC xs us → zC (xs.set i x) (us.set i u)
 | _,_,_,.nil => .nil
 | _,_,0,.cons _ t => .cons r t
 | _,_,i + 1,.cons q t => .cons q (zC.set r i t)
theorem zC.append : ∀ {xs ys : List V} {us ws : List Value},zC xs us → zC ys ws → zC (xs ++ ys) (us ++ ws)
 | _,_,_,_,.nil,s => s
 | _,_,_,_,.cons r t,s => .cons r (zC.append t s)
theorem zC.take : ∀ {xs : List V} {us : List Value} (n : Nat),zC xs us → zC (xs.take n) (us.take n)
 | _,_,0,_ => .nil
 | _,_,_ + 1,.nil => .nil
 | _,_,n + 1,.cons r t => .cons r (zC.take n t)
theorem zC.drop : ∀ {xs : List V} {us : List Value} (n : Nat),zC xs us → zC (xs.drop n) (us.drop n)
 | _,_,0,r => r
 | _,_,_ + 1,.nil => .nil
 | _,_,n + 1,.cons _ t => zC.drop n t
def zif : Option V → Option Value → Prop
 | some v,some u => RelV v u
 | none,none => True
 | _,_ => False
def KV {κ : Type} : List (κ × V) → List (κ × Value) → Prop:=Paired fun (p : κ × V) (q : κ × Value) => p.1 = q.1 ∧ RelV p.2 q.2
def kV : Key → V
 | .inl i => .int i
 | .inr x => .str x
inductive HO where
 | lst (xs : List V)
 | tup (xs : List V)
 | dK (kvs : List (Key × V)) | dT (kvs : List (List Key × V))
 | set (S : Int → Bool) (n : Nat)
 | ins (C dx : Addr) (fs : List (Str × V))
 | own (x : Addr)
 | xd (fs : List (Str × V))
 | met (f x : Addr)
 | rng (lo hi : Int)
 | frz (o : Obj) (u : HO)
 | tbl (ps : Array Value)
 | ext (φ : Heap → Prop)
abbrev Hp:=Addr → Option HO
def upd (H : Hp) (a : Addr) (o : HO) : Hp:=fun b => if b = a then some o else H b
theorem zb {H : Hp} {a : Addr} {o : HO} : upd H a o a = some o:=by unfold upd; rw [if_pos rfl]
theorem zo {H : Hp} {a b : Addr} {o : HO} (h : b ≠ a) : upd H a o b = H b:=by unfold upd; rw [if_neg h]
theorem ze6 {H : Hp} {a : Addr} {o u : HO} : upd (upd H a o) a u = upd H a u:=by
 funext b; unfold upd; split <;> rfl
theorem zD {H : Hp} {a b : Addr} {o : HO} (h : H a = some o) (h' : H b = none) : a ≠ b:=by
 intro e; subst e; rw [h] at h'; cases h'
section
variable (P : Program) (w : World)
def zaj (H : Hp) (h : Heap) (a : Addr) : HO → Prop
 | .lst xs => xs.length ≤ sizeLine ∧ ∃ (its : List Value) (n : Nat),zC xs its ∧ h.get? a = some { cls:=.type "list",data:=.seq its.toArray n }
 | .tup xs => xs.length ≤ sizeLine ∧ ∃ its : List Value,zC xs its ∧ IsTup h a its.toArray
 | .dK kvs => kvs.length ≤ sizeLine ∧ (a == sysModules) = false ∧ ∃ vs,KV kvs vs ∧ h.DictOf (zdE P w) a vs
 | .dT kvs => kvs.length ≤ sizeLine ∧ (a == sysModules) = false ∧ ∃ xs : List (List Key × Addr × Value),
   Paired (fun (p : List Key × V) (q : List Key × Addr × Value) => p.1 = q.1 ∧ H q.2.1 = some (.tup (p.1.map kV)) ∧ RelV p.2 q.2.2) kvs xs ∧
   ∃ o es ep,h.get? a = some o ∧ o.ExactDict ∧ o.data = .dict es ep ∧ es.toList = xs.map (entryOfKey (tupleKind (zdE P w))) ∧ (xs.map (·.1)).Nodup
 | .set S n => h.SetOf (intKind P w) a S n
 | .ins C dx fs => H dx = some (.own a) ∧ fs.length ≤ 1000 ∧ dx ≠ a ∧ h.get? a = some (PySem.W.instObj C dx) ∧
   ∃ mA,h.Ns1 dx mA ∧ (∀ f,zif (fs.lookup f) (mA f)) ∧ PySem.Within mA (fs.map (·.1))
 | .own _ => ∃ o,h.get? a = some o
 | .xd fs => ∃ mA,h.Ns1 a mA ∧ ∀ f,zif (fs.lookup f) (mA f)
 | .rng lo hi => ∃ t u v,h.get? a = some { cls:=.type "range",data:=.fields #[.int lo t,.int hi u,.int 1 v] }
 | .frz o u => h.get? a = some o ∧ zaj H h a u
 | .tbl ps => h.get? a = some { cls:=.none,data:=.fields ps }
 | .met f x => h.get? a = some (PySem.W.methodObj (.ref f) (.ref x))
 | .ext φ => φ h ∧ (∃ o,h.get? a = some o) ∧ ∀ h1 h2 : Heap,φ h1 → (∀ o,h1.get? a = some o → h2.get? a = some o) → φ h2
def HOk (H : Hp) (h : Heap) : Prop:=∀ a o,H a = some o → zaj P w H h a o
end
section
variable {P : Program} {w : World} {H H' : Hp} {h h' : Heap} {a : Addr} {o : HO}
theorem zaj.lt (x : zaj P w H h a o) : a < h.objs.size:=by
 cases o with
 | lst xs => obtain ⟨_,_,_,_,e⟩:=x; exact Heap.lt_size e
 | tup xs => obtain ⟨_,_,_,p⟩:=x; exact p.lt
 | dK kvs => obtain ⟨_,_,_,_,o,_,_,e,_⟩:=x; exact Heap.lt_size e
 | dT kvs => obtain ⟨_,_,_,_,o,_,_,e,_⟩:=x; exact Heap.lt_size e
 | set S n => obtain ⟨o,_,_,_,e,_⟩:=x; exact Heap.lt_size e
 | ins C dx fs => obtain ⟨_,_,_,e,_⟩:=x; exact Heap.lt_size e
 | own y => obtain ⟨_,e⟩:=x; exact Heap.lt_size e
 | xd fs => obtain ⟨_,⟨_,_,_,e,_⟩,_⟩:=x; exact Heap.lt_size e
 | rng lo hi => obtain ⟨_,_,_,e⟩:=x; exact Heap.lt_size e
 | frz ob u => obtain ⟨e,_⟩:=x; exact Heap.lt_size e
 | tbl ps => exact Heap.lt_size (show h.get? a = some _ from x)
 | met f y => exact Heap.lt_size (show h.get? a = some _ from x)
 | ext φ => obtain ⟨_,⟨_,e⟩,_⟩:=x; exact Heap.lt_size e
theorem Paired.mapP {α β : Type} {F G : α → β → Prop} : ∀ {l₁ : List α} {l₂ : List β},Paired F l₁ l₂ → (∀ a b,F a b → G a b) → Paired G l₁ l₂
 | _,_,.nil,_ => .nil
 | _,_,.cons r t,f => .cons (f _ _ r) (Paired.mapP t f)
theorem zaj.stay (x : zaj P w H h a o) (k : ∀ b u,(b = a ∨ H b = some (.own a)) → h.get? b = some u → h'.get? b = some u)
  (ho : ∀ b,H b = some (.own a) → H' b = some (.own a)) (ht : ∀ b xs,H b = some (.tup xs) → H' b = some (.tup xs)) : zaj P w H' h' a o:=by
 induction o with
 | lst xs => obtain ⟨z,its,n,r,e⟩:=x; exact ⟨z,its,n,r,k _ _ (.inl rfl) e⟩
 | tup xs => obtain ⟨z,its,r,ob,e,c⟩:=x; exact ⟨z,its,r,ob,k _ _ (.inl rfl) e,c⟩
 | dK kvs => obtain ⟨z,y,vs,r,ob,es,ep,e,c⟩:=x; exact ⟨z,y,vs,r,ob,es,ep,k _ _ (.inl rfl) e,c⟩
 | dT kvs =>
  obtain ⟨z,y,xs,r,ob,es,ep,e,c⟩:=x
  exact ⟨z,y,xs,Paired.mapP r fun p q z => ⟨z.1,ht _ _ z.2.1,z.2.2⟩,ob,es,ep,k _ _ (.inl rfl) e,c⟩
 | set S n => obtain ⟨ob,es,ep,t,e,c⟩:=x; exact ⟨ob,es,ep,t,k _ _ (.inl rfl) e,c⟩
 | ins C dx fs =>
  obtain ⟨d,z,ne,e,mA,⟨od,es,ep,e2,c⟩,r⟩:=x
  exact ⟨ho _ d,z,ne,k _ _ (.inl rfl) e,mA,⟨od,es,ep,k _ _ (.inr d) e2,c⟩,r⟩
 | own y => obtain ⟨ob,e⟩:=x; exact ⟨ob,k _ _ (.inl rfl) e⟩
 | xd fs => obtain ⟨mA,⟨od,es,ep,e,c⟩,r⟩:=x; exact ⟨mA,⟨od,es,ep,k _ _ (.inl rfl) e,c⟩,r⟩
 | rng lo hi => obtain ⟨t,u,v,e⟩:=x; exact ⟨t,u,v,k _ _ (.inl rfl) e⟩
 | frz ob u ih => obtain ⟨e,q⟩:=x; exact ⟨k _ _ (.inl rfl) e,ih q⟩
 | tbl ps =>
  have e : h.get? a = some { cls:=.none,data:=.fields ps }:=x
  show h'.get? a = some { cls:=.none,data:=.fields ps }
  exact k a _ (.inl rfl) e
 | met f y =>
  have e : h.get? a = some (PySem.W.methodObj (.ref f) (.ref y)):=x
  show h'.get? a = some (PySem.W.methodObj (.ref f) (.ref y))
  exact k a _ (.inl rfl) e
 | ext φ => obtain ⟨p,⟨o,e⟩,st⟩:=x; exact ⟨st _ _ p fun o q => k _ _ (.inl rfl) q,⟨o,k _ _ (.inl rfl) e⟩,st⟩
theorem HOk.lt (x : HOk P w H h) (e : H a = some o) : a < h.objs.size:=(x a o e).lt
theorem HOk.fresh (x : HOk P w H h) (e : h.objs.size ≤ a) : H a = none:=by
 cases q : H a with
 | none => rfl
 | some u => exact absurd (Nat.lt_of_lt_of_le (x.lt q) e) (Nat.lt_irrefl _)
theorem HOk.kept (x : HOk P w H h) (k : ∀ b u,h.get? b = some u → h'.get? b = some u) : HOk P w H h':=fun a o e =>
 (x a o e).stay (fun b u _ q => k b u q) (fun _ q => q) fun _ _ q => q
theorem HOk.laid (x : HOk P w H h) (k : ∀ b u,h.get? b = some u → h'.get? b = some u) (hp : h.objs.size ≤ a) (new : zaj P w (upd H a o) h' a o) : HOk P w (upd H a o) h':=fun b u e => by
 have hn:=x.fresh hp
 by_cases hb : b = a
 ·subst hb; rw [zb] at e; cases e; exact new
 ·rw [zo hb] at e
  exact (x b u e).stay (fun c v _ q => k c v q) (fun c q => by rw [zo (zD q hn)]; exact q) fun c xs q => by rw [zo (zD q hn)]; exact q
end
def Rd (H : Hp) (a : Addr) (u : HO) : Prop:=H a = some u ∨ ∃ o,H a = some (.frz o u)
theorem Rd.ok {P : Program} {w : World} {H : Hp} {h : Heap} {a : Addr} {u : HO} (r : Rd H a u) (x : HOk P w H h) : zaj P w H h a u:=by
 rcases r with r | ⟨o,r⟩
 ·exact x a u r
 ·obtain ⟨_,q⟩:=x a _ r
  exact q
def Mut : Option HO → Prop
 | some (.lst _) => True
 | some (.dK _) => True
 | some (.dT _) => True
 | some (.set _ _) => True
 | some (.ins _ _ _) => True
 | some (.ext _) => True
 | _ => False
section
variable {P : Program} {w : World} {H : Hp} {h h' : Heap} {x e : Addr} {o' : HO}
theorem HOk.write (ok : HOk P w H h) (mu : Mut (H x)) (he : e = x ∨ H e = some (.own x)) (k : ∀ b u,b ≠ e → h.get? b = some u → h'.get? b = some u) (heo : ∃ u,h'.get? e = some u)
  (new : zaj P w (upd H x o') h' x o') : HOk P w (upd H x o') h':=fun b u q => by
 have nown : ∀ c y,H c = some (.own y) → c ≠ x:=fun c y r z => by subst z; rw [r] at mu; exact mu
 have ntup : ∀ c xs,H c = some (.tup xs) → c ≠ x:=fun c xs r z => by subst z; rw [r] at mu; exact mu
 by_cases hb : b = x
 ·subst hb; rw [zb] at q; cases q; exact new
 ·rw [zo hb] at q
  by_cases hbe : b = e
  ·have q' : H b = some (.own x):=by
    rcases he with z | z
    ·exact absurd (hbe.trans z) hb
    ·rw [hbe]; exact z
   rw [q] at q'; cases q'
   obtain ⟨v,hv⟩:=heo
   exact ⟨v,by rw [hbe]; exact hv⟩
  ·refine (ok b u q).stay (fun c v hc r => k c v ?_ r) (fun c r => by rw [zo (nown c b r)]; exact r) fun c xs r => by rw [zo (ntup c xs r)]; exact r
   rcases hc with rfl | hc
   ·exact hbe
   ·rintro rfl
    rcases he with z | z
    ·exact nown c b hc z
    ·rw [hc] at z; cases z; exact hb rfl
end
structure Un (fs ex : List Addr) (H H' : Hp) (h h' : Heap) : Prop where
 keep : ∀ b o,h.get? b = some o → H b = none → b ∉ fs → b ∉ ex → h'.get? b = some o
 slot : ∀ b o,h.get? b = some o → H b = none → b ∈ fs → b ∉ ex → ∃ sl,h'.get? b = some { o with slots:=sl }
 free : ∀ b o,h.get? b = some o → H b = none → b ∉ ex → H' b = none
 there : ∀ b o,h.get? b = some o → b ∉ ex → ∃ o',h'.get? b = some o'
 tups : ∀ b xs,H b = some (.tup xs) → H' b = some (.tup xs)
 frzs : ∀ b o u,H b = some (.frz o u) → H' b = some (.frz o u)
 tbls : ∀ b ps,H b = some (.tbl ps) → ∃ more,H' b = some (.tbl (ps ++ more))
section
variable {fs fs' ex ex' : List Addr} {H H1 H2 : Hp} {h h1 h2 h' : Heap} {a x e : Addr} {o : HO}
theorem Un.any (u : Un fs ex H H1 h h1) {b : Addr} {ob : Obj} (q : h.get? b = some ob) (n : H b = none) (hx : b ∉ ex) : ∃ sl,h1.get? b = some { ob with slots:=sl }:=by
 by_cases hb : b ∈ fs
 ·exact u.slot b ob q n hb hx
 ·exact ⟨ob.slots,u.keep b ob q n hb hx⟩
theorem Un.kept (k : ∀ b u,h.get? b = some u → h'.get? b = some u) : Un fs ex H H h h' :=
 ⟨fun b ob q _ _ _ => k b ob q,fun b ob q _ _ _ => ⟨ob.slots,k b ob q⟩,fun _ _ _ n _ => n,fun b ob q _ => ⟨ob,k b ob q⟩,fun _ _ q => q,fun _ _ _ q => q,fun _ ps q => ⟨#[],by rw [q]; simp⟩⟩
theorem Un.refl : Un fs ex H H h h:=Un.kept fun _ _ q => q
theorem Un.laid (k : ∀ b u,h.get? b = some u → h'.get? b = some u) (hp : h.objs.size ≤ a) (hn : H a = none) : Un fs ex H (upd H a o) h h' where
 keep:=fun b u q _ _ _ => k b u q
 slot:=fun b u q _ _ _ => ⟨u.slots,k b u q⟩
 free:=fun b u q n _ => by rw [zo (Nat.ne_of_lt (Nat.lt_of_lt_of_le (Heap.lt_size q) hp))]; exact n
 there:=fun b u q _ => ⟨u,k b u q⟩
 tups:=fun b xs q => by rw [zo (zD q hn)]; exact q
 frzs:=fun b u xs q => by rw [zo (zD q hn)]; exact q
 tbls:=fun b ps q => ⟨#[],by rw [zo (zD q hn),q]; simp⟩
theorem Un.write (mu : Mut (H x)) (he : e = x ∨ H e = some (.own x)) (k : ∀ b u,b ≠ e → h.get? b = some u → h'.get? b = some u) (heo : ∃ u,h'.get? e = some u) : Un fs ex H (upd H x o) h h':=by
 have hx : ∀ b,H b = none → b ≠ x:=fun b n z => by subst z; rw [n] at mu; exact mu
 have hb : ∀ b,H b = none → b ≠ e:=fun b n z => by
  subst z
  rcases he with r | r
  ·exact hx b n r
  ·rw [n] at r; cases r
 have hm : ∀ b u,H b = some u → ¬ Mut (some u) → b ≠ x:=fun b u q nm z => by subst z; rw [q] at mu; exact nm mu
 refine ⟨fun b u q n _ _ => k b u (hb b n) q,fun b u q n _ _ => ⟨u.slots,k b u (hb b n) q⟩,fun b u q n _ => by rw [zo (hx b n)]; exact n,fun b u q _ => ?_,
  fun b xs q => by rw [zo (hm b _ q fun z => z)]; exact q,fun b u xs q => by rw [zo (hm b _ q fun z => z)]; exact q,fun b ps q => ⟨#[],by rw [zo (hm b _ q fun z => z),q]; simp⟩⟩
 by_cases hbe : b = e
 ·subst hbe; exact heo
 ·exact ⟨u,k b u hbe q⟩
end
def trk (h : Heap) (H : Hp) : List Addr:=(List.range h.objs.size).filter fun a => (H a).isSome
def zdF (h : Heap) (H : Hp) : Heap:=PySem.W.hideAll h (trk h H)
theorem zfE (h : Heap) (H : Hp) : (zdF h H).objs.size = h.objs.size:=PySem.W.hideAll_size _ _
theorem zf8 {h : Heap} {H : Hp} {b : Addr} {o : Obj} (e : h.get? b = some o) (n : H b = none) : (zdF h H).get? b = some o :=
 PySem.W.hideAll_get _ e fun hm => by
  have q : (H b).isSome = true:=(List.mem_filter.mp hm).2
  rw [n] at q; simp at q
theorem zhg {h : Heap} {H : Hp} {b : Addr} {o : Obj} (e : (zdF h H).get? b = some o) : h.get? b = some o ∧ H b = none:=by
 have e' : h.get? b = some o:=PySem.W.of_hideAll (trk h H) e
 refine ⟨e',?_⟩
 cases q : H b with
 | none => rfl
 | some x =>
  have hm : b ∈ trk h H:=List.mem_filter.mpr ⟨List.mem_range.mpr (Heap.lt_size e'),by simp [q]⟩
  have z : (zdF h H).get? b = none:=PySem.W.hideAll_none (trk h H) hm
  rw [z] at e; cases e
end L2
namespace L2
open PySem PySem.Spec PyProof.Rows
structure Mod (K : PySem.W.Frag) (mg : Str → Option Value) (base : Heap) : Prop where
 kin : K.In base
 glob : base.Ns mainGlobals mg
 blt : ∃ mb,base.Ns builtinsNs mb ∧ ∀ x : Str,x ≠ "__name__" → mb x = bootBuiltins x
 nolimit : base.NoLimit
structure Cx where
 prog : Program
 w : World
 K : PySem.W.Frag
 mg : Str → Option Value
 base : Heap
 A : Around
 N : List Str
 s₀ : Shared
 H₀ : Hp
 env : Env
 outer : List Env
 stack : List Env
 ex : List Addr
 fn : Str → Bool
 calm : Bool
 pn : List (Addr × Obj)
 xe : Value → Shared → Prop
def frs (l : List Env) : List Addr:=l.filterMap (·.frame)
abbrev Cx.fs (X : Cx) : List Addr:=frs X.outer
def Vis (sc : Scope) (x : Str) : Prop:=sc.names.lookup x = some .local ∨ sc.names.lookup x = some .cell ∨ sc.names.lookup x = some .free
def Loc (sc : Scope) (x : Str) : Prop:=sc.names.lookup x = some .local ∨ sc.names.lookup x = some .cell
def Look (env : Env) (h : Heap) (m : Str → Option Value) (x : Str) (u : Value) : Prop :=
 (env.kindOf x = some .local ∧ m x = some u) ∨ ((env.kindOf x = some .cell ∨ env.kindOf x = some .free) ∧ ∃ c,env.cells.lookup x = some c ∧ h.IsCell c (some u))
structure Cx.Ok (X : Cx) : Prop where
 mod : Mod X.K X.mg X.base
 kind : X.env.scope.kind = .function
 glob : X.env.globals = mainGlobals
 blt : X.env.builtins = builtinsNs
 above : X.s₀.heap.objs.size ≤ X.env.locals
 inj : ∀ x y c,X.env.cells.lookup x = some c → X.env.cells.lookup y = some c → x = y
 has : ∀ x,(X.env.kindOf x = some .cell ∨ X.env.kindOf x = some .free) → ∃ c,X.env.cells.lookup x = some c
 cab : ∀ x c,X.fn x = true → X.env.cells.lookup x = some c → X.s₀.heap.objs.size ≤ c
 hd : X.calm = true → X.A.handled = none
 frames : X.A.frames = some X.stack
 stk : X.stack = X.outer ∨ (X.stack = X.env :: X.outer ∧ X.env.frame = some X.env.locals)
 exf : ∀ b ∈ X.ex,b ≠ X.env.locals ∧ ∀ x c,X.env.cells.lookup x = some c → c ≠ b
 bs : ∀ b o,X.base.get? b = some o → X.s₀.heap.get? b = some o ∧ X.H₀ b = none
 bsz : X.base.objs.size ≤ X.s₀.heap.objs.size
 noex : ∀ b o,X.base.get? b = some o → b ∉ X.ex
 exfs : ∀ b ∈ X.ex,b ∉ X.fs
 funs : X.s₀.heap.FunFrames X.base X.outer
 frf : ∀ b ∈ X.fs,X.H₀ b = none
structure Inv (X : Cx) (pins : List (Addr × Obj)) (σ : List (Option V)) (H : Hp) (s : Shared) : Prop where
 ok : X.Ok
 os : s.os = X.s₀.os
 bare : AllBare s.gens
 base : Un X.fs X.ex X.H₀ H X.s₀.heap s.heap
 loc : ∃ m,s.heap.Ns X.env.locals m ∧ ∀ (i : Nat) (x : Str) (v : V),X.N[i]? = some x → σ[i]? = some (some v) → Vis X.env.scope x → ∃ u,RelV v u ∧ Look X.env s.heap m x u
 cell : ∀ x c,X.env.cells.lookup x = some c → ∃ v,s.heap.IsCell c v
 free : H X.env.locals = none
 freeC : ∀ x c,X.env.cells.lookup x = some c → H c = none
 pin : ∀ p ∈ X.pn ++ pins,s.heap.get? p.1 = some p.2 ∧ H p.1 = none ∧ p.1 ≠ X.env.locals ∧ p.1 ∉ X.fs ∧ ∀ v,p.2.data ≠ .cell v
 hok : HOk X.prog X.w H s.heap
 len : σ.length = X.N.length
section
variable {X : Cx} {pins : List (Addr × Obj)} {σ : List (Option V)} {H H' : Hp} {s : Shared} {h' : Heap}
theorem Cx.Ok.nofr (ok : X.Ok) {b : Addr} {o : Obj} (e : X.base.get? b = some o) : b ∉ X.fs:=fun hb => by
 have:=(ok.funs.mem hb).1
 rw [e] at this; cases this
theorem Inv.bs (I : Inv X pins σ H s) : ∀ b o,X.base.get? b = some o → s.heap.get? b = some o ∧ H b = none:=fun b o e =>
 ⟨I.base.keep b o (I.ok.bs b o e).1 (I.ok.bs b o e).2 (I.ok.nofr e) (I.ok.noex b o e),I.base.free b o (I.ok.bs b o e).1 (I.ok.bs b o e).2 (I.ok.noex b o e)⟩
theorem Inv.bk (I : Inv X pins σ H s) : ∀ b o,X.base.get? b = some o → s.heap.get? b = some o:=fun b o e => (I.bs b o e).1
theorem Inv.mod (I : Inv X pins σ H s) : Mod X.K X.mg X.base:=I.ok.mod
theorem Inv.kIn (I : Inv X pins σ H s) : X.K.In s.heap:=I.ok.mod.kin.keeps I.bk
theorem Inv.lt (I : Inv X pins σ H s) : X.env.locals < s.heap.objs.size:=let ⟨_,hn,_⟩:=I.loc; hn.lt
theorem Inv.sz (I : Inv X pins σ H s) : X.s₀.heap.objs.size ≤ s.heap.objs.size:=Nat.le_trans I.ok.above (Nat.le_of_lt I.lt)
theorem Inv.nofs (I : Inv X pins σ H s) {a : Addr} (h : s.heap.objs.size ≤ a) : a ∉ X.fs:=fun hb => by
 obtain ⟨_,o,ho,_⟩:=I.ok.funs.mem hb
 exact absurd (Nat.lt_of_lt_of_le (Heap.lt_size ho) (Nat.le_trans I.sz h)) (Nat.lt_irrefl _)
theorem Inv.cne (I : Inv X pins σ H s) : ∀ x c,X.env.cells.lookup x = some c → c ≠ X.env.locals:=fun x c e z => by
 obtain ⟨v,o,ho,hd⟩:=I.cell x c e
 obtain ⟨m,⟨o',es,ep,ho',hd',_⟩,_⟩:=I.loc
 rw [z,ho'] at ho; cases ho; rw [hd'] at hd; cases hd
theorem Inv.funs (I : Inv X pins σ H s) : s.heap.FunFrames X.base X.outer:=by
 have all : ∀ (l : List Env),(∀ b ∈ frs l,b ∈ X.fs) → X.s₀.heap.FunFrames X.base l → s.heap.FunFrames X.base l:=by
  intro l
  induction l with
  | nil => intro _ _; trivial
  | cons env r ih =>
   intro hs hl
   obtain ⟨hk,⟨L,o,hf,hn,ho,hd⟩,hr⟩:=hl
   have hL : L ∈ X.fs:=hs L (by unfold frs; rw [List.filterMap_cons,hf]; exact List.mem_cons_self)
   obtain ⟨sl,e⟩:=I.base.slot L o ho (I.ok.frf L hL) hL fun z => I.ok.exfs L z hL
   exact ⟨hk,⟨L,_,hf,hn,e,hd⟩,ih (fun b hb => hs b (by unfold frs; rw [List.filterMap_cons,hf]; exact List.mem_cons_of_mem _ hb)) hr⟩
 exact all X.outer (fun _ hb => hb) I.ok.funs
theorem Inv.stack (I : Inv X pins σ H s) : s.heap.FunFrames X.base X.stack:=by
 rcases I.ok.stk with e | ⟨e,hf⟩
 ·rw [e]; exact I.funs
 ·rw [e]
  obtain ⟨m,hn,_⟩:=I.loc
  refine .cons (by rw [I.ok.kind]; decide) hf hn ?_ I.funs
  exact Heap.get?_none_of_le (Nat.le_trans I.ok.bsz I.ok.above)
theorem Inv.stkSub (I : Inv X pins σ H s) : ∀ b ∈ frs X.stack,b ∈ X.env.locals :: X.fs:=fun b hb => by
 rcases I.ok.stk with e | ⟨e,hf⟩
 ·rw [e] at hb; exact List.mem_cons_of_mem _ hb
 ·rw [e] at hb
  unfold frs at hb
  rw [List.filterMap_cons,hf] at hb
  exact hb
theorem Inv.stkFree (I : Inv X pins σ H s) : ∀ b ∈ frs X.stack,H b = none:=fun b hb => by
 rcases List.mem_cons.mp (I.stkSub b hb) with e | hb
 ·rw [e]; exact I.free
 ·obtain ⟨_,o,ho,_⟩:=I.ok.funs.mem hb
  exact I.base.free b o ho (I.ok.frf b hb) fun z => I.ok.exfs b z hb
theorem Inv.step {g' : Array GenState} {t' : Nat} {d' : Drawn} {ch : List Addr} (I : Inv X pins σ H s)
  (hch : ∀ b ∈ ch,(b ∈ X.ex ∨ X.s₀.heap.objs.size ≤ b) ∧ b ≠ X.env.locals ∧ (∀ x c,X.env.cells.lookup x = some c → c ≠ b) ∧ ∀ p ∈ X.pn ++ pins,p.1 ≠ b)
  (keep : ∀ b o,b ≠ X.env.locals → b ∉ X.fs → b ∉ ch → s.heap.get? b = some o → H b = none → h'.get? b = some o)
  (slot : ∀ b o,b ≠ X.env.locals → b ∈ X.fs → b ∉ ch → s.heap.get? b = some o → H b = none → ∃ sl,h'.get? b = some { o with slots:=sl }) (free : ∀ b o,b ∉ ch → s.heap.get? b = some o → H b = none → H' b = none)
  (there : ∀ b o,b ∉ ch → s.heap.get? b = some o → ∃ o',h'.get? b = some o')
  (tups : ∀ b xs,H b = some (.tup xs) → H' b = some (.tup xs)) (frzs : ∀ b o u,H b = some (.frz o u) → H' b = some (.frz o u)) (tbls : ∀ b ps,H b = some (.tbl ps) → ∃ more,H' b = some (.tbl (ps ++ more)))
  (ns : ∀ m,s.heap.Ns X.env.locals m → h'.Ns X.env.locals m) (hok : HOk X.prog X.w H' h') (hg : AllBare g') :
  Inv X pins σ H' { s with heap:=h',gens:=g',drawn:=d',toks:=t' }:=by
 have neL : ∀ b o,X.s₀.heap.get? b = some o → b ≠ X.env.locals:=fun b o e => Nat.ne_of_lt (Nat.lt_of_lt_of_le (Heap.lt_size e) I.ok.above)
 have neC : ∀ b o,X.s₀.heap.get? b = some o → b ∉ X.ex → b ∉ ch:=fun b o e hx hb => by
  rcases (hch b hb).1 with z | z
  ·exact hx z
  ·exact absurd (Nat.lt_of_lt_of_le (Heap.lt_size e) z) (Nat.lt_irrefl _)
 have cellK : ∀ x c,X.env.cells.lookup x = some c → ∀ v,s.heap.IsCell c v → h'.IsCell c v:=fun x c e v ⟨o,ho,hd⟩ => by
  have nch : c ∉ ch:=fun z => (hch c z).2.2.1 x c e rfl
  by_cases hc : c ∈ X.fs
  ·obtain ⟨sl,q⟩:=slot c o (I.cne x c e) hc nch ho (I.freeC x c e)
   exact ⟨_,q,hd⟩
  ·exact ⟨o,keep c o (I.cne x c e) hc nch ho (I.freeC x c e),hd⟩
 refine ⟨I.ok,I.os,hg,⟨fun b o e n hb hx => ?_,fun b o e n hb hx => ?_,fun b o e n hx => ?_,fun b o e hx => ?_,fun b xs e => tups b xs (I.base.tups b xs e),fun b o xs e => frzs b o xs (I.base.frzs b o xs e),fun b ps e => ?_⟩,?_,fun x c e => ?_,?_,fun x c e => ?_,fun p hp => ?_,hok,I.len⟩
 ·exact keep b o (neL b o e) hb (neC b o e hx) (I.base.keep b o e n hb hx) (I.base.free b o e n hx)
 ·obtain ⟨sl,e1⟩:=I.base.slot b o e n hb hx
  obtain ⟨sl',e2⟩:=slot b _ (neL b o e) hb (neC b o e hx) e1 (I.base.free b o e n hx)
  exact ⟨sl',e2⟩
 ·obtain ⟨o',e1⟩:=I.base.there b o e hx
  exact free b o' (neC b o e hx) e1 (I.base.free b o e n hx)
 ·obtain ⟨o',e1⟩:=I.base.there b o e hx
  exact there b o' (neC b o e hx) e1
 ·obtain ⟨m1,e1⟩:=I.base.tbls b ps e
  obtain ⟨m2,e2⟩:=tbls b _ e1
  exact ⟨m1 ++ m2,by rw [e2,Array.append_assoc]⟩
 ·obtain ⟨m,hn,hl⟩:=I.loc
  refine ⟨m,ns m hn,fun i x v e1 e2 e3 => ?_⟩
  obtain ⟨u,r,l⟩:=hl i x v e1 e2 e3
  refine ⟨u,r,?_⟩
  rcases l with l | ⟨k,c,e,z⟩
  ·exact .inl l
  ·exact .inr ⟨k,c,e,cellK x c e _ z⟩
 ·obtain ⟨v,z⟩:=I.cell x c e
  exact ⟨v,cellK x c e v z⟩
 ·obtain ⟨m,⟨o,_,_,ho,_⟩,_⟩:=I.loc
  exact free _ o (fun z => (hch _ z).2.1 rfl) ho I.free
 ·obtain ⟨v,o,ho,hd⟩:=I.cell x c e
  exact free c o (fun z => (hch c z).2.2.1 x c e rfl) ho (I.freeC x c e)
 ·obtain ⟨e,n,ne,nf,d⟩:=I.pin p hp
  have nch : p.1 ∉ ch:=fun z => (hch p.1 z).2.2.2 p hp rfl
  exact ⟨keep p.1 p.2 ne nf nch e n,free p.1 p.2 nch e n,ne,nf,d⟩
theorem Inv.un {t' : Nat} (I : Inv X pins σ H s) (u : Un X.fs [] H H' s.heap h') (hok : HOk X.prog X.w H' h') : Inv X pins σ H' { s with heap:=h',toks:=t' }:=by
 obtain ⟨m,⟨o,es,ep,ho,r⟩,_⟩:=id I.loc
 obtain ⟨sl,hL⟩:=u.any ho I.free (by simp)
 exact I.step (g':=s.gens) (d':=s.drawn) (ch:=[]) (fun _ z => nomatch z) (fun b o _ hb _ e n => u.keep b o e n hb (by simp)) (fun b o _ hb _ e n => u.slot b o e n hb (by simp)) (fun b o _ e n => u.free b o e n (by simp)) (fun b o _ e => u.there b o e (by simp)) u.tups u.frzs u.tbls (fun m' hm => by
  obtain ⟨o',es',ep',ho',r'⟩:=hm
  rw [ho] at ho'; cases ho'
  exact ⟨_,es',ep',hL,r'⟩) hok I.bare
theorem Inv.call {g' : Array GenState} {t' : Nat} {d' : Drawn} {ch : List Addr} (I : Inv X pins σ H s) (u : Un (frs X.stack) ch H H' s.heap h') (hok : HOk X.prog X.w H' h') (hg : AllBare g')
  (hch : ∀ b ∈ ch,(b ∈ X.ex ∨ X.s₀.heap.objs.size ≤ b) ∧ b ≠ X.env.locals ∧ (∀ x c,X.env.cells.lookup x = some c → c ≠ b) ∧ ∀ p ∈ X.pn ++ pins,p.1 ≠ b) :
  Inv X pins σ H' { s with heap:=h',gens:=g',drawn:=d',toks:=t' }:=by
 obtain ⟨m,⟨o,es,ep,ho,r⟩,_⟩:=id I.loc
 obtain ⟨sl,hL⟩:=u.any ho I.free fun z => (hch _ z).2.1 rfl
 exact I.step (ch:=ch) hch (fun b o hL hb hc e n => u.keep b o e n (fun z => (List.mem_cons.mp (I.stkSub b z)).elim hL hb) hc) (fun b o _ _ hc e n => u.any e n hc) (fun b o hc e n => u.free b o e n hc) (fun b o hc e => u.there b o e hc) u.tups u.frzs u.tbls (fun m' hm => by
  obtain ⟨o',es',ep',ho',r'⟩:=hm
  rw [ho] at ho'; cases ho'
  exact ⟨_,es',ep',hL,r'⟩) hok hg
theorem Inv.turned {t' : Nat} {it : Addr} (I : Inv X pins σ H s) (k : ∀ b o,b ≠ it → s.heap.get? b = some o → h'.get? b = some o) (hn : H it = none) (hL : it ≠ X.env.locals)
  (h1 : it ∈ X.ex ∨ X.s₀.heap.objs.size ≤ it) (h2 : ∀ x c,X.env.cells.lookup x = some c → c ≠ it) (h3 : ∀ p ∈ X.pn ++ pins,p.1 ≠ it) : Inv X pins σ H { s with heap:=h',toks:=t' }:=by
 have nit : ∀ b u,H b = some u → b ≠ it:=fun b u e z => by rw [z,hn] at e; cases e
 refine I.step (g':=s.gens) (d':=s.drawn) (ch:=[it]) (fun b hb => ?_) (fun b o _ _ hc e _ => k b o (fun z => hc (by simp [z])) e) (fun b o _ _ hc e _ => ⟨o.slots,k b o (fun z => hc (by simp [z])) e⟩) (fun _ _ _ _ n => n)
  (fun b o hc e => ⟨o,k b o (fun z => hc (by simp [z])) e⟩) (fun _ _ e => e) (fun _ _ _ e => e) (fun b ps e => ⟨#[],by rw [e]; simp⟩) (fun m hm => ?_) (fun b u e => ?_) I.bare
 ·have e : b = it:=by simpa using hb
  subst e
  exact ⟨h1,hL,h2,h3⟩
 ·obtain ⟨o,es,ep,ho,r⟩:=hm
  exact ⟨o,es,ep,k _ o (Ne.symm hL) ho,r⟩
 ·refine (I.hok b u e).stay (fun c v hc q => k c v ?_ q) (fun _ q => q) fun _ _ q => q
  rcases hc with z | z
  ·rw [z]; exact nit b u e
  ·exact nit c _ z
theorem Inv.tok (I : Inv X pins σ H s) (t : Nat) : Inv X pins σ H { s with toks:=t }:=I.un (h':=s.heap) (t':=t) Un.refl I.hok
theorem Inv.kept {t' : Nat} (I : Inv X pins σ H s) (k : ∀ b u,s.heap.get? b = some u → h'.get? b = some u) : Inv X pins σ H { s with heap:=h',toks:=t' }:=I.un (Un.kept k) (I.hok.kept k)
theorem Inv.laid {a : Addr} {o : HO} {t' : Nat} (I : Inv X pins σ H s) (k : ∀ b u,s.heap.get? b = some u → h'.get? b = some u) (hp : s.heap.objs.size ≤ a) (new : zaj X.prog X.w (upd H a o) h' a o) :
  Inv X pins σ (upd H a o) { s with heap:=h',toks:=t' }:=I.un (Un.laid k hp (I.hok.fresh hp)) (I.hok.laid k hp new)
theorem Inv.write {x e : Addr} {o : HO} {t' : Nat} (I : Inv X pins σ H s) (mu : Mut (H x)) (he : e = x ∨ H e = some (.own x)) (k : ∀ b u,b ≠ e → s.heap.get? b = some u → h'.get? b = some u) (heo : ∃ u,h'.get? e = some u)
  (new : zaj X.prog X.w (upd H x o) h' x o) : Inv X pins σ (upd H x o) { s with heap:=h',toks:=t' }:=I.un (Un.write mu he k heo) (I.hok.write mu he k heo new)
theorem Inv.weak {σ' : List (Option V)} (I : Inv X pins σ H s) (hl : σ'.length = σ.length) (w : ∀ (i : Nat) v,σ'[i]? = some (some v) → σ[i]? = some (some v)) : Inv X pins σ' H s :=
 ⟨I.ok,I.os,I.bare,I.base,let ⟨m,hn,hl'⟩:=I.loc; ⟨m,hn,fun i x v e1 e2 e3 => hl' i x v e1 (w i v e2) e3⟩,I.cell,I.free,I.freeC,I.pin,I.hok,hl.trans I.len⟩
theorem Inv.pins_of {pins' : List (Addr × Obj)} (I : Inv X pins σ H s) (h : ∀ p ∈ pins',s.heap.get? p.1 = some p.2 ∧ H p.1 = none ∧ p.1 ≠ X.env.locals ∧ p.1 ∉ X.fs ∧ ∀ v,p.2.data ≠ .cell v) : Inv X pins' σ H s :=
 ⟨I.ok,I.os,I.bare,I.base,I.loc,I.cell,I.free,I.freeC,fun p hp => (List.mem_append.mp hp).elim (fun z => I.pin p (List.mem_append_left _ z)) (h p),I.hok,I.len⟩
theorem zd3 {N : List Str} (hN : N.Nodup) {i j : Nat} {x : Str} (a : N[i]? = some x) (b : N[j]? = some x) : i = j:=by
 obtain ⟨h1,e1⟩:=List.getElem?_eq_some_iff.mp a
 obtain ⟨h2,e2⟩:=List.getElem?_eq_some_iff.mp b
 exact (List.getElem_inj hN).mp (e1.trans e2.symm)
theorem zdk {M : Model} {A : Around} {E : Value → Shared → Prop} {i : Nat} {x : Str} {v : V} {u : Value} {Q : Unit → Shared → Prop} (I : Inv X pins σ H s) (hN : X.N.Nodup) (hi : X.N[i]? = some x) (hx : Loc X.env.scope x) (r : RelV v u)
  (h : ∀ s',Inv X pins (σ.set i (some v)) H s' → (∃ a,Heap.SameBut a s.heap s'.heap ∧ (a = X.env.locals ∨ X.env.cells.lookup x = some a)) → Q () s') (hf : X.fn x = true ∨ X.env.scope.names.lookup x = some .local:=by first | exact .inl rfl | exact .inr rfl | assumption) : wpAny M A (storeName X.env x u) Q E s:=by
 obtain ⟨m,hn,hl⟩:=id I.loc
 have hcls : (X.env.scope.kind == .class || (X.env.scope.kind == .module && X.env.locals != X.env.globals)) = false:=by rw [I.ok.kind]; rfl
 have hiσ : i < σ.length:=by rw [I.len]; exact (List.getElem?_eq_some_iff.mp hi).1
 have cne:=I.cne
 have tracked : ∀ {a : Addr} {h' : Heap},(∃ o,s.heap.get? a = some o ∧ H a = none) → Heap.SameBut a s.heap h' → HOk X.prog X.w H h':=fun {a h'} ha hs b ob e => by
  obtain ⟨_,_,hfree⟩:=ha
  refine (I.hok b ob e).stay (fun c w' hc q => (hs.2 c ?_).trans q) (fun _ q => q) fun _ _ q => q
  rintro rfl
  rcases hc with rfl | hc
  ·rw [hfree] at e; cases e
  ·rw [hfree] at hc; cases hc
 rcases hx with hk | hk
 ·refine wpAny_storeName_local hk hn (fun h' hn' hs => ?_) hcls
  obtain ⟨oL,_,_,hoL,_⟩:=id hn
  refine h _ ⟨I.ok,I.os,I.bare,⟨fun b o e n hb hx => ?_,fun b o e n hb hx => ?_,I.base.free,fun b o e hx => ?_,I.base.tups,I.base.frzs,I.base.tbls⟩,⟨_,hn',fun j y v' e1 e2 e3 => ?_⟩,fun y c e => ?_,I.free,I.freeC,fun p hp => ?_,tracked ⟨oL,hoL,I.free⟩ hs,by simpa using I.len⟩ ⟨_,hs,.inl rfl⟩
  ·exact (hs.2 b (Nat.ne_of_lt (Nat.lt_of_lt_of_le (Heap.lt_size e) I.ok.above))).trans (I.base.keep b o e n hb hx)
  ·obtain ⟨sl,e1⟩:=I.base.slot b o e n hb hx
   exact ⟨sl,(hs.2 b (Nat.ne_of_lt (Nat.lt_of_lt_of_le (Heap.lt_size e) I.ok.above))).trans e1⟩
  ·obtain ⟨o',e1⟩:=I.base.there b o e hx
   exact ⟨o',(hs.2 b (Nat.ne_of_lt (Nat.lt_of_lt_of_le (Heap.lt_size e) I.ok.above))).trans e1⟩
  ·by_cases hj : j = i
   ·subst hj
    rw [hi] at e1; cases e1
    rw [List.getElem?_set_self hiσ] at e2
    cases e2
    exact ⟨u,r,.inl ⟨hk,by simp⟩⟩
   ·rw [List.getElem?_set_ne (Ne.symm hj)] at e2
    obtain ⟨u',r',q⟩:=hl j y v' e1 e2 e3
    refine ⟨u',r',?_⟩
    rcases q with ⟨k,e⟩ | ⟨k,c,e,z⟩
    ·refine .inl ⟨k,?_⟩
     have : y ≠ x:=fun e => hj (zd3 hN e1 (e ▸ hi))
     simp [this,e]
    ·exact .inr ⟨k,c,e,z.sameBut hs (cne y c e)⟩
  ·obtain ⟨w',z⟩:=I.cell y c e
   exact ⟨w',z.sameBut hs (cne y c e)⟩
  ·obtain ⟨e,n,ne,nf,d⟩:=I.pin p hp
   exact ⟨(hs.2 p.1 ne).trans e,n,ne,nf,d⟩
 ·have hfn : X.fn x = true:=by
   rcases hf with z | z
   ·exact z
   ·rw [z] at hk; cases hk
  obtain ⟨c,hc⟩:=I.ok.has x (.inl hk)
  obtain ⟨w',z⟩:=I.cell x c hc
  refine wpAny_storeName_cell I.ok.kind hk hc z (fun h' hc' hs => ?_)
  obtain ⟨oc,hoc,hocd⟩:=id z
  refine h { s with heap:=h' } ⟨I.ok,I.os,I.bare,⟨fun b o e n hb hx => ?_,fun b o e n hb hx => ?_,I.base.free,fun b o e hx => ?_,I.base.tups,I.base.frzs,I.base.tbls⟩,⟨m,hn.sameBut hs (Ne.symm (cne x c hc)),fun j y v' e1 e2 e3 => ?_⟩,fun y c' e => ?_,I.free,I.freeC,fun p hp => ?_,tracked ⟨oc,hoc,I.freeC x c hc⟩ hs,by simpa using I.len⟩ ⟨c,hs,.inr hc⟩
  ·exact (hs.2 b (Nat.ne_of_lt (Nat.lt_of_lt_of_le (Heap.lt_size e) (I.ok.cab x c hfn hc)))).trans (I.base.keep b o e n hb hx)
  ·obtain ⟨sl,e1⟩:=I.base.slot b o e n hb hx
   exact ⟨sl,(hs.2 b (Nat.ne_of_lt (Nat.lt_of_lt_of_le (Heap.lt_size e) (I.ok.cab x c hfn hc)))).trans e1⟩
  ·obtain ⟨o',e1⟩:=I.base.there b o e hx
   exact ⟨o',(hs.2 b (Nat.ne_of_lt (Nat.lt_of_lt_of_le (Heap.lt_size e) (I.ok.cab x c hfn hc)))).trans e1⟩
  ·by_cases hj : j = i
   ·subst hj
    rw [hi] at e1; cases e1
    rw [List.getElem?_set_self hiσ] at e2
    cases e2
    exact ⟨u,r,.inr ⟨.inl hk,c,hc,hc'⟩⟩
   ·rw [List.getElem?_set_ne (Ne.symm hj)] at e2
    obtain ⟨u',r',q⟩:=hl j y v' e1 e2 e3
    refine ⟨u',r',?_⟩
    rcases q with q | ⟨k,c',e,z'⟩
    ·exact .inl q
    ·refine .inr ⟨k,c',e,z'.sameBut hs ?_⟩
     rintro rfl
     exact hj (zd3 hN e1 (I.ok.inj _ _ _ e hc ▸ hi))
  ·by_cases hcc : c' = c
   ·subst hcc; exact ⟨_,hc'⟩
   ·obtain ⟨w2,z2⟩:=I.cell y c' e
    exact ⟨w2,z2.sameBut hs hcc⟩
  ·obtain ⟨e,n,ne,nf,d⟩:=I.pin p hp
   refine ⟨(hs.2 p.1 ?_).trans e,n,ne,nf,d⟩
   intro q
   rw [q,hoc] at e
   have q' : oc = p.2:=Option.some.inj e
   exact d w' (by rw [← q']; exact hocd)
theorem zbp {M : Model} {A : Around} {E : Value → Shared → Prop} {i : Nat} {x : Str} {v : V} {u : Value} {Q : Unit → Shared → Prop} (I : Inv X pins σ H s) (hN : X.N.Nodup) (hi : X.N[i]? = some x) (hx : Loc X.env.scope x) (r : RelV v u)
  (h : ∀ s',Inv X pins (σ.set i (some v)) H s' → Q () s') (hf : X.fn x = true ∨ X.env.scope.names.lookup x = some .local:=by first | exact .inl rfl | exact .inr rfl | assumption) : wpAny M A (storeName X.env x u) Q E s :=
 zdk I hN hi hx r (fun s' I' _ => h s' I') hf
theorem Inv.call' {s' : Shared} {ch : List Addr} (I : Inv X pins σ H s) (ho : s'.os = s.os) (u : Un (frs X.stack) ch H H' s.heap s'.heap) (hok : HOk X.prog X.w H' s'.heap) (hg : AllBare s'.gens)
  (hch : ∀ b ∈ ch,(b ∈ X.ex ∨ X.s₀.heap.objs.size ≤ b) ∧ b ≠ X.env.locals ∧ (∀ x c,X.env.cells.lookup x = some c → c ≠ b) ∧ ∀ p ∈ X.pn ++ pins,p.1 ≠ b) : Inv X pins σ H' s':=by
 obtain ⟨h',g',d',t',o'⟩:=s'
 have e : o' = s.os:=ho
 subst e
 exact I.call (g':=g') (t':=t') (d':=d') u hok hg hch
end
abbrev XK:=Value → Option Addr → Hp → Prop
abbrev St:=List (Option V)
abbrev VK:=V → Hp → Prop
abbrev TE:=St → Hp → VK → Prop
abbrev TT:=St → Hp → (Bool → Hp → Prop) → Prop
abbrev TA:=St → Hp → (List V → Hp → Prop) → Prop
structure Ends where
 nx : St → Hp → Prop
 rt : VK
 bk : St → Hp → Prop:=fun _ _ => False
 ct : St → Hp → Prop:=fun _ _ => False
abbrev TS:=Ends → St → Hp → Prop
def EP (X : Cx) (pins : List (Addr × Obj)) (σ : St) (Q : VK) (u : Value) (s' : Shared) : Prop:=∃ v H',Inv X pins σ H' s' ∧ RelV v u ∧ Q v H'
def TP (X : Cx) (pins : List (Addr × Obj)) (σ : St) (Q : Bool → Hp → Prop) (b : Bool) (s' : Shared) : Prop:=∃ H',Inv X pins σ H' s' ∧ Q b H'
def AP (X : Cx) (pins : List (Addr × Obj)) (σ : St) (Q : List V → Hp → Prop) (us : List Value) (s' : Shared) : Prop:=∃ vs H',Inv X pins σ H' s' ∧ zC vs us ∧ Q vs H'
def SP (X : Cx) (pins : List (Addr × Obj)) (D : Ends) (f : Flow) (s' : Shared) : Prop :=
 match f with
 | .next => ∃ σ' H',Inv X pins σ' H' s' ∧ D.nx σ' H'
 | .brk => ∃ σ' H',Inv X pins σ' H' s' ∧ D.bk σ' H'
 | .cont => ∃ σ' H',Inv X pins σ' H' s' ∧ D.ct σ' H'
 | .ret u => ∃ v σ' H',Inv X pins σ' H' s' ∧ RelV v u ∧ D.rt v H'
def PE (X : Cx) (e : Expr) (t : TE) : Prop :=
 ∀ (pins : List (Addr × Obj)) (s : Shared) (σ : St) (H : Hp) (Q : VK),Inv X pins σ H s → t σ H Q → wpAny (model X.prog X.w) X.A (eval e X.env) (EP X pins σ Q) X.xe s
def PT (X : Cx) (e : Expr) (t : TT) : Prop :=
 ∀ (pins : List (Addr × Obj)) (s : Shared) (σ : St) (H : Hp) (Q : Bool → Hp → Prop),Inv X pins σ H s → t σ H Q → wpAny (model X.prog X.w) X.A (isTrue e X.env (eval e X.env)) (TP X pins σ Q) X.xe s
def PW (X : Cx) (e : Expr) (t : TT) : Prop :=
 ∀ (whole : Sem Value) (pins : List (Addr × Obj)) (s : Shared) (σ : St) (H : Hp) (Q : Bool → Hp → Prop),Inv X pins σ H s → t σ H Q → wpAny (model X.prog X.w) X.A (isTrue e X.env whole) (TP X pins σ Q) X.xe s
theorem PW.pt {X : Cx} {e : Expr} {t : TT} (h : PW X e t) : PT X e t:=h _
def PA (X : Cx) (es : List Expr) (t : TA) : Prop :=
 ∀ (pos : Pos) (pins : List (Addr × Obj)) (s : Shared) (σ : St) (H : Hp) (Q : List V → Hp → Prop),Inv X pins σ H s → t σ H Q → wpAny (model X.prog X.w) X.A (spliced (backTo pos (starEach es X.env))) (AP X pins σ Q) X.xe s
def PS (X : Cx) (st : Stmt) (t : TS) : Prop :=
 ∀ (pins : List (Addr × Obj)) (s : Shared) (σ : St) (H : Hp) (D : Ends),Inv X pins σ H s → t D σ H → wpAny (model X.prog X.w) X.A (exec st X.env) (SP X pins D) X.xe s
def PSs (X : Cx) (st : List Stmt) (t : TS) : Prop :=
 ∀ (pins : List (Addr × Obj)) (s : Shared) (σ : St) (H : Hp) (D : Ends),Inv X pins σ H s → t D σ H → wpAny (model X.prog X.w) X.A (execs st X.env) (SP X pins D) X.xe s
theorem thn {α : Type} {t : Sem α} {Q Q' : α → Shared → Prop} {M : Model} {A : Around} {E : Value → Shared → Prop} {s : Shared} (h : wpAny M A t Q E s) (hQ : ∀ a s,Q a s → Q' a s) : wpAny M A t Q' E s:=wpAny_mono h hQ fun _ _ x => x
end L2
namespace L2
open PySem PySem.Spec PyProof.Rows
section
variable {X : Cx}
def zi1 (i : Nat) : TE:=fun σ H Q => ∃ v,σ[i]? = some (some v) ∧ Q v H
def tC (v : V) : TE:=fun _ H Q => Q v H
theorem zig {i : Nat} {x : Str} {pos : Pos} (hN : X.N[i]? = some x) (hv : Vis X.env.scope x) (hd : (x == ("__debug__" : Str)) = false:=by decide) (hcd : (x == ("__classdict__" : Str)) = false:=by decide) : PE X (.Name x pos) (zi1 i):=by
 intro pins s σ H Q I h
 obtain ⟨v,e,h⟩:=h
 obtain ⟨m,hn,hl⟩:=I.loc
 obtain ⟨u,r,l⟩:=hl i x v hN e hv
 have fin : EP X pins σ Q u s:=⟨v,H,I,r,h⟩
 rcases l with ⟨hk,hm⟩ | ⟨hk,c,hc,hcell⟩
 ·exact wpAny_Name (wpAny_loadName_local I.ok.kind hk hn hm fin) hd
 ·rcases hk with hk | hk
  ·exact wpAny_Name (wpAny_loadName_cell I.ok.kind hk hc hcell fin) hd
  ·exact wpAny_Name (wpAny_loadName_free I.ok.kind hk hc hcell fin hcd) hd
theorem zf {i j pos} : PE X (.Constant (.int i) j pos) (tC (.int i)):=fun _ _ _ H _ I h => wpAny_Constant_int ⟨.int i,H,I.tok _,⟨_,rfl⟩,h⟩
theorem zci {b j pos} : PE X (.Constant (.bool b) j pos) (tC (.bl b)):=fun _ _ _ H _ I h => Constant_bool ⟨.bl b,H,I,rfl,h⟩
theorem zbq {j pos} : PE X (.Constant .none j pos) (tC .non):=fun _ _ _ H _ I h => Constant_none ⟨.non,H,I,rfl,h⟩
def Gl (X : Cx) (x : Str) : Prop:=X.env.kindOf x = some .globalImplicit
theorem zhh {E : Value → Shared → Prop} {pins : List (Addr × Obj)} {s : Shared} {σ : St} {H : Hp} {x : Str} {u : Value} {pos : Pos} {Q : Value → Shared → Prop} (I : Inv X pins σ H s) (hg : Gl X x) (hm : X.mg x = some u) (h : Q u s)
  (hd : (x == ("__debug__" : Str)) = false:=by decide) : wpAny (model X.prog X.w) X.A (eval (.Name x pos) X.env) Q E s :=
 Calls.Name_function_global I.ok.kind hg (Calls.loadGlobal_global (by rw [I.ok.glob]; exact I.mod.glob.keeps I.bk) hm h) hd
theorem zbd {E : Value → Shared → Prop} {pins : List (Addr × Obj)} {s : Shared} {σ : St} {H : Hp} {x : Str} {u : Value} {pos : Pos} {Q : Value → Shared → Prop} (I : Inv X pins σ H s) (hg : Gl X x) (hm : X.mg x = none) (hv : bootBuiltins x = some u) (h : Q u s)
  (hn : x ≠ "__name__":=by decide) (hd : (x == ("__debug__" : Str)) = false:=by decide) : wpAny (model X.prog X.w) X.A (eval (.Name x pos) X.env) Q E s:=by
 obtain ⟨mb,h1,h2⟩:=I.mod.blt
 exact Calls.Name_function_global I.ok.kind hg (Calls.loadGlobal_builtin (by rw [I.ok.glob]; exact I.mod.glob.keeps I.bk) hm (by rw [I.ok.blt]; exact h1.keeps I.bk) ((h2 x hn).trans hv) h) hd
theorem zbY {x : Str} {v : V} {u : Value} {pos : Pos} (hg : Gl X x) (hm : X.mg x = none) (hv : bootBuiltins x = some u) (r : RelV v u) (hn : x ≠ "__name__":=by decide) (hd : (x == ("__debug__" : Str)) = false:=by decide) : PE X (.Name x pos) (tC v) :=
 fun _ _ _ H _ I h => zbd I hg hm hv ⟨v,H,I,r,h⟩ hn hd
variable {a b : Expr} {ta tb : TE} {pos : Pos}
def tB (t : TE) : TT:=fun σ H Q => t σ H fun x H1 => ∃ c,x = .bl c ∧ Q c H1
theorem zcB {e : Expr} {t : TE} (h : PE X e t) (he : ∀ whole,isTrue e X.env whole = (do let v ← whole; standAt e.pos; holding [v] (truthy v)):=by intro _; rfl) : PT X e (tB t):=by
 intro pins s σ H Q I hw
 refine isTrue_plain (thn (h pins s σ H _ I hw) fun v s1 ⟨x,H1,I1,r1,q1⟩ => ?_) (he _)
 obtain ⟨d,rfl,q⟩:=q1
 cases r1
 exact wpAny_truthy_bool ⟨H1,I1,q⟩
variable {tA tB' : TT} {rest : List Expr}
def zjC (t u : TT) : TT:=fun σ H Q => t σ H fun c H1 => if c = true then u σ H1 Q else Q false H1
def tOr (t u : TT) : TT:=fun σ H Q => t σ H fun c H1 => if c = true then Q true H1 else u σ H1 Q
def zjD (t : TT) : TT:=fun σ H Q => t σ H fun c H1 => Q (!c) H1
theorem zdG (ha : PT X a tA) : PW X (.BoolOp .And [a] pos) tA:=by
 intro wh pins s σ H Q I h
 refine isTrue_and (thn (ha pins s σ H Q I h) fun c s1 e => ?_)
 cases c with
 | true => exact isTrue_and_nil e
 | false => exact e
theorem zeG (ha : PT X a tA) : PW X (.BoolOp .Or [a] pos) tA:=by
 intro wh pins s σ H Q I h
 refine isTrue_or (thn (ha pins s σ H Q I h) fun c s1 e => ?_)
 cases c with
 | false => exact isTrue_or_nil e
 | true => exact e
theorem zeH (ha : PT X a tA) (hb : PW X (.BoolOp .And (b :: rest) pos) tB') : PW X (.BoolOp .And (a :: b :: rest) pos) (zjC tA tB'):=by
 intro wh pins s σ H Q I h
 refine isTrue_and (thn (ha pins s σ H _ I h) fun c s1 ⟨H1,I1,q1⟩ => ?_)
 cases c with
 | true => exact hb wh pins s1 σ H1 Q I1 q1
 | false => exact ⟨H1,I1,q1⟩
theorem zcC (ha : PT X a tA) (hb : PW X (.BoolOp .Or (b :: rest) pos) tB') : PW X (.BoolOp .Or (a :: b :: rest) pos) (tOr tA tB'):=by
 intro wh pins s σ H Q I h
 refine isTrue_or (thn (ha pins s σ H _ I h) fun c s1 ⟨H1,I1,q1⟩ => ?_)
 cases c with
 | true => exact ⟨H1,I1,q1⟩
 | false => exact hb wh pins s1 σ H1 Q I1 q1
theorem zcD (ha : PT X a tA) : PT X (.UnaryOp .Not a pos) (zjD tA):=by
 intro pins s σ H Q I h
 exact isTrue_not (ha pins s σ H (fun c H1 => Q (!c) H1) I h)
def zi2 (ta tb : TE) : TE:=fun σ H Q => ta σ H fun x H1 => ∃ c,x = .bl c ∧ if c = true then tb σ H1 Q else Q (.bl false) H1
def zi3 (ta : TE) : TE:=fun σ H Q => ta σ H fun x H1 => ∃ c,x = .bl c ∧ Q (.bl (!c)) H1
theorem zf9 {op} {t : TE} (h : PE X a t) : PE X (.BoolOp op [a] pos) t:=fun pins s σ H Q I hw => BoolOp_one (h pins s σ H Q I hw)
theorem zga (ha : PE X a ta) (hb : PE X (.BoolOp .And (b :: rest) pos) tb) : PE X (.BoolOp .And (a :: b :: rest) pos) (zi2 ta tb):=by
 intro pins s σ H Q I h
 refine BoolOp_and (thn (ha pins s σ H _ I h) fun v s1 ⟨x,H1,I1,r1,q1⟩ => ?_)
 obtain ⟨c,rfl,q1⟩:=q1
 cases r1
 refine wpAny_truthy_bool ?_
 cases c with
 | true => exact hb pins s1 σ H1 Q I1 q1
 | false => exact ⟨.bl false,H1,I1,rfl,q1⟩
theorem zih (ha : PE X a ta) : PE X (.UnaryOp .Not a pos) (zi3 ta):=by
 intro pins s σ H Q I h
 refine UnaryOp_ (thn (ha pins s σ H _ I h) fun v s1 ⟨x,H1,I1,r1,q1⟩ => ?_)
 obtain ⟨c,rfl,q1⟩:=q1
 cases r1
 exact not_of (wpAny_truthy_bool ⟨.bl (!c),H1,I1,rfl,q1⟩)
def tIf (t : TT) (ta tb : TE) : TE:=fun σ H Q => t σ H fun c H1 => if c = true then ta σ H1 Q else tb σ H1 Q
theorem zcE {c : Expr} (hc : PT X c tA) (ha : PE X a ta) (hb : PE X b tb) : PE X (.IfExp c a b pos) (tIf tA ta tb):=by
 intro pins s σ H Q I h
 refine wpAny_IfExp (thn (hc pins s σ H _ I h) fun d s1 ⟨H1,I1,q1⟩ => ?_)
 cases d with
 | true => exact ha pins s1 σ H1 Q I1 q1
 | false => exact hb pins s1 σ H1 Q I1 q1
end
end L2
namespace L2
open PySem PySem.Spec PyProof.Rows
def SqL (K : PySem.W.Frag) (H : Hp) (a : Addr) (xs : List V) : Prop :=
 Rd H a (.lst xs) ∨
  ∃ (o : Obj) (its : Array Value) (n : Nat),K.lookup a = some o ∧ o.cls = .type "list" ∧ o.dict = none ∧ o.data = .seq its n ∧ its.size ≤ sizeLine ∧ zC xs its.toList
def SqT (K : PySem.W.Frag) (H : Hp) (a : Addr) (xs : List V) : Prop :=
 Rd H a (.tup xs) ∨
  ∃ (o : Obj) (its : Array Value) (n : Nat),K.lookup a = some o ∧ o.cls = .type "tuple" ∧ o.data = .seq its n ∧ its.size ≤ sizeLine ∧ zC xs its.toList
def zjE : Value → Option V
 | .none => some .non
 | .bool b => some (.bl b)
 | .int i _ => some (.int i)
 | .str x _ => some (.str x)
 | .bytes b _ => some (.byt b)
 | .float b _ => some (.flt b)
 | .ref a => some (.ref a)
 | .type n => some (.ty n)
 | _ => none
theorem RelV.abs {x : V} {u : Value} (r : RelV x u) : zjE u = some x:=by
 cases x with
 | non => cases r; rfl
 | bl _ => cases r; rfl
 | int _ => obtain ⟨t,rfl⟩:=r; rfl
 | str _ => obtain ⟨t,rfl⟩:=r; rfl
 | byt _ => obtain ⟨t,rfl⟩:=r; rfl
 | flt _ => obtain ⟨t,rfl⟩:=r; rfl
 | ref _ => cases r; rfl
 | ty _ => cases r; rfl
theorem RelV.inj {x y : V} {u : Value} (r : RelV x u) (q : RelV y u) : x = y:=Option.some.inj (r.abs.symm.trans q.abs)
theorem zC.inj : ∀ {xs ys : List V} {us : List Value},zC xs us → zC ys us → xs = ys
 | _,_,_,.nil,.nil => rfl
 | _,_,_,.cons r t,.cons r' t' => by rw [r.inj r',zC.inj t t']
section
variable {X : Cx} {pins : List (Addr × Obj)} {σ : St} {H : Hp} {s : Shared} {a : Addr} {xs ys : List V}
theorem SqL.of {K : PySem.W.Frag} (h : H a = some (.lst xs)) : SqL K H a xs:=.inl (.inl h)
theorem SqT.of {K : PySem.W.Frag} (h : H a = some (.tup xs)) : SqT K H a xs:=.inl (.inl h)
theorem Inv.list (I : Inv X pins σ H s) (h : SqL X.K H a xs) : ∃ its : List Value,zC xs its ∧ PlainL s.heap a its.toArray ∧ xs.length ≤ sizeLine:=by
 rcases h with h | ⟨o,its,n,hk,hc,hd,hs,hz,r⟩
 ·obtain ⟨z,its,n,r,e⟩:=h.ok I.hok
  exact ⟨its,r,⟨_,n,e,rfl,rfl,rfl⟩,z⟩
 ·refine ⟨its.toList,r,⟨o,n,I.kIn a o hk,hc,hd,by simpa using hs⟩,?_⟩
  have e:=r.length
  simp only [Array.length_toList] at e
  omega
theorem Inv.tuple (I : Inv X pins σ H s) (h : SqT X.K H a xs) : ∃ its : List Value,zC xs its ∧ IsTup s.heap a its.toArray ∧ xs.length ≤ sizeLine:=by
 rcases h with h | ⟨o,its,n,hk,hc,hs,hz,r⟩
 ·obtain ⟨z,its,r,p⟩:=h.ok I.hok
  exact ⟨its,r,p,z⟩
 ·refine ⟨its.toList,r,⟨o,I.kIn a o hk,hc,n,by simpa using hs⟩,?_⟩
  have e:=r.length
  simp only [Array.length_toList] at e
  omega
theorem Inv.list_inj (I : Inv X pins σ H s) (h : SqL X.K H a xs) (h' : SqL X.K H a ys) : xs = ys:=by
 obtain ⟨its,r,⟨o,n,e,_,_,d⟩,_⟩:=I.list h
 obtain ⟨its',r',⟨o',n',e',_,_,d'⟩,_⟩:=I.list h'
 rw [e] at e'; cases e'
 rw [d] at d'
 injection d' with d1 _
 have : its = its':=by simpa using congrArg Array.toList d1
 subst this
 exact r.inj r'
theorem Inv.tuple_inj (I : Inv X pins σ H s) (h : SqT X.K H a xs) (h' : SqT X.K H a ys) : xs = ys:=by
 obtain ⟨its,r,⟨o,e,_,n,d⟩,_⟩:=I.tuple h
 obtain ⟨its',r',⟨o',e',_,n',d'⟩,_⟩:=I.tuple h'
 rw [e] at e'; cases e'
 rw [d] at d'
 injection d' with d1 _
 have : its = its':=by simpa using congrArg Array.toList d1
 subst this
 exact r.inj r'
end
abbrev Cx.wish (X : Cx) (E : Value → Shared → Prop) : Cx:={ X with xe:=E }
abbrev Cx.nox (X : Cx) : Cx:=X.wish fun _ _ => False
theorem Cx.Ok.wish {X : Cx} (ok : X.Ok) (E : Value → Shared → Prop) : (X.wish E).Ok :=
 ⟨ok.mod,ok.kind,ok.glob,ok.blt,ok.above,ok.inj,ok.has,ok.cab,ok.hd,ok.frames,ok.stk,ok.exf,ok.bs,ok.bsz,ok.noex,ok.exfs,ok.funs,ok.frf⟩
theorem Cx.Ok.unwish {X : Cx} {E : Value → Shared → Prop} (ok : (X.wish E).Ok) : X.Ok :=
 ⟨ok.mod,ok.kind,ok.glob,ok.blt,ok.above,ok.inj,ok.has,ok.cab,ok.hd,ok.frames,ok.stk,ok.exf,ok.bs,ok.bsz,ok.noex,ok.exfs,ok.funs,ok.frf⟩
section
variable {X : Cx} {pins : List (Addr × Obj)} {σ : St} {H : Hp} {s : Shared} {E : Value → Shared → Prop}
theorem Inv.wish (I : Inv X pins σ H s) (E : Value → Shared → Prop) : Inv (X.wish E) pins σ H s:=⟨I.ok.wish E,I.os,I.bare,I.base,I.loc,I.cell,I.free,I.freeC,I.pin,I.hok,I.len⟩
theorem Inv.unwish (I : Inv (X.wish E) pins σ H s) : Inv X pins σ H s:=⟨I.ok.unwish,I.os,I.bare,I.base,I.loc,I.cell,I.free,I.freeC,I.pin,I.hok,I.len⟩
theorem SP.unwish {D : Ends} {f : Flow} {s' : Shared} (h : SP (X.wish E) pins D f s') : SP X pins D f s':=by
 cases f with
 | next => obtain ⟨σ',H',I,q⟩:=h; exact ⟨σ',H',I.unwish,q⟩
 | brk => obtain ⟨σ',H',I,q⟩:=h; exact ⟨σ',H',I.unwish,q⟩
 | cont => obtain ⟨σ',H',I,q⟩:=h; exact ⟨σ',H',I.unwish,q⟩
 | ret u => obtain ⟨v,σ',H',I,r,q⟩:=h; exact ⟨v,σ',H',I.unwish,r,q⟩
theorem PSs.nox {st : List Stmt} {t : TS} (h : PSs X.nox st t) : PSs X st t:=fun pins s σ H D I hw =>
 wpAny_mono (h pins s σ H D (I.wish _) hw) (fun _ _ q => q.unwish) fun _ _ z => False.elim z
end
section
variable {X : Cx} {st : Stmt} {rest : List Stmt} {t u : TS} {e : Expr} {te : TE} {pos : Pos}
def zi4 : TS:=fun D σ H => D.nx σ H
def zi5 (t u : TS) : TS:=fun D σ H => t { D with nx:=u D } σ H
theorem zZ : PSs X [] zi4:=fun _ _ σ H _ I h => wpAny_execs_nil ⟨σ,H,I,h⟩
theorem zc (h1 : PS X st t) (h2 : PSs X rest u) : PSs X (st :: rest) (zi5 t u):=by
 intro pins s σ H D I h
 refine wpAny_execs_cons (thn (h1 pins s σ H { D with nx:=u D } I h) fun f s1 q => ?_)
 cases f with
 | next =>
  obtain ⟨σ',H',I',q⟩:=q
  exact h2 pins s1 σ' H' D I' q
 | ret v => exact q
 | brk => exact q
 | cont => exact q
theorem zj (h1 : PS X st t) : PSs X [st] t:=by
 intro pins s σ H D I h
 refine wpAny_execs_cons (thn (h1 pins s σ H D I h) fun f s1 q => ?_)
 cases f with
 | next => exact wpAny_execs_nil q
 | ret v => exact q
 | brk => exact q
 | cont => exact q
theorem Inv.quiet {pins : List (Addr × Obj)} {σ : St} {H : Hp} {s : Shared} (I : Inv X pins σ H s) : interactive X.env = false:=by simp [interactive,I.ok.kind]
def zi6 (te : TE) : TS:=fun D σ H => te σ H fun _ H1 => D.nx σ H1
theorem zbD (he : PE X e te) (hs : swapsWith e none pos.line X.env = pure false:=by rfl) : PS X (.Expr e pos) (zi6 te):=by
 intro pins s σ H D I h
 exact wpAny_Expr_any (thn (he pins s σ H _ I h) fun v s1 ⟨x,H1,I1,r1,q1⟩ => ⟨σ,H1,I1,q1⟩) I.quiet hs
def zjF (te : TE) : TS:=fun D σ H => te σ H D.rt
theorem zG (he : PE X e te) : PS X (.Return (some e) pos) (zjF te):=by
 intro pins s σ H D I h
 exact wpAny_Return_some (thn (he pins s σ H _ I h) fun v s1 ⟨x,H1,I1,r1,q1⟩ => ⟨x,σ,H1,I1,r1,q1⟩)
def zjG (c : TT) (t u : TS) : TS:=fun D σ H => c σ H fun b H1 => if b = true then t D σ H1 else u D σ H1
theorem zaM {c : Expr} {a b : List Stmt} {tc : TT} (hc : PT X c tc) (ha : PSs X a t) (hb : PSs X b u) : PS X (.If c a b pos) (zjG tc t u):=by
 intro pins s σ H D I h
 refine wpAny_If (thn (hc pins s σ H _ I h) fun d s1 ⟨H1,I1,q1⟩ => ?_)
 cases d with
 | true => exact ha pins s1 σ H1 D I1 q1
 | false => exact hb pins s1 σ H1 D I1 q1
end
abbrev TG:=V → St → Hp → (St → Hp → Prop) → Prop
abbrev TGs:=List V → St → Hp → (St → Hp → Prop) → Prop
def PG (X : Cx) (target : Expr) (t : TG) : Prop :=
 ∀ (pins : List (Addr × Obj)) (s : Shared) (σ : St) (H : Hp) (v : V) (u : Value) (Q : St → Hp → Prop),Inv X pins σ H s → RelV v u → t v σ H Q →
  wpAny (model X.prog X.w) X.A (assign target X.env u) (fun _ s' => ∃ σ' H',Inv X pins σ' H' s' ∧ Q σ' H') X.xe s
def PGs (X : Cx) (ts : List Expr) (t : TGs) : Prop :=
 ∀ (pins : List (Addr × Obj)) (s : Shared) (σ : St) (H : Hp) (vs : List V) (us : List Value) (Q : St → Hp → Prop),Inv X pins σ H s → zC vs us → t vs σ H Q →
  wpAny (model X.prog X.w) X.A (assignInOrder ((assignEach ts X.env).map (·.2)) us) (fun _ s' => ∃ σ' H',Inv X pins σ' H' s' ∧ Q σ' H') X.xe s
abbrev zii:=V → V → V → Hp → (Hp → Prop) → Prop
def zi7 (X : Cx) (t : zii) : Prop :=
 ∀ (pins : List (Addr × Obj)) (s : Shared) (σ : St) (H : Hp) (o i v : V) (ov iv u : Value) (Q : Hp → Prop),Inv X pins σ H s → RelV o ov → RelV i iv → RelV v u → t o i v H Q →
  wpAny (model X.prog X.w) X.A (setItem ov iv u) (fun _ s' => ∃ H',Inv X pins σ H' s' ∧ Q H') X.xe s
abbrev TIp:=V → V → Hp → VK → Prop
def PIp (X : Cx) (op : Operator) (t : TIp) : Prop :=
 ∀ (pins : List (Addr × Obj)) (s : Shared) (σ : St) (H : Hp) (x y : V) (v u : Value) (Q : VK),Inv X pins σ H s → RelV x v → RelV y u → t x y H Q →
  wpAny (model X.prog X.w) X.A (inplaceOp op v u) (EP X pins σ Q) X.xe s
section
variable {X : Cx} {pos : Pos}
def zbr (i : Nat) : TG:=fun v σ H Q => Q (σ.set i (some v)) H
theorem zh {i : Nat} {x : Str} (hN : X.N.Nodup) (hi : X.N[i]? = some x) (hx : Loc X.env.scope x) (hf : X.fn x = true ∨ X.env.scope.names.lookup x = some .local:=by first | exact .inl rfl | exact .inr rfl | assumption) : PG X (.Name x pos) (zbr i):=by
 intro pins s σ H v u Q I r h
 exact wpAny_assign_Name (zbp I hN hi hx r (fun s' I' => ⟨_,H,I',h⟩) hf)
def zij : TGs:=fun vs σ H Q => vs = [] ∧ Q σ H
def ze7 (t : TG) (u : TGs) : TGs:=fun vs σ H Q => ∃ v r,vs = v :: r ∧ t v σ H fun σ' H' => u r σ' H' Q
theorem zR : PGs X [] zij:=by
 intro pins s σ H vs us Q I r h
 obtain ⟨e,h⟩:=h
 subst e
 cases r
 exact assignInOrder_nil ⟨σ,H,I,h⟩
theorem zl {e : Expr} {es : List Expr} {t : TG} {u : TGs} (h1 : PG X e t) (h2 : PGs X es u)
  (hs : (assignEach (e :: es) X.env).map (·.2) = assign e X.env :: (assignEach es X.env).map (·.2):=by rfl) : PGs X (e :: es) (ze7 t u):=by
 intro pins s σ H vs us Q I r h
 obtain ⟨v,vr,e1,h⟩:=h
 subst e1
 cases r with
 | cons r rr =>
  rw [hs]
  refine assignInOrder_cons (thn (h1 pins s σ H _ _ _ I r h) fun _ s1 ⟨σ1,H1,I1,q1⟩ => ?_)
  exact h2 pins s1 σ1 H1 _ _ Q I1 rr q1
def zhi (K : PySem.W.Frag) (n : Nat) (t : TGs) : TG:=fun v σ H Q => ∃ a xs,v = .ref a ∧ SqT K H a xs ∧ xs.length = n ∧ t xs σ H Q
theorem zau {es : List Expr} {k : Nat} {t : TGs} {n : Nat} (hc : X.calm = true) (h : PGs X es t)
  (hn : (assignEach es X.env).length = n:=by rfl) (hst : (assignEach es X.env).findIdx? (·.1) = none:=by rfl) : PG X (.Tuple es k pos) (zhi X.K n t):=by
 intro pins s σ H v u Q I r hw
 obtain ⟨a,xs,e1,hq,hl,hw⟩:=hw
 subst e1
 cases r
 obtain ⟨its,rv,ht,hz⟩:=I.tuple hq
 refine assign_Tuple_tuple (I.ok.hd hc) ht (by simp [hn,← hl,rv.length]) hst fun h' hx => ?_
 have I1 : Inv X pins σ H { s with heap:=h' }:=I.kept (t':=s.toks) fun b o e => hx b o (Nat.ne_of_lt (Heap.lt_size e)) e
 exact h pins _ σ H xs _ Q I1 (by simpa using rv) hw
def zjH (to ti : TE) (t : zii) : TG:=fun v σ H Q => to σ H fun o H1 => ti σ H1 fun i H2 => t o i v H2 fun H3 => Q σ H3
theorem zdH {o i : Expr} {to ti : TE} {t : zii} (ho : PE X o to) (hi : PE X i ti) (hs : zi7 X t)
  (ha : ∀ v,assign (.Subscript o i pos) X.env v = (do
   let ov ← holding [v] (eval o X.env)
   let iv ← holding [v,ov] (eval i X.env)
   standAt pos
   holding [v,ov,iv] (setItem ov iv v)
   release [v,ov,iv] []):=by intro _; rfl) : PG X (.Subscript o i pos) (zjH to ti t):=by
 intro pins s σ H v u Q I r h
 rw [ha]
 refine wpAny_bind (wpAny_holding (thn (ho pins s σ H _ I h) fun ov s1 ⟨x,H1,I1,r1,q1⟩ => ?_))
 refine wpAny_bind (wpAny_holding (thn (hi pins s1 σ H1 _ I1 q1) fun iv s2 ⟨y,H2,I2,r2,q2⟩ => ?_))
 refine wpAny_bind (wpAny_standAt (wpAny_bind (wpAny_holding (thn (hs pins s2 σ H2 x y v ov iv u _ I2 r1 r2 r q2) fun _ s3 ⟨H3,I3,q3⟩ => ?_))))
 exact wpAny_release ⟨σ,H3,I3,q3⟩
def zgb (te : TE) (g : TG) : TS:=fun D σ H => te σ H fun x H1 => g x σ H1 D.nx
theorem zaR {tg e : Expr} {te : TE} {g : TG} (he : PE X e te) (hg : PG X tg g) (hs : swapsWithSole [tg] e pos.line X.env = pure false:=by rfl) (hw : swappedStores [tg] e X.env = pure none:=by rfl)
  (h1 : (assignEach [tg] X.env).map (·.2) = [assign tg X.env]:=by rfl) : PS X (.Assign [tg] e pos) (zgb te g):=by
 intro pins s σ H D I h
 refine wpAny_Assign_stores (thn (he pins s σ H _ I h) fun v s1 ⟨x,H1,I1,r1,q1⟩ => ?_) hs hw
 rw [h1]
 exact thn (hg pins s1 σ H1 x v _ I1 r1 q1) fun _ s2 q => q
theorem zm {i : Nat} {x : Str} {e : Expr} {te : TE} {pos' : Pos} (hN : X.N.Nodup) (hi : X.N[i]? = some x) (hx : Loc X.env.scope x) (he : PE X e te) (hs : swapsWith e (some (.Name x pos')) pos.line X.env = pure false:=by rfl) (hf : X.fn x = true ∨ X.env.scope.names.lookup x = some .local:=by first | exact .inl rfl | exact .inr rfl | assumption) :
  PS X (.Assign [.Name x pos'] e pos) (zgb te (zbr i)):=by
 intro pins s σ H D I h
 refine wpAny_Assign_Name (thn (he pins s σ H _ I h) fun v s1 ⟨y,H1,I1,r1,q1⟩ => ?_) hs
 exact zbp I1 hN hi hx r1 (fun s2 I2 => ⟨_,H1,I2,q1⟩) hf
def zjI (i j : Nat) (ta : TA) : TS:=fun D σ H => ta σ H fun vs H1 => ∃ v w,vs = [v,w] ∧ D.nx ((σ.set i (some v)).set j (some w)) H1
theorem zik {i j : Nat} {x y : Str} {a b : Expr} {ta : TA} {px py pt : Pos} {kt k2 pt2} (hc : X.calm = true) (hN : X.N.Nodup) (hi : X.N[i]? = some x) (hj : X.N[j]? = some y) (hij : i ≠ j)
  (hx : X.env.scope.names.lookup x = some .local) (hy : X.env.scope.names.lookup y = some .local) (ha : PA X [a,b] ta)
  (hw : swappedStores [.Tuple [.Name x px,.Name y py] kt pt] (.Tuple [a,b] k2 pt2) X.env = pure (some [x,y]))
  (hs : swapsWithSole [.Tuple [.Name x px,.Name y py] kt pt] (.Tuple [a,b] k2 pt2) pos.line X.env = pure false:=by rfl) :
  PS X (.Assign [.Tuple [.Name x px,.Name y py] kt pt] (.Tuple [a,b] k2 pt2) pos) (zjI i j ta):=by
 intro pins s σ H D I h
 rw [exec_Assign_arm]
 refine wpAny_bind (wpAny_standAt ?_)
 rw [hs]
 refine wpAny_bind (wpAny_pure ?_)
 rw [if_neg (by decide)]
 refine wpAny_bind (Tuple_ (thn (ha _ pins s σ H _ I h) fun us s1 ⟨vs,H1,I1,r1,q1⟩ => ?_))
 obtain ⟨v,w,e1,q1⟩:=q1
 subst e1
 obtain ⟨u1,u2,rfl,rv,rw'⟩ : ∃ u1 u2,us = [u1,u2] ∧ RelV v u1 ∧ RelV w u2:=by
  cases r1 with
  | cons p q =>
   cases q with
   | cons p' q' =>
    cases q'
    exact ⟨_,_,rfl,p,p'⟩
 refine wpAny_newObj_type ?_ (by show 2 ≤ sizeLine; decide)
 have I2 : Inv X pins σ H1 { s1 with heap:=s1.heap.push { cls:=.type "tuple",data:=.seq [u1,u2].toArray } }:=I1.kept (t':=s1.toks) fun b o e => Heap.get?_push_of_some _ e
 rw [hw]
 refine wpAny_bind (wpAny_pure ?_)
 show wpAny (model X.prog X.w) X.A (do rule "assign.swapped-stores"; let items ← unpackItems (.ref s1.heap.objs.size) 2 none; assignInOrder [fun v => bindName X.env y v,fun v => bindName X.env x v] items.reverse; pure Flow.next) _ _ _
 refine wpAny_bind (wpAny_rule (wpAny_bind (unpackItems_tuple (items:=#[u1,u2]) (I.ok.hd hc) (IsTup.new s1.heap _) fun h' hx' => ?_)))
 have I3:=I2.kept (h':=h') (t':=s1.toks) fun b o e => hx' b o (Nat.ne_of_lt (Heap.lt_size e)) e
 show wpAny _ _ (assignInOrder [fun v => bindName X.env y v,fun v => bindName X.env x v] [u2,u1] >>= fun _ => pure Flow.next) _ _ _
 refine wpAny_bind (assignInOrder_cons (wpAny_bindName (zbp I3 hN hj (.inl hy) rw' (fun s2 I4 => ?_) (.inr hy))))
 refine assignInOrder_cons (wpAny_bindName (zbp I4 hN hi (.inl hx) rv (fun s3 I5 => assignInOrder_nil (wpAny_pure ?_)) (.inr hx)))
 rw [List.set_comm _ _ (Ne.symm hij)] at I5
 exact ⟨_,H1,I5,q1⟩
def zjJ (i : Nat) (te : TE) (ti : TIp) : TS:=fun D σ H => ∃ x,σ[i]? = some (some x) ∧ te σ H fun y H1 => ti x y H1 fun z H2 => D.nx (σ.set i (some z)) H2
theorem zgc {i : Nat} {x : Str} {e : Expr} {te : TE} {op : Operator} {ti : TIp} {pos' : Pos} (hN : X.N.Nodup) (hi : X.N[i]? = some x) (hx : Loc X.env.scope x) (he : PE X e te) (ho : PIp X op ti) (hf : X.fn x = true ∨ X.env.scope.names.lookup x = some .local:=by first | exact .inl rfl | exact .inr rfl | assumption) :
  PS X (.AugAssign (.Name x pos') op e pos) (zjJ i te ti):=by
 intro pins s σ H D I h
 obtain ⟨v,e1,h⟩:=h
 obtain ⟨m,hn,hl⟩:=I.loc
 have vis : Vis X.env.scope x:=by rcases hx with k | k; exact .inl k; exact .inr (.inl k)
 obtain ⟨u,r,l⟩:=hl i x v hi e1 vis
 refine wpAny_AugAssign_Name ?_
 have go : wpAny (model X.prog X.w) X.A (eval e X.env) (fun w s₂ => wpAny (model X.prog X.w) X.A (inplaceOp op u w) (fun r s₃ => wpAny (model X.prog X.w) X.A (storeName X.env x r) (fun _ => SP X pins D .next) X.xe s₃) X.xe s₂) X.xe s:=by
  refine thn (he pins s σ H _ I h) fun w s1 ⟨y,H1,I1,r1,q1⟩ => ?_
  refine thn (ho pins s1 σ H1 v y u w _ I1 r r1 q1) fun z s2 ⟨zv,H2,I2,r2,q2⟩ => ?_
  exact zbp I2 hN hi hx r2 (fun s3 I3 => ⟨_,H2,I3,q2⟩) hf
 rcases l with ⟨hk,hm⟩ | ⟨hk,c,hc,hcell⟩
 ·exact wpAny_loadName_local I.ok.kind hk hn hm go
 ·rcases hk with hk | hk
  ·exact wpAny_loadName_cell I.ok.kind hk hc hcell go
  ·rcases hx with k | k
   ·have : X.env.scope.names.lookup x = some .free:=hk
    rw [k] at this; cases this
   ·have : X.env.scope.names.lookup x = some .free:=hk
    rw [k] at this; cases this
end
section
variable {X : Cx} {pos : Pos}
def zgd (c : TT) (tb : TS) : TS:=fun D σ H => ∃ W : Nat → St → Hp → Prop,(∃ m,W m σ H) ∧ ∀ m σ H,W m σ H →
 c σ H fun b H1 => if b = true then ∃ N : St → Hp → Prop,(∀ σ' H',N σ' H' → ∃ m',m' < m ∧ W m' σ' H') ∧ tb { D with nx:=N,ct:=N,bk:=D.nx } σ H1 else D.nx σ H1
theorem zcF {c : Expr} {body : List Stmt} {tc : TT} {tb : TS} (hp : PassesOwn (model X.prog X.w) X.A X.env X.xe) (hc : PT X c tc) (hb : PSs X body tb) : PS X (.While c body [] pos) (zgd tc tb):=by
 intro pins s σ H D I h
 obtain ⟨W,⟨m0,w0⟩,turn⟩:=h
 refine wpAny_While (codeAny_whileLoop (fun n s' => ∃ σ' H',Inv X pins σ' H' s' ∧ W n σ' H') ?_ m0 ⟨σ,H,I,w0⟩)
 rintro n s1 ⟨σ1,H1,I1,w1⟩
 refine wpAny_passesOwn hp (thn (hc pins s1 σ1 H1 _ I1 (turn n σ1 H1 w1)) fun b s2 ⟨H2,I2,q2⟩ => ?_)
 cases b with
 | true =>
  obtain ⟨N,hN,q2⟩:=q2
  rw [if_pos rfl]
  refine wpAny_passesOwn hp (thn (hb pins s2 σ1 H2 _ I2 q2) fun f s3 q3 => ?_)
  cases f with
  | next =>
   obtain ⟨σ3,H3,I3,n3⟩:=q3
   obtain ⟨m',hm,w3⟩:=hN σ3 H3 n3
   exact ⟨m',hm,σ3,H3,I3,w3⟩
  | cont =>
   obtain ⟨σ3,H3,I3,n3⟩:=q3
   obtain ⟨m',hm,w3⟩:=hN σ3 H3 n3
   exact ⟨m',hm,σ3,H3,I3,w3⟩
  | brk => exact q3
  | ret v => exact q3
 | false =>
  rw [if_neg Bool.false_ne_true]
  exact wpAny_execs_nil ⟨σ1,H2,I2,q2⟩
end
structure It where
 go : Nat → Hp → Prop
 yld : Nat → Hp → V → Hp → Prop
 stop : Nat → Hp → Prop
def zaZ (X : Cx) (pins : List (Addr × Obj)) (H : Hp) (b : Addr) : Prop :=
 H b = none ∧ b ≠ X.env.locals ∧ b ∉ X.fs ∧ (b ∈ X.ex ∨ X.s₀.heap.objs.size ≤ b) ∧ (∀ x c,X.env.cells.lookup x = some c → c ≠ b) ∧ ∀ p ∈ X.pn ++ pins,p.1 ≠ b
theorem Inv.fpOk {X : Cx} {pins : List (Addr × Obj)} {σ : St} {H H' : Hp} {s : Shared} {b : Addr} (I : Inv X pins σ H s) (hb : s.heap.objs.size ≤ b) (hn : H' b = none) : zaZ X pins H' b:=by
 refine ⟨hn,Nat.ne_of_gt (Nat.lt_of_lt_of_le I.lt hb),I.nofs hb,.inr (Nat.le_trans I.sz hb),fun x c e z => ?_,fun p hp z => ?_⟩
 ·obtain ⟨v,q⟩:=I.cell x c e
  exact absurd (Nat.lt_of_lt_of_le q.lt (by rw [z]; exact hb)) (Nat.lt_irrefl _)
 ·exact absurd (Nat.lt_of_lt_of_le (Heap.lt_size (I.pin p hp).1) (by rw [z]; exact hb)) (Nat.lt_irrefl _)
structure Turn (P : Program) (w : World) (K : PySem.W.Frag) (tg : Expr) (J : It) (fp : List Addr) (it : Addr) (tn : Nat → Heap → Prop) : Prop where
 mem : it ∈ fp
 obj : ∀ i h,tn i h → ∀ b ∈ fp,∃ o,h.get? b = some o ∧ ∀ v,o.data ≠ .cell v
 keep : ∀ i h h',tn i h → (∀ b ∈ fp,∀ o,h.get? b = some o → h'.get? b = some o) → tn i h'
 item : ∀ (X : Cx),X.prog = P → X.w = w → X.K = K → X.calm = true → ∀ (i : Nat) (pins : List (Addr × Obj)) (s : Shared) (σ : St) (H : Hp) (E : Value → Shared → Prop),Inv X pins σ H s → (∀ b ∈ fp,zaZ X pins H b) → tn i s.heap → J.go i H →
  wpAny (model P w) X.A (pyNext (.ref it)) (fun r s1 => ∃ u,r = some u ∧
   wpAny (model P w) X.A (letOwnedTupleGo tg (.ref it) u) (fun _ s2 => ∃ x H',Inv X pins σ H' s2 ∧ RelV x u ∧ J.yld i H x H' ∧ tn (i + 1) s2.heap ∧ ∀ b ∈ fp,H' b = none) E s1) E s
 done : ∀ (X : Cx),X.prog = P → X.w = w → X.K = K → X.calm = true → ∀ (i : Nat) (pins : List (Addr × Obj)) (s : Shared) (σ : St) (H : Hp) (E : Value → Shared → Prop),Inv X pins σ H s → (∀ b ∈ fp,zaZ X pins H b) → tn i s.heap → J.stop i H →
  wpAny (model P w) X.A (pyNext (.ref it)) (fun r s1 => r = none ∧ Inv X pins σ H s1) E s
 self : ∀ (A : Around) (i : Nat) (s : Shared) (Q : Value → Shared → Prop) (E : Value → Shared → Prop),tn i s.heap → Q (.ref it) s → wpAny (model P w) A (pyIter (.ref it)) Q E s
abbrev TI:=St → Hp → (It → Hp → Prop) → Prop
def PIE (X : Cx) (pins : List (Addr × Obj)) (σ : St) (tg : Expr) (R : It → Hp → Prop) (itv : Value) (s2 : Shared) : Prop :=
 ∃ (it : Addr) (fp : List Addr) (tn : Nat → Heap → Prop) (J : It) (H' : Hp),itv = .ref it ∧ Inv X pins σ H' s2 ∧ Turn X.prog X.w X.K tg J fp it tn ∧ tn 0 s2.heap ∧ (∀ b ∈ fp,zaZ X pins H' b) ∧ R J H'
def PI (X : Cx) (tg iter : Expr) (wi : TI) : Prop :=
 ∀ (pins : List (Addr × Obj)) (s : Shared) (σ : St) (H : Hp) (R : It → Hp → Prop),Inv X pins σ H s → wi σ H R →
  wpAny (model X.prog X.w) X.A (eval iter X.env) (fun v s1 => wpAny (model X.prog X.w) X.A (pyIter v) (PIE X pins σ tg R) X.xe s1) X.xe s
theorem zd4 {M : Model} {A : Around} {E : Value → Shared → Prop} {s : Shared} {tg : Expr} {it : Addr} {u : Value} {o : Obj} {n : String} {vs : Array Value} {Q : Unit → Shared → Prop} (ho : s.heap.get? it = some o) (hc : o.cls = .type n) (hd : o.data = .fields vs)
  (hn : ["enumerate","zip","dict_itemiterator","dict_reverseitemiterator","odict_iterator","itertools.zip_longest","itertools.pairwise"].contains n = false) (hQ : Q () s) : wpAny M A (letOwnedTupleGo tg (.ref it) u) Q E s:=by
 unfold letOwnedTupleGo
 cases tg <;> first
  | exact wpAny_pure hQ
  | (cases u <;> first
    | exact wpAny_pure hQ
    | (refine wpAny_bind (wpAny_load ho ?_)
       rw [hc,hd]
       show wpAny M A (if (["enumerate","zip","dict_itemiterator","dict_reverseitemiterator","odict_iterator","itertools.zip_longest","itertools.pairwise"].contains n && vs[0]? == some (rawInt _)) = true then _ else _) Q E s
       rw [if_neg (by intro h; rw [hn,Bool.false_and] at h; cases h)]
       exact wpAny_pure hQ))
def Itl (K : PySem.W.Frag) (a : Addr) : It :=
 ⟨fun i H => ∃ xs x,SqL K H a xs ∧ xs[i]? = some x,fun i H x H' => H' = H ∧ ∀ xs,SqL K H a xs → xs[i]? = some x,fun i H => ∃ xs,SqL K H a xs ∧ xs.length ≤ i⟩
def Itt (K : PySem.W.Frag) (a : Addr) : It :=
 ⟨fun i H => ∃ xs x,SqT K H a xs ∧ xs[i]? = some x,fun i H x H' => H' = H ∧ ∀ xs,SqT K H a xs → xs[i]? = some x,fun i H => ∃ xs,SqT K H a xs ∧ xs.length ≤ i⟩
def Itr (lo : Int) (n : Nat) : It:=⟨fun i _ => i < n,fun i H x H' => H' = H ∧ x = .int (lo + i),fun i _ => n ≤ i⟩
theorem zdl {P : Program} {w : World} {K : PySem.W.Frag} {tg : Expr} (a it : Addr) : Turn P w K tg (Itl K a) [it] it (fun i h => h.IsListIter it a i) where
 mem:=by simp
 obj:=fun i h st b hb => by
  have e : b = it:=by simpa using hb
  subst e
  obtain ⟨o,e,c,d⟩:=st
  exact ⟨o,e,fun v z => by rw [d] at z; cases z⟩
 keep:=fun i h h' st k => st.at fun o e => k it (by simp) o e
 item:=by
  intro X hP hw hK hc i pins s σ H E I hf st hg
  subst hP hw hK
  obtain ⟨xs,x,hq,hx⟩:=hg
  obtain ⟨its,rv,p,hz⟩:=I.list hq
  obtain ⟨u,hu,ru⟩:=rv.get hx
  obtain ⟨f0,f1,f2,f3,f4,f5⟩:=hf it (by simp)
  refine wpAny_pyNext_list_item st p.isList (x:=u) (by simpa using hu) fun h' st' sb => ?_
  have I1 : Inv X pins σ H { s with heap:=h' }:=I.turned (t':=s.toks) (fun b o hb e => (sb.2 b hb).trans e) f0 f1 f3 f4 f5
  obtain ⟨o,e,c,d⟩:=id st'
  exact ⟨u,rfl,zd4 (s:={ s with heap:=h' }) e c d (by decide) ⟨x,H,I1,ru,⟨rfl,fun ys hy => by rw [I.list_inj hy hq]; exact hx⟩,st',fun b hb => (hf b hb).1⟩⟩
 done:=by
  intro X hP hw hK hc i pins s σ H E I hf st hg
  subst hP hw hK
  obtain ⟨xs,hq,hx⟩:=hg
  obtain ⟨its,rv,p,hz⟩:=I.list hq
  obtain ⟨f0,f1,f2,f3,f4,f5⟩:=hf it (by simp)
  have hl:=rv.length
  exact wpAny_pyNext_list_end (I.ok.hd hc) st p.isList (by simp; omega) fun h' eb => ⟨rfl,I.turned (t':=s.toks) (fun b o hb e => eb b o hb e) f0 f1 f3 f4 f5⟩
 self:=fun _ _ _ _ _ st h => wpAny_pyIter_listiter st h
theorem zcG {P : Program} {w : World} {K : PySem.W.Frag} {tg : Expr} (a it : Addr) : Turn P w K tg (Itt K a) [it] it (fun i h => h.IsTupleIter it a i) where
 mem:=by simp
 obj:=fun i h st b hb => by
  have e : b = it:=by simpa using hb
  subst e
  obtain ⟨o,e,c,d⟩:=st
  exact ⟨o,e,fun v z => by rw [d] at z; cases z⟩
 keep:=fun i h h' st k => st.at fun o e => k it (by simp) o e
 item:=by
  intro X hP hw hK hc i pins s σ H E I hf st hg
  subst hP hw hK
  obtain ⟨xs,x,hq,hx⟩:=hg
  obtain ⟨its,rv,p,hz⟩:=I.tuple hq
  obtain ⟨u,hu,ru⟩:=rv.get hx
  obtain ⟨f0,f1,f2,f3,f4,f5⟩:=hf it (by simp)
  refine wpAny_pyNext_tuple_item st (show s.heap.IsTuple a its.toArray from p) (x:=u) (by simpa using hu) fun h' st' sb => ?_
  have I1 : Inv X pins σ H { s with heap:=h' }:=I.turned (t':=s.toks) (fun b o hb e => (sb.2 b hb).trans e) f0 f1 f3 f4 f5
  obtain ⟨o,e,c,d⟩:=id st'
  exact ⟨u,rfl,zd4 (s:={ s with heap:=h' }) e c d (by decide) ⟨x,H,I1,ru,⟨rfl,fun ys hy => by rw [I.tuple_inj hy hq]; exact hx⟩,st',fun b hb => (hf b hb).1⟩⟩
 done:=by
  intro X hP hw hK hc i pins s σ H E I hf st hg
  subst hP hw hK
  obtain ⟨xs,hq,hx⟩:=hg
  obtain ⟨its,rv,p,hz⟩:=I.tuple hq
  obtain ⟨f0,f1,f2,f3,f4,f5⟩:=hf it (by simp)
  have hl:=rv.length
  exact wpAny_pyNext_tuple_end (I.ok.hd hc) st (show s.heap.IsTuple a its.toArray from p) (by simp; omega) fun h' eb => ⟨rfl,I.turned (t':=s.toks) (fun b o hb e => eb b o hb e) f0 f1 f3 f4 f5⟩
 self:=fun _ _ _ _ _ st h => wpAny_pyIter_tupleiter st h
theorem zeI {P : Program} {w : World} {K : PySem.W.Frag} {tg : Expr} (it : Addr) (lo : Int) (n : Nat) : Turn P w K tg (Itr lo n) [it] it (fun i h => IsRangeIter h it (lo + (i : Nat) * 1) ((n : Int) - (i : Nat)) 1) where
 mem:=by simp
 obj:=fun i h st b hb => by
  have e : b = it:=by simpa using hb
  subst e
  exact ⟨_,st,fun v z => by
   have z' : Data.fields _ = Data.cell v:=z
   cases z'⟩
 keep:=fun i h h' st k => k it (by simp) _ st
 item:=by
  intro X hP hw hK hc i pins s σ H E I hf st hg
  subst hP hw hK
  obtain ⟨f0,f1,f2,f3,f4,f5⟩:=hf it (by simp)
  have W:=Walks.range (prog:=X.prog) (w:=X.w) (I.ok.hd hc) it lo 1 n
  refine W.item i s _ _ hg st fun v h' tk hv st' kk => ?_
  obtain ⟨t,rfl⟩:=hv
  have I1 : Inv X pins σ H { s with heap:=h',toks:=tk }:=I.turned (fun b o hb e => kk b o (by simpa using hb) e) f0 f1 f3 f4 f5
  refine ⟨_,rfl,zd4 (s:={ s with heap:=h',toks:=tk }) (n:="range_iterator") st' rfl rfl (by decide) ⟨.int (lo + i),H,I1,⟨t,?_⟩,⟨rfl,rfl⟩,st',fun b hb => (hf b hb).1⟩⟩
  rw [Int.mul_one]
 done:=by
  intro X hP hw hK hc i pins s σ H E I hf st hg
  subst hP hw hK
  obtain ⟨f0,f1,f2,f3,f4,f5⟩:=hf it (by simp)
  exact wpAny_pyNext_range_end (I.ok.hd hc) st (by have : n ≤ i:=hg; omega) fun h' eb => ⟨rfl,I.turned (t':=s.toks) (fun b o hb e => eb b o hb e) f0 f1 f3 f4 f5⟩
 self:=fun _ _ _ _ _ st h => wpAny_pyIter_rangeiter st h
end L2
namespace L2
open PySem PySem.Spec PyProof.Rows
section
variable {X : Cx} {tg : Expr}
def zh0 (K : PySem.W.Frag) (tl : TE) : TI:=fun σ H R => tl σ H fun x H1 => ∃ a,x = .ref a ∧ (∃ xs,SqL K H1 a xs) ∧ R (Itl K a) H1
def zi8 (K : PySem.W.Frag) (tl : TE) : TI:=fun σ H R => tl σ H fun x H1 => ∃ a,x = .ref a ∧ (∃ xs,SqT K H1 a xs) ∧ R (Itt K a) H1
theorem zab {l : Expr} {tl : TE} (hl : PE X l tl) : PI X tg l (zh0 X.K tl):=by
 intro pins s σ H R I h
 refine thn (hl pins s σ H _ I h) fun v s1 ⟨x,H1,I1,r1,q1⟩ => ?_
 obtain ⟨a,e,⟨xs,hq⟩,q⟩:=q1
 subst e
 cases r1
 obtain ⟨its,rv,p,hz⟩:=I1.list hq
 refine wpAny_pyIter_list p.isList ?_
 refine ⟨s1.heap.objs.size,[s1.heap.objs.size],_,_,H1,rfl,I1.kept (t':=s1.toks) fun b o e => Heap.get?_push_of_some _ e,zdl a _,⟨_,Heap.get?_push_size _ rfl,rfl,rfl⟩,fun b hb => ?_,q⟩
 have e : b = s1.heap.objs.size:=by simpa using hb
 subst e
 exact I1.fpOk (Nat.le_refl _) (I1.hok.fresh (Nat.le_refl _))
theorem zge {l : Expr} {tl : TE} (hl : PE X l tl) : PI X tg l (zi8 X.K tl):=by
 intro pins s σ H R I h
 refine thn (hl pins s σ H _ I h) fun v s1 ⟨x,H1,I1,r1,q1⟩ => ?_
 obtain ⟨a,e,⟨xs,hq⟩,q⟩:=q1
 subst e
 cases r1
 obtain ⟨its,rv,p,hz⟩:=I1.tuple hq
 refine wpAny_pyIter_tuple (show s1.heap.IsTuple a its.toArray from p) ?_
 refine ⟨s1.heap.objs.size,[s1.heap.objs.size],_,_,H1,rfl,I1.kept (t':=s1.toks) fun b o e => Heap.get?_push_of_some _ e,zcG a _,⟨_,Heap.get?_push_size _ rfl,rfl,rfl⟩,fun b hb => ?_,q⟩
 have e : b = s1.heap.objs.size:=by simpa using hb
 subst e
 exact I1.fpOk (Nat.le_refl _) (I1.hok.fresh (Nat.le_refl _))
theorem zd5 {pins : List (Addr × Obj)} {σ : St} {H : Hp} {s : Shared} {R : It → Hp → Prop} {E : Value → Shared → Prop} {lo hi : Int} {t u v : Tok} {tk : Nat} (I : Inv X pins σ H s) (h1 : -(2 ^ 62) ≤ lo) (h2 : lo < 2 ^ 62) (h3 : -(2 ^ 62) ≤ hi) (h4 : hi < 2 ^ 62)
  (q : R (Itr lo (hi - lo).toNat) H) : wpAny (model X.prog X.w) X.A (pyIter (.ref s.heap.objs.size)) (PIE X pins σ tg R) E { s with heap:=s.heap.push { cls:=.type "range",data:=.fields #[.int lo t,.int hi u,.int 1 v] },toks:=tk }:=by
 refine wpAny_pyIter_range (IsRange.new ..) (small_one h1 h2 h3 h4) ?_
 have I1 : Inv X pins σ H { s with heap:=s.heap.push { cls:=.type "range",data:=.fields #[.int lo t,.int hi u,.int 1 v] },toks:=tk }:=I.kept fun b o e => Heap.get?_push_of_some _ e
 refine ⟨(s.heap.push { cls:=.type "range",data:=.fields #[.int lo t,.int hi u,.int 1 v] }).objs.size,[(s.heap.push { cls:=.type "range",data:=.fields #[.int lo t,.int hi u,.int 1 v] }).objs.size],_,_,H,rfl,
  I1.kept (t':=tk) fun b o e => Heap.get?_push_of_some _ e,zeI _ lo (hi - lo).toNat,?_,fun b hb => ?_,q⟩
 ·have e1 : lo + ((0 : Nat) : Int) * 1 = lo:=by simp
  have e2 : (((hi - lo).toNat : Nat) : Int) - ((0 : Nat) : Int) = Builtin.Range.rangeSize lo hi 1:=by rw [rangeSize_one]; split <;> omega
  show IsRangeIter _ _ (lo + ((0 : Nat) : Int) * 1) ((((hi - lo).toNat : Nat) : Int) - ((0 : Nat) : Int)) 1
  rw [e1,e2]
  exact Heap.get?_push_size _ rfl
 ·have e : b = (s.heap.push { cls:=.type "range",data:=.fields #[.int lo t,.int hi u,.int 1 v] }).objs.size:=by simpa using hb
  subst e
  exact I1.fpOk (Nat.le_refl _) (I1.hok.fresh (Nat.le_refl _))
def zi9 (ta : TA) : TI:=fun σ H R => ta σ H fun vs H1 => ∃ j : Int,vs = [.int j] ∧ -(2 ^ 62) ≤ j ∧ j < 2 ^ 62 ∧ R (Itr 0 j.toNat) H1
def zja (ta : TA) : TI:=fun σ H R => ta σ H fun vs H1 => ∃ i j : Int,vs = [.int i,.int j] ∧ (-(2 ^ 62) ≤ i ∧ i < 2 ^ 62 ∧ -(2 ^ 62) ≤ j ∧ j < 2 ^ 62) ∧ R (Itr i (j - i).toNat) H1
theorem zay {a : Expr} {ta : TA} {p pos : Pos} (hg : Gl X "range") (hm : X.mg "range" = none) (ha : PA X [a] ta) (hs : starEach [a] X.env = [(false,eval a X.env)]:=by rfl) : PI X tg (.Call (.Name "range" p) [a] [] pos) (zi9 ta):=by
 intro pins s σ H R I h
 refine Call_ (zbd I hg hm boot_range (PyProof.Rows.callWith_type1 (thn (ha pos pins s σ H _ I h) fun us s1 ⟨vs,H1,I1,r1,q1⟩ => ?_) hs rfl))
 obtain ⟨j,e,q1,q2,q⟩:=q1
 subst e
 cases r1 with
 | cons r rr =>
  cases rr
  obtain ⟨t,rfl⟩:=r
  exact call_range_1 (zd5 I1 (by omega) (by omega) q1 q2 (by simpa using q))
theorem zdm {a b : Expr} {ta : TA} {p pos : Pos} (hg : Gl X "range") (hm : X.mg "range" = none) (ha : PA X [a,b] ta) (hs : starEach [a,b] X.env = [(false,eval a X.env),(false,eval b X.env)]:=by rfl) (hs2 : starEach [b] X.env = [(false,eval b X.env)]:=by rfl) :
  PI X tg (.Call (.Name "range" p) [a,b] [] pos) (zja ta):=by
 intro pins s σ H R I h
 refine Call_ (zbd I hg hm boot_range (PyProof.Rows.callWith_type1 (thn (ha pos pins s σ H _ I h) fun us s1 ⟨vs,H1,I1,r1,q1⟩ => ?_) (by rw [hs,hs2]) (by rw [hs2]; rfl)))
 obtain ⟨i,j,e,⟨q1,q2,q3,q4⟩,q⟩:=q1
 subst e
 cases r1 with
 | cons r rr =>
  cases rr with
  | cons r' rr =>
   cases rr
   obtain ⟨t,rfl⟩:=r
   obtain ⟨t',rfl⟩:=r'
   exact call_range_2 (zd5 I1 q1 q2 q3 q4 q)
def zjK (wi : TI) (g : TG) (tb : TS) : TS:=fun D σ H => wi σ H fun J H1 => ∃ W : Nat → Nat → St → Hp → Prop,(∃ m,W 0 m σ H1) ∧ ∀ i m σ H,W i m σ H →
 (J.stop i H ∧ D.nx σ H) ∨ (J.go i H ∧ ∃ N : St → Hp → Prop,(∀ σ' H',N σ' H' → ∃ m',m' < m ∧ W (i + 1) m' σ' H') ∧ ∀ x H',J.yld i H x H' → g x σ H' fun σ2 H2 => tb { D with nx:=N,ct:=N,bk:=D.nx } σ2 H2)
def zbe (fp : List Addr) (h : Heap) : List (Addr × Obj):=fp.filterMap fun b => (h.get? b).map fun o => (b,o)
theorem zaC {fp : List Addr} {h : Heap} {b : Addr} {o : Obj} (hb : b ∈ fp) (e : h.get? b = some o) : (b,o) ∈ zbe fp h:=List.mem_filterMap.mpr ⟨b,hb,by rw [e]; rfl⟩
theorem zdn {fp : List Addr} {h : Heap} {p : Addr × Obj} (hp : p ∈ zbe fp h) : p.1 ∈ fp ∧ h.get? p.1 = some p.2:=by
 obtain ⟨b,hb,e⟩:=List.mem_filterMap.mp hp
 cases q : h.get? b with
 | none => rw [q] at e; cases e
 | some o =>
  rw [q] at e
  have e' : (b,o) = p:=Option.some.inj e
  subst e'
  exact ⟨hb,q⟩
theorem Inv.pinned {pins : List (Addr × Obj)} {σ : St} {H : Hp} {s : Shared} {fp : List Addr} (I : Inv X pins σ H s) (hf : ∀ b ∈ fp,zaZ X pins H b) (ho : ∀ b ∈ fp,∃ o,s.heap.get? b = some o ∧ ∀ v,o.data ≠ .cell v) : Inv X (pins ++ zbe fp s.heap) σ H s :=
 I.pins_of fun p hp => (List.mem_append.mp hp).elim (fun z => I.pin p (List.mem_append_right _ z)) fun z => by
  obtain ⟨hb,e⟩:=zdn z
  obtain ⟨f0,f1,f2,_⟩:=hf p.1 hb
  obtain ⟨o,e',d⟩:=ho p.1 hb
  rw [e] at e'; cases e'
  exact ⟨e,f0,f1,f2,d⟩
theorem Inv.unpinned {pins pl : List (Addr × Obj)} {σ : St} {H : Hp} {s : Shared} (I : Inv X (pins ++ pl) σ H s) : Inv X pins σ H s:=I.pins_of fun p hp => I.pin p (List.mem_append_right _ (List.mem_append_left _ hp))
theorem zaz {iter : Expr} {body : List Stmt} {wi : TI} {g : TG} {tb : TS} {pos : Pos} (hp : PassesOwn (model X.prog X.w) X.A X.env X.xe) (hc : X.calm = true) (hi : PI X tg iter wi) (hg : PG X tg g) (hb : PSs X body tb)
  (hs : ∀ x,foldedSetIterable iter X.env x = pure x:=by intro _; rfl) : PS X (.For tg iter body [] pos) (zjK wi g tb):=by
 intro pins s σ H D I h
 refine wpAny_For (thn (hi pins s σ H _ I h) fun v s1 h1 => thn h1 fun itv s2 h2 => ?_) hs
 obtain ⟨it,fp,tn,J,H2,e,I2,T,st2,f2,W,⟨m0,w0⟩,turn⟩:=h2
 subst e
 have stat : ∀ {H' : Hp},(∀ b ∈ fp,H' b = none) → ∀ b ∈ fp,zaZ X pins H' b:=fun hn b hb => ⟨hn b hb,(f2 b hb).2⟩
 refine codeAny_forLoop_any (fun n s' => ∃ i σ' H',Inv X pins σ' H' s' ∧ tn i s'.heap ∧ (∀ b ∈ fp,H' b = none) ∧ W i n σ' H') ?_ m0 ⟨0,σ,H2,I2,st2,fun b hb => (f2 b hb).1,w0⟩
 rintro n s3 ⟨i,σ3,H3,I3,st3,fr3,w3⟩
 rcases turn i n σ3 H3 w3 with ⟨stop,qn⟩ | ⟨go,N,hN,step⟩
 ·refine wpAny_passesOwn hp (thn (T.done X rfl rfl rfl hc i pins s3 σ3 H3 X.xe I3 (stat fr3) st3 stop) fun r s4 ⟨hr,I4⟩ => ?_)
  subst hr
  exact wpAny_execs_nil ⟨σ3,H3,I4,qn⟩
 ·refine wpAny_passesOwn hp (thn (T.item X rfl rfl rfl hc i pins s3 σ3 H3 X.xe I3 (stat fr3) st3 go) fun r s4 ⟨u,hr,h4⟩ => ?_)
  subst hr
  refine wpAny_passesOwn hp (thn h4 fun _ s5 ⟨x,H5,I5,r5,y5,st5,fr5⟩ => ?_)
  have I5':=I5.pinned (stat fr5) (T.obj _ _ st5)
  refine wpAny_passesOwn hp (thn (hg _ s5 σ3 H5 x u _ I5' r5 (step x H5 y5)) fun _ s6 ⟨σ6,H6,I6,q6⟩ => ?_)
  refine wpAny_passesOwn hp (thn (hb _ s6 σ6 H6 _ I6 q6) fun f s7 q7 => ?_)
  have again : ∀ {σ7 : St} {H7 : Hp},Inv X (pins ++ zbe fp s5.heap) σ7 H7 s7 → N σ7 H7 → ∃ m,m < n ∧ ∃ i σ' H',Inv X pins σ' H' s7 ∧ tn i s7.heap ∧ (∀ b ∈ fp,H' b = none) ∧ W i m σ' H':=fun {σ7 H7} I7 n7 => by
   obtain ⟨m',hm,w7⟩:=hN σ7 H7 n7
   refine ⟨m',hm,i + 1,σ7,H7,I7.unpinned,T.keep _ _ _ st5 fun b hb o e => (I7.pin (b,o) (List.mem_append_right _ (List.mem_append_right _ (zaC hb e)))).1,fun b hb => ?_,w7⟩
   obtain ⟨o,e,d⟩:=T.obj _ _ st5 b hb
   exact (I7.pin (b,o) (List.mem_append_right _ (List.mem_append_right _ (zaC hb e)))).2.1
  cases f with
  | next => obtain ⟨σ7,H7,I7,n7⟩:=q7; exact again I7 n7
  | cont => obtain ⟨σ7,H7,I7,n7⟩:=q7; exact again I7 n7
  | brk => obtain ⟨σ7,H7,I7,q7⟩:=q7; exact ⟨σ7,H7,I7.unpinned,q7⟩
  | ret v => obtain ⟨x7,σ7,H7,I7,r7,q7⟩:=q7; exact ⟨x7,σ7,H7,I7.unpinned,r7,q7⟩
end
theorem zbZ {K : PySem.W.Frag} {a : Addr} {xs : List V} {g : TG} {tb : TS} {D : Ends} {σ : St} {H : Hp} (Pv : Nat → St → Hp → Prop) (h0 : Pv 0 σ H) (hl : ∀ i σ H,i ≤ xs.length → Pv i σ H → SqL K H a xs)
  (hs : ∀ i x σ H,xs[i]? = some x → Pv i σ H → g x σ H fun σ2 H2 => tb { D with nx:=Pv (i + 1),ct:=Pv (i + 1),bk:=D.nx } σ2 H2) (hd : ∀ σ H,Pv xs.length σ H → D.nx σ H) :
  ∃ W : Nat → Nat → St → Hp → Prop,(∃ m,W 0 m σ H) ∧ ∀ i m σ H,W i m σ H →
   ((Itl K a).stop i H ∧ D.nx σ H) ∨ ((Itl K a).go i H ∧ ∃ N : St → Hp → Prop,(∀ σ' H',N σ' H' → ∃ m',m' < m ∧ W (i + 1) m' σ' H') ∧ ∀ x H',(Itl K a).yld i H x H' → g x σ H' fun σ2 H2 => tb { D with nx:=N,ct:=N,bk:=D.nx } σ2 H2):=by
 refine ⟨fun i m σ H => m = xs.length - i ∧ i ≤ xs.length ∧ Pv i σ H,⟨xs.length,by simp,Nat.zero_le _,h0⟩,?_⟩
 rintro i m σ H ⟨rfl,hi,p⟩
 have q:=hl i σ H hi p
 by_cases hlt : i < xs.length
 ·refine .inr ⟨⟨xs,xs[i],q,by simp [hlt]⟩,Pv (i + 1),fun σ' H' p' => ⟨xs.length - (i + 1),by omega,rfl,hlt,p'⟩,fun x H' y => ?_⟩
  obtain ⟨e,y⟩:=y
  subst e
  exact hs i x σ _ (y xs q) p
 ·have e : i = xs.length:=by omega
  subst e
  exact .inl ⟨⟨xs,q,Nat.le_refl _⟩,hd σ H p⟩
theorem zhj {K : PySem.W.Frag} {a : Addr} {xs : List V} {g : TG} {tb : TS} {D : Ends} {σ : St} {H : Hp} (Pv : Nat → St → Hp → Prop) (h0 : Pv 0 σ H) (hl : ∀ i σ H,i ≤ xs.length → Pv i σ H → SqT K H a xs)
  (hs : ∀ i x σ H,xs[i]? = some x → Pv i σ H → g x σ H fun σ2 H2 => tb { D with nx:=Pv (i + 1),ct:=Pv (i + 1),bk:=D.nx } σ2 H2) (hd : ∀ σ H,Pv xs.length σ H → D.nx σ H) :
  ∃ W : Nat → Nat → St → Hp → Prop,(∃ m,W 0 m σ H) ∧ ∀ i m σ H,W i m σ H →
   ((Itt K a).stop i H ∧ D.nx σ H) ∨ ((Itt K a).go i H ∧ ∃ N : St → Hp → Prop,(∀ σ' H',N σ' H' → ∃ m',m' < m ∧ W (i + 1) m' σ' H') ∧ ∀ x H',(Itt K a).yld i H x H' → g x σ H' fun σ2 H2 => tb { D with nx:=N,ct:=N,bk:=D.nx } σ2 H2):=by
 refine ⟨fun i m σ H => m = xs.length - i ∧ i ≤ xs.length ∧ Pv i σ H,⟨xs.length,by simp,Nat.zero_le _,h0⟩,?_⟩
 rintro i m σ H ⟨rfl,hi,p⟩
 have q:=hl i σ H hi p
 by_cases hlt : i < xs.length
 ·refine .inr ⟨⟨xs,xs[i],q,by simp [hlt]⟩,Pv (i + 1),fun σ' H' p' => ⟨xs.length - (i + 1),by omega,rfl,hlt,p'⟩,fun x H' y => ?_⟩
  obtain ⟨e,y⟩:=y
  subst e
  exact hs i x σ _ (y xs q) p
 ·have e : i = xs.length:=by omega
  subst e
  exact .inl ⟨⟨xs,q,Nat.le_refl _⟩,hd σ H p⟩
theorem za8 {lo : Int} {n : Nat} {g : TG} {tb : TS} {D : Ends} {σ : St} {H : Hp} (Pv : Nat → St → Hp → Prop) (h0 : Pv 0 σ H)
  (hs : ∀ i σ H,i < n → Pv i σ H → g (.int (lo + i)) σ H fun σ2 H2 => tb { D with nx:=Pv (i + 1),ct:=Pv (i + 1),bk:=D.nx } σ2 H2) (hd : ∀ σ H,Pv n σ H → D.nx σ H) :
  ∃ W : Nat → Nat → St → Hp → Prop,(∃ m,W 0 m σ H) ∧ ∀ i m σ H,W i m σ H →
   ((Itr lo n).stop i H ∧ D.nx σ H) ∨ ((Itr lo n).go i H ∧ ∃ N : St → Hp → Prop,(∀ σ' H',N σ' H' → ∃ m',m' < m ∧ W (i + 1) m' σ' H') ∧ ∀ x H',(Itr lo n).yld i H x H' → g x σ H' fun σ2 H2 => tb { D with nx:=N,ct:=N,bk:=D.nx } σ2 H2):=by
 refine ⟨fun i m σ H => m = n - i ∧ i ≤ n ∧ Pv i σ H,⟨n,by simp,Nat.zero_le _,h0⟩,?_⟩
 rintro i m σ H ⟨rfl,hi,p⟩
 by_cases hlt : i < n
 ·refine .inr ⟨hlt,Pv (i + 1),fun σ' H' p' => ⟨n - (i + 1),by omega,rfl,hlt,p'⟩,fun x H' y => ?_⟩
  obtain ⟨e,y⟩:=y
  subst e y
  exact hs i σ _ hlt p
 ·have e : i = n:=by omega
  subst e
  exact .inl ⟨Nat.le_refl _,hd σ H p⟩
theorem zgf {c : TT} {tb : TS} {D : Ends} {σ : St} {H : Hp} (Pv : St → Hp → Prop) (μ : St → Hp → Nat) (h0 : Pv σ H)
  (hs : ∀ σ H,Pv σ H → c σ H fun b H1 => if b = true then tb { D with nx:=fun σ' H' => Pv σ' H' ∧ μ σ' H' < μ σ H,ct:=fun σ' H' => Pv σ' H' ∧ μ σ' H' < μ σ H,bk:=D.nx } σ H1 else D.nx σ H1)
  (mono : ∀ σ H Q Q',(∀ b H1,Q b H1 → Q' b H1) → c σ H Q → c σ H Q') : zgd c tb D σ H:=by
 refine ⟨fun m σ H => m = μ σ H ∧ Pv σ H,⟨_,rfl,h0⟩,?_⟩
 rintro m σ H ⟨rfl,p⟩
 refine mono σ H _ _ (fun b H1 q => ?_) (hs σ H p)
 cases b with
 | true => exact ⟨_,fun σ' H' ⟨p',l⟩ => ⟨_,l,rfl,p'⟩,q⟩
 | false => exact q
end L2
namespace L2
open PySem PySem.Spec PyProof.Rows
abbrev R2:=V → V → Hp → VK → Prop
def OpR (X : Cx) (f : Value → Value → Sem Value) (r : R2) : Prop :=
 ∀ (pins : List (Addr × Obj)) (s : Shared) (σ : St) (H : Hp) (x y : V) (v u : Value) (Q : VK),Inv X pins σ H s → RelV x v → RelV y u → r x y H Q →
  wpAny (model X.prog X.w) X.A (f v u) (EP X pins σ Q) X.xe s
def UnR (X : Cx) (f : Value → Sem Value) (r : V → Hp → VK → Prop) : Prop :=
 ∀ (pins : List (Addr × Obj)) (s : Shared) (σ : St) (H : Hp) (x : V) (v : Value) (Q : VK),Inv X pins σ H s → RelV x v → r x H Q →
  wpAny (model X.prog X.w) X.A (f v) (EP X pins σ Q) X.xe s
def zbs (X : Cx) (f : Value) (r : List V → Hp → VK → Prop) : Prop :=
 ∀ (pins : List (Addr × Obj)) (s : Shared) (σ : St) (H : Hp) (xs : List V) (us : List Value) (Q : VK),Inv X pins σ H s → zC xs us → r xs H Q →
  wpAny (model X.prog X.w) X.A (call f us) (EP X pins σ Q) X.xe s
def zjL (X : Cx) (r : V → Hp → (Bool → Hp → Prop) → Prop) : Prop :=
 ∀ (pins : List (Addr × Obj)) (s : Shared) (σ : St) (H : Hp) (x : V) (v : Value) (Q : Bool → Hp → Prop),Inv X pins σ H s → RelV x v → r x H Q →
  wpAny (model X.prog X.w) X.A (truthy v) (TP X pins σ Q) X.xe s
def tOp (r : R2) (ta tb : TE) : TE:=fun σ H Q => ta σ H fun x H1 => tb σ H1 fun y H2 => r x y H2 Q
def tUn (r : V → Hp → VK → Prop) (ta : TE) : TE:=fun σ H Q => ta σ H fun x H1 => r x H1 Q
def rI (C : Int → Int → Prop) (g : Int → Int → V) : R2:=fun x y H Q => ∃ i j,x = .int i ∧ y = .int j ∧ C i j ∧ Q (g i j) H
def rI0 (g : Int → Int → V) : R2:=fun x y H Q => ∃ i j,x = .int i ∧ y = .int j ∧ Q (g i j) H
def rU (g : Int → V) : V → Hp → VK → Prop:=fun x H Q => ∃ i,x = .int i ∧ Q (g i) H
section
variable {X : Cx} {a b c : Expr} {ta tb tc : TE} {pos : Pos}
theorem zil (ha : PE X a ta) (hb : PE X b tb) {pins : List (Addr × Obj)} {s : Shared} {σ : St} {H : Hp} {R : V → V → Hp → Prop} (I : Inv X pins σ H s)
  (h : ta σ H fun x H1 => tb σ H1 fun y H2 => R x y H2) {Q : Value → Shared → Prop} {f : Value → Value → Sem Value}
  (hf : ∀ v u s2 x y H2,Inv X pins σ H2 s2 → RelV x v → RelV y u → R x y H2 → wpAny (model X.prog X.w) X.A (f v u) Q X.xe s2) :
  wpAny (model X.prog X.w) X.A (eval a X.env) (fun v s₁ => wpAny (model X.prog X.w) X.A (eval b X.env) (fun u s₂ => wpAny (model X.prog X.w) X.A (f v u) Q X.xe s₂) X.xe s₁) X.xe s:=by
 refine thn (ha pins s σ H _ I h) fun v s1 ⟨x,H1,I1,r1,q1⟩ => ?_
 refine thn (hb pins s1 σ H1 _ I1 q1) fun u s2 ⟨y,H2,I2,r2,q2⟩ => ?_
 exact hf v u s2 x y H2 I2 r1 r2 q2
theorem zg {op : Operator} {r : R2} (ho : OpR X (binaryOp op) r) (ha : PE X a ta) (hb : PE X b tb) : PE X (.BinOp a op b pos) (tOp r ta tb):=by
 intro pins s σ H Q I h
 exact wpAny_BinOp (zil ha hb I h fun v u s2 x y H2 I2 rx ry q => ho pins s2 σ H2 x y v u Q I2 rx ry q)
theorem zh1 {op : UnaryOp} {r : V → Hp → VK → Prop} (ho : UnR X (unaryOp op) r) (ha : PE X a ta) : PE X (.UnaryOp op a pos) (tUn r ta):=by
 intro pins s σ H Q I h
 exact UnaryOp_ (thn (ha pins s σ H _ I h) fun v s1 ⟨x,H1,I1,r1,q1⟩ => ho pins s1 σ H1 x v Q I1 r1 q1)
theorem opI {f : Value → Value → Sem Value} {C : Int → Int → Prop} {g : Int → Int → Int}
  (rule : ∀ (i j : Int) (t u : Tok) (s : Shared) (Q : Value → Shared → Prop) (E : Value → Shared → Prop),C i j → Q (.int (g i j) s.toks) { s with toks:=s.toks + 1 } → wpAny (model X.prog X.w) X.A (f (.int i t) (.int j u)) Q E s) :
  OpR X f (rI C fun i j => .int (g i j)):=by
 intro pins s σ H x y v u Q I rx ry h
 obtain ⟨i,j,rfl,rfl,hc,q⟩:=h
 obtain ⟨t,rfl⟩:=rx
 obtain ⟨t',rfl⟩:=ry
 exact rule i j t t' s _ _ hc ⟨.int (g i j),H,I.tok _,⟨_,rfl⟩,q⟩
theorem zim {f : Value → Value → Sem Value} {g : Int → Int → Int}
  (rule : ∀ (i j : Int) (t u : Tok) (s : Shared) (Q : Value → Shared → Prop) (E : Value → Shared → Prop),Q (.int (g i j) s.toks) { s with toks:=s.toks + 1 } → wpAny (model X.prog X.w) X.A (f (.int i t) (.int j u)) Q E s) :
  OpR X f (rI0 fun i j => .int (g i j)):=by
 intro pins s σ H x y v u Q I rx ry h
 obtain ⟨i,j,rfl,rfl,q⟩:=h
 obtain ⟨t,rfl⟩:=rx
 obtain ⟨t',rfl⟩:=ry
 exact rule i j t t' s _ _ ⟨.int (g i j),H,I.tok _,⟨_,rfl⟩,q⟩
theorem zhk {f : Value → Value → Sem Value} {g : Int → Int → Bool}
  (rule : ∀ (i j : Int) (t u : Tok) (s : Shared) (Q : Value → Shared → Prop) (E : Value → Shared → Prop),Q (.bool (g i j)) s → wpAny (model X.prog X.w) X.A (f (.int i t) (.int j u)) Q E s) :
  OpR X f (rI0 fun i j => .bl (g i j)):=by
 intro pins s σ H x y v u Q I rx ry h
 obtain ⟨i,j,rfl,rfl,q⟩:=h
 obtain ⟨t,rfl⟩:=rx
 obtain ⟨t',rfl⟩:=ry
 exact rule i j t t' s _ _ ⟨.bl (g i j),H,I,rfl,q⟩
def zjb (i j : Int) : Prop:=0 < j ∧ j < 1073741824
def zjM (i j : Int) : Prop:=0 ≤ j ∧ j ≤ 1000000 ∧ i.natAbs < 2 ^ 64
def zin (i j : Int) : Prop:=(-(2 ^ 64) < i ∧ i < 2 ^ 64) ∨ (-(2 ^ 64) < j ∧ j < 2 ^ 64)
theorem zin.ok {i j : Int} (h : zin i j) : IntMulOk i j:=by
 rcases h with ⟨h1,h2⟩ | ⟨h1,h2⟩
 ·exact .of_left (intBits_le_64 h1 h2)
 ·exact .of_right (intBits_le_64 h1 h2)
theorem zE : OpR X (binaryOp .Add) (rI0 fun i j => .int (i + j)):=zim fun _ _ _ _ _ _ _ q => add_int q
theorem zbf : OpR X (binaryOp .Sub) (rI0 fun i j => .int (i - j)):=zim fun _ _ _ _ _ _ _ q => sub_int q
theorem zJ : OpR X (binaryOp .Mult) (rI zin fun i j => .int (i * j)):=opI fun _ _ _ _ _ _ _ hc q => mul_int q hc.ok
theorem zct : OpR X (binaryOp .FloorDiv) (rI zjb fun i j => .int (i / j)):=opI fun i j _ _ _ _ _ hc q => by
 have h1 : (0 : Int) < j:=hc.1
 have h2 : j < 1073741824:=hc.2
 exact floordiv_int (by omega) (by rw [Int.fdiv_eq_ediv_of_nonneg i (by omega)]; exact q) (.inl (PyProof.noPylong_small (by omega)))
theorem zy : OpR X (binaryOp .Mod) (rI (fun _ j => 0 < j) fun i j => .int (i % j)):=opI fun i j _ _ _ _ _ hc q => by
 have h1 : (0 : Int) < j:=hc
 exact mod_int' (by omega) (by rw [Int.fmod_eq_emod_of_nonneg i (by omega)]; exact q)
theorem zio : OpR X (binaryOp .Pow) (rI zjM fun i j => .int (i ^ j.toNat)):=opI fun _ _ _ _ _ _ _ hc q => pow_int_small hc.1 hc.2.1 hc.2.2 q
theorem zhl : OpR X (inplaceOp .Add) (rI0 fun i j => .int (i + j)):=zim fun _ _ _ _ _ _ _ q => iadd_int q
theorem zgg : OpR X (inplaceOp .FloorDiv) (rI zjb fun i j => .int (i / j)):=opI fun i j _ _ _ _ _ hc q => by
 have h1 : (0 : Int) < j:=hc.1
 have h2 : j < 1073741824:=hc.2
 exact ifloordiv_int (by omega) (by rw [Int.fdiv_eq_ediv_of_nonneg i (by omega)]; exact q) (.inl (PyProof.noPylong_small (by omega)))
theorem unI {f : Value → Sem Value} {g : Int → Int}
  (rule : ∀ (i : Int) (t : Tok) (s : Shared) (Q : Value → Shared → Prop) (E : Value → Shared → Prop),Q (.int (g i) s.toks) { s with toks:=s.toks + 1 } → wpAny (model X.prog X.w) X.A (f (.int i t)) Q E s) :
  UnR X f (rU fun i => .int (g i)):=by
 intro pins s σ H x v Q I rx h
 obtain ⟨i,rfl,q⟩:=h
 obtain ⟨t,rfl⟩:=rx
 exact rule i t s _ _ ⟨.int (g i),H,I.tok _,⟨_,rfl⟩,q⟩
theorem zgh : UnR X (unaryOp .USub) (rU fun i => .int (-i)):=unI fun _ _ _ _ _ q => neg_int q
end
def zjc : V → V → Bool
 | .non,.non => true | .non,.int _ => true | .int _,.non => true | .non,.bl _ => true | .bl _,.non => true | .non,.str _ => true | .str _,.non => true
 | .int _,.int _ => true | .bl _,.bl _ => true | .str _,.str _ => true | .byt _,.byt _ => true
 | .int _,.str _ => true | .str _,.int _ => true | .bl _,.str _ => true | .str _,.bl _ => true
 | _,_ => false
def rEq : R2:=fun x y H Q => zjc x y = true ∧ Q (.bl (decide (x = y))) H
def rNe : R2:=fun x y H Q => zjc x y = true ∧ Q (.bl (!decide (x = y))) H
theorem ze8 {i j : Int} : decide (V.int i = V.int j) = (i == j):=by
 rw [Bool.eq_iff_iff]
 simp
theorem zgi {i j : Bool} : decide (V.bl i = V.bl j) = (i == j):=by
 rw [Bool.eq_iff_iff]
 simp
theorem ze9 {i j : Str} : decide (V.str i = V.str j) = (i == j):=by
 rw [Bool.eq_iff_iff]
 simp
theorem zfa {i j : Array UInt8} : decide (V.byt i = V.byt j) = (i.toList == j.toList):=by
 rw [Bool.eq_iff_iff]
 cases i
 cases j
 simp
section
variable {X : Cx} {a b c : Expr} {ta tb tc : TE} {pos : Pos}
theorem zH {pins : List (Addr × Obj)} {σ : St} {H : Hp} {s : Shared} {Q : VK} {k k' : Bool} (I : Inv X pins σ H s) (q : Q (.bl k) H) (e : k = k') : EP X pins σ Q (.bool k') s:=by
 subst e
 exact ⟨.bl k,H,I,rfl,q⟩
theorem zcH : OpR X (compareOp .Eq) rEq:=by
 intro pins s σ H x y v u Q I rx ry h
 obtain ⟨hs,q⟩:=h
 cases x with
 | non =>
  cases rx
  cases y with
  | non => cases ry; exact PySem.EqNone.eq_none_none (zH I q (by simp))
  | bl j => cases ry; exact PySem.EqNone.eq_none_bool (zH I q (by simp))
  | int j => obtain ⟨t',rfl⟩:=ry; exact PySem.EqNone.eq_none_int (zH I q (by simp))
  | str j => obtain ⟨t',rfl⟩:=ry; exact PySem.EqNone.eq_none_str (zH I q (by simp))
  | _ => exact absurd (show false = true from hs) Bool.false_ne_true
 | bl i =>
  cases rx
  cases y with
  | non => cases ry; exact PySem.EqNone.eq_bool_none (zH I q (by simp))
  | bl j => cases ry; exact eq_bool (zH I q zgi)
  | str j => obtain ⟨t',rfl⟩:=ry; exact PySem.EqMixed.eq_bool_str (zH I q (by simp))
  | _ => exact absurd (show false = true from hs) Bool.false_ne_true
 | int i =>
  obtain ⟨t,rfl⟩:=rx
  cases y with
  | non => cases ry; exact PySem.EqNone.eq_int_none (zH I q (by simp))
  | int j => obtain ⟨t',rfl⟩:=ry; exact eq_int (zH I q ze8)
  | str j => obtain ⟨t',rfl⟩:=ry; exact PySem.EqMixed.eq_int_str (zH I q (by simp))
  | _ => exact absurd (show false = true from hs) Bool.false_ne_true
 | str i =>
  obtain ⟨t,rfl⟩:=rx
  cases y with
  | non => cases ry; exact PySem.EqNone.eq_str_none (zH I q (by simp))
  | bl j => cases ry; exact PySem.EqMixed.eq_str_bool (zH I q (by simp))
  | int j => obtain ⟨t',rfl⟩:=ry; exact PySem.EqMixed.eq_str_int (zH I q (by simp))
  | str j => obtain ⟨t',rfl⟩:=ry; exact eq_str (zH I q ze9)
  | _ => exact absurd (show false = true from hs) Bool.false_ne_true
 | byt i =>
  obtain ⟨t,rfl⟩:=rx
  cases y with
  | byt j => obtain ⟨t',rfl⟩:=ry; exact PySem.W.eq_bytes (zH I q zfa)
  | _ => exact absurd (show false = true from hs) Bool.false_ne_true
 | _ => cases y <;> exact absurd (show false = true from hs) Bool.false_ne_true
theorem zcI : OpR X (compareOp .NotEq) rNe:=by
 intro pins s σ H x y v u Q I rx ry h
 obtain ⟨hs,q⟩:=h
 cases x with
 | non =>
  cases rx
  cases y with
  | non => cases ry; exact PySem.EqNone.ne_none_none (zH I q (by simp))
  | bl j => cases ry; exact PySem.EqNone.ne_none_bool (zH I q (by simp))
  | int j => obtain ⟨t',rfl⟩:=ry; exact PySem.EqNone.ne_none_int (zH I q (by simp))
  | str j => obtain ⟨t',rfl⟩:=ry; exact PySem.EqNone.ne_none_str (zH I q (by simp))
  | _ => exact absurd (show false = true from hs) Bool.false_ne_true
 | bl i =>
  cases rx
  cases y with
  | non => cases ry; exact PySem.EqNone.ne_bool_none (zH I q (by simp))
  | bl j => cases ry; exact ne_bool (zH I q (congrArg not zgi))
  | str j => obtain ⟨t',rfl⟩:=ry; exact PySem.EqMixed.ne_bool_str (zH I q (by simp))
  | _ => exact absurd (show false = true from hs) Bool.false_ne_true
 | int i =>
  obtain ⟨t,rfl⟩:=rx
  cases y with
  | non => cases ry; exact PySem.EqNone.ne_int_none (zH I q (by simp))
  | int j => obtain ⟨t',rfl⟩:=ry; exact ne_int (zH I q (congrArg not ze8))
  | str j => obtain ⟨t',rfl⟩:=ry; exact PySem.EqMixed.ne_int_str (zH I q (by simp))
  | _ => exact absurd (show false = true from hs) Bool.false_ne_true
 | str i =>
  obtain ⟨t,rfl⟩:=rx
  cases y with
  | non => cases ry; exact PySem.EqNone.ne_str_none (zH I q (by simp))
  | bl j => cases ry; exact PySem.EqMixed.ne_str_bool (zH I q (by simp))
  | int j => obtain ⟨t',rfl⟩:=ry; exact PySem.EqMixed.ne_str_int (zH I q (by simp))
  | str j => obtain ⟨t',rfl⟩:=ry; exact ne_str (zH I q (congrArg not ze9))
  | _ => exact absurd (show false = true from hs) Bool.false_ne_true
 | byt i =>
  obtain ⟨t,rfl⟩:=rx
  cases y with
  | byt j => obtain ⟨t',rfl⟩:=ry; exact PySem.W.ne_bytes (zH I q (congrArg not zfa))
  | _ => exact absurd (show false = true from hs) Bool.false_ne_true
 | _ => cases y <;> exact absurd (show false = true from hs) Bool.false_ne_true
theorem zfb : OpR X (compareOp .Lt) (rI0 fun i j => .bl (decide (i < j))):=zhk fun _ _ _ _ _ _ _ q => lt_int q
theorem zjd : OpR X (compareOp .LtE) (rI0 fun i j => .bl (decide (i ≤ j))):=zhk fun _ _ _ _ _ _ _ q => le_int q
theorem zfc : OpR X (compareOp .Gt) (rI0 fun i j => .bl (decide (j < i))):=zhk fun _ _ _ _ _ _ _ q => gt_int q
theorem zje : OpR X (compareOp .GtE) (rI0 fun i j => .bl (decide (j ≤ i))):=zhk fun _ _ _ _ _ _ _ q => ge_int q
theorem ziq : OpR X (compareOp .Is) (fun x y H Q => y = .non ∧ Q (.bl (decide (x = .non))) H):=by
 intro pins s σ H x y v u Q I rx ry h
 obtain ⟨rfl,q⟩:=h
 cases ry
 refine is_none_gen (zH I q ?_)
 cases x <;> first
  | (cases rx; rfl)
  | (obtain ⟨t,rfl⟩:=rx; rfl)
theorem zdI : OpR X (compareOp .IsNot) (fun x y H Q => y = .non ∧ Q (.bl (!decide (x = .non))) H):=by
 intro pins s σ H x y v u Q I rx ry h
 obtain ⟨rfl,q⟩:=h
 cases ry
 refine isnot_none_gen (zH I q ?_)
 cases x <;> first
  | (cases rx; rfl)
  | (obtain ⟨t,rfl⟩:=rx; rfl)
theorem zK (b : Expr) {op : CmpOp} (h : op ≠ .In:=by decide) (h2 : op ≠ .NotIn:=by decide) : behindInMarks op b = false:=by
 have e1 : (op == CmpOp.In) = false:=by cases op <;> first | rfl | exact absurd rfl h
 have e2 : (op == CmpOp.NotIn) = false:=by cases op <;> first | rfl | exact absurd rfl h2
 cases b <;> simp [behindInMarks,e1,e2]
theorem zhm {op : CmpOp} {r : R2} (ho : OpR X (compareOp op) r) (ha : PE X a ta) (hb : PE X b tb) (hm : behindInMarks op b = false) : PE X (.Compare a [op] [b] pos) (tOp r ta tb):=by
 intro pins s σ H Q I h
 exact wpAny_Compare1 (zil ha hb I h fun v u s2 x y H2 I2 rx ry q => ho pins s2 σ H2 x y v u Q I2 rx ry q) hm
def zjf (t : TE) : TT:=fun σ H Q => t σ H fun x H' => ∃ k,x = .bl k ∧ Q k H'
theorem zB {op : CmpOp} {r : R2} (ho : OpR X (compareOp op) r) (ha : PE X a ta) (hb : PE X b tb) (hm : behindInMarks op b = false) : PT X (.Compare a [op] [b] pos) (zjf (tOp r ta tb)):=by
 intro pins s σ H Q I h
 refine wpAny_isTrue_Compare1 (thn (ha pins s σ H _ I h) fun v s1 ⟨x,H1,I1,r1,q1⟩ => thn (hb pins s1 σ H1 _ I1 q1) fun u s2 ⟨y,H2,I2,r2,q2⟩ =>
  thn (ho pins s2 σ H2 x y v u _ I2 r1 r2 q2) fun c s3 ⟨z,H3,I3,r3,k,e,q3⟩ => ?_) hm
 subst e
 cases r3
 exact wpAny_truthy_bool ⟨H3,I3,q3⟩
def zir (r r' : R2) (ta tb tc : TE) : TE:=fun σ H Q => ta σ H fun x H1 => tb σ H1 fun y H2 => r x y H2 fun z H3 => ∃ k,z = .bl k ∧
 (if k = true then tc σ H3 fun w' H4 => r' y w' H4 Q else Q (.bl false) H3)
theorem zgj {op op' : CmpOp} {r r' : R2} (ho : OpR X (compareOp op) r) (ho' : OpR X (compareOp op') r') (ha : PE X a ta) (hb : PE X b tb) (hc : PE X c tc)
  (hm : lastMarks [op,op'] [b,c] = false:=by with_unfolding_all rfl) : PE X (.Compare a [op,op'] [b,c] pos) (zir r r' ta tb tc):=by
 intro pins s σ H Q I h
 refine Compare_chain (thn (ha pins s σ H _ I h) fun v s1 ⟨x,H1,I1,r1,q1⟩ => chain_link (thn (hb pins s1 σ H1 _ I1 q1) fun u s2 ⟨y,H2,I2,r2,q2⟩ =>
  thn (ho pins s2 σ H2 x y v u _ I2 r1 r2 q2) fun d s3 ⟨z,H3,I3,r3,k,e,q3⟩ => ?_)) hm
 subst e
 cases r3
 refine wpAny_truthy_bool ?_
 cases k with
 | false => exact ite_ff ⟨.bl false,H3,I3,rfl,q3⟩
 | true => exact ite_tt (chain_last (thn (hc pins s3 σ H3 _ I3 q3) fun w' s4 ⟨z',H4,I4,r4,q4⟩ => ho' pins s4 σ H4 y z' u w' Q I4 r2 r4 q4))
def zjg (K : PySem.W.Frag) (x : V) (H : Hp) (k : Bool) : Prop :=
 match x with
 | .non => k = false
 | .bl b => k = b
 | .int i => k = (i != 0)
 | .str y => y.length ≤ sizeLine ∧ k = ((y.length : Int) != 0)
 | .byt y => y.size ≤ sizeLine ∧ k = ((y.size : Int) != 0)
 | .ref p => (∃ xs,SqL K H p xs ∧ k = !xs.isEmpty) ∨ (∃ xs,SqT K H p xs ∧ k = !xs.isEmpty) ∨ ∃ kvs,H p = some (.dK kvs) ∧ k = !kvs.isEmpty
 | _ => False
theorem zeJ {κ : Type} {kvs : List (κ × V)} {vs : List (κ × Value)} (r : KV kvs vs) : (!vs.isEmpty) = !kvs.isEmpty:=by
 cases r <;> rfl
theorem zcJ {xs : List V} {its : List Value} (r : zC xs its) : (!its.toArray.isEmpty) = !xs.isEmpty:=by
 cases r <;> simp
theorem zcK : (sizeLine : Nat) < 2 ^ 63:=by rw [sizeLine_eq]; decide
theorem zis : zjL X (fun x H Q => ∃ k,zjg X.K x H k ∧ Q k H):=by
 intro pins s σ H x v Q I rx h
 obtain ⟨k,e,q⟩:=h
 have hl:=zcK
 have hs : sizeLine = 16777216:=sizeLine_eq
 cases x with
 | non =>
  cases rx
  have e' : k = false:=e
  subst e'
  exact truthy_none ⟨H,I,q⟩
 | bl b =>
  cases rx
  have e' : k = b:=e
  subst e'
  exact wpAny_truthy_bool ⟨H,I,q⟩
 | int i =>
  obtain ⟨t,rfl⟩:=rx
  have e' : k = (i != 0):=e
  subst e'
  exact PySem.P.truthy_int ⟨H,I,q⟩
 | str y =>
  obtain ⟨t,rfl⟩:=rx
  obtain ⟨hy,e'⟩ : y.length ≤ sizeLine ∧ k = ((y.length : Int) != 0):=e
  subst e'
  exact PySem.P.truthy_str (by omega) ⟨H,I.tok _,q⟩
 | byt y =>
  obtain ⟨t,rfl⟩:=rx
  obtain ⟨hy,e'⟩ : y.size ≤ sizeLine ∧ k = ((y.size : Int) != 0):=e
  subst e'
  exact PySem.W.truthy_bytes (by omega) ⟨H,I.tok _,q⟩
 | ref p =>
  cases rx
  have e' : (∃ xs,SqL X.K H p xs ∧ k = !xs.isEmpty) ∨ (∃ xs,SqT X.K H p xs ∧ k = !xs.isEmpty) ∨ ∃ kvs,H p = some (.dK kvs) ∧ k = !kvs.isEmpty:=e
  rcases e' with ⟨xs,hx,e'⟩ | ⟨xs,hx,e'⟩ | ⟨kvs,hx,e'⟩
  ·subst e'
   obtain ⟨its,r,pl,hz⟩:=I.list hx
   have hlen:=r.length
   exact wpAny_truthy_list pl.isList (by simp only [List.size_toArray]; omega) ⟨H,I.tok _,by rw [zcJ r]; exact q⟩
  ·subst e'
   obtain ⟨its,r,pl,hz⟩:=I.tuple hx
   have hlen:=r.length
   exact truthy_tuple pl (by simp only [List.size_toArray]; omega) ⟨H,I.tok _,by rw [zcJ r]; exact q⟩
  ·subst e'
   obtain ⟨hz,hS,vs,r,m⟩ : kvs.length ≤ sizeLine ∧ (p == sysModules) = false ∧ ∃ vs,KV kvs vs ∧ s.heap.DictOf (zdE X.prog X.w) p vs:=I.hok p _ hx
   have hlen : kvs.length = vs.length:=Paired.length r
   exact wpAny_truthy_dict hS m (by omega) ⟨H,I.tok _,by rw [zeJ r]; exact q⟩
 | _ => exact (show False from e).elim
theorem zgk (ha : PE X a ta) (he : ∀ whole,isTrue a X.env whole = (do let v ← whole; standAt a.pos; holding [v] (truthy v))) :
  PT X a (fun σ H Q => ta σ H fun x H' => ∃ k,zjg X.K x H' k ∧ Q k H'):=by
 intro pins s σ H Q I h
 exact isTrue_plain (thn (ha pins s σ H _ I h) fun v s1 ⟨x,H1,I1,r1,q1⟩ => zis pins s1 σ H1 x v Q I1 r1 q1) (he _)
theorem vals1 {x : V} {us : List Value} (r : zC [x] us) : ∃ u,us = [u] ∧ RelV x u:=by
 cases r with
 | cons r1 r2 => cases r2; exact ⟨_,rfl,r1⟩
theorem vals2 {x y : V} {us : List Value} (r : zC [x,y] us) : ∃ u w',us = [u,w'] ∧ RelV x u ∧ RelV y w':=by
 cases r with
 | cons r1 r2 =>
  cases r2 with
  | cons r3 r4 => cases r4; exact ⟨_,_,rfl,r1,r3⟩
theorem zdo (hc : X.calm = true) : zbs X (.builtin "min") (fun xs H Q => ∃ i j,xs = [.int i,.int j] ∧ Q (.int (if j < i then j else i)) H):=by
 intro pins s σ H xs us Q I r h
 obtain ⟨i,j,rfl,q⟩:=h
 obtain ⟨u,w',rfl,⟨t,rfl⟩,⟨t',rfl⟩⟩:=vals2 r
 refine min_two_ints (I.ok.hd hc) fun h' tk k => ⟨_,H,I.kept k,?_,q⟩
 by_cases hj : j < i
 ·rw [if_pos hj,if_pos hj]; exact ⟨_,rfl⟩
 ·rw [if_neg hj,if_neg hj]; exact ⟨_,rfl⟩
end
end L2
namespace L2
open PySem PySem.Spec PyProof.Rows
structure ObjM (h : Heap) (x dx C : Addr) (mA : Str → Option Value) : Prop where
 obj : h.get? x = some (PySem.W.instObj C dx)
 ns : h.Ns1 dx mA
 ne : dx ≠ x
theorem zfF {h : Heap} {dx : Addr} {mA : Str → Option Value} (n : h.Ns1 dx mA) : ∃ od,h.get? dx = some od ∧ ∀ name,PySem.W.lookIn name od = some (mA name):=by
 obtain ⟨o,es,ep,ho,hd,hk,_,hm⟩:=n
 refine ⟨o,ho,fun name => ?_⟩
 have e:=hm name
 unfold nsFind findBy at e
 rw [← Array.find?_toList] at e
 unfold PySem.W.lookIn
 rw [hd]
 dsimp only
 split
 ·rename_i y q
  rw [q] at e
  exact congrArg some e
 ·rename_i q
  rw [q] at e
  have a : es.toList.any (·.refKey) = false:=by
   rw [List.any_eq_false]
   intro y hy
   obtain ⟨z,t,hkey⟩:=hk y (Array.mem_toList_iff.mp hy)
   simp [DictEntry.refKey,hkey]
  have a' : ¬ es.toList.any (·.refKey) = true:=by rw [a]; exact Bool.false_ne_true
  rw [if_neg a']
  exact congrArg some e
theorem ObjM.look {h : Heap} {x dx C : Addr} {mA : Str → Option Value} (I : ObjM h x dx C mA) : ∃ od,PySem.W.InstAt h x (PySem.W.instObj C dx) C (some od) ∧ ∀ name,PySem.W.lookIn name od = some (mA name) :=
 let ⟨od,ho,hl⟩:=zfF I.ns
 ⟨od,⟨I.obj,rfl,rfl,ho⟩,hl⟩
section
variable {prog : Program} {w : World} {A : Around} {E : Value → Shared → Prop} {s : Shared} {K : PySem.W.Frag} {x dx C f : Addr} {mA : Str → Option Value} {name : Str} {v : Value}
end
section
variable {P : Program} {w : World} {H H' : Hp} {h h' : Heap} {a C dx : Addr} {fs fs' : List (Str × V)}
theorem zhn (hok : HOk P w H h) (e : H a = some (.ins C dx fs)) : ∃ mA,ObjM h a dx C mA ∧ (∀ f,zif (fs.lookup f) (mA f)) ∧ PySem.Within mA (fs.map (·.1)) ∧ fs.length ≤ 1000 ∧ H dx = some (.own a):=by
 obtain ⟨d,z,ne,ob,mA,n,r,q⟩:=(show zaj P w H h a (.ins C dx fs) from hok a _ e)
 exact ⟨mA,⟨ob,n,ne⟩,r,q,z,d⟩
end
structure Cls (K : PySem.W.Frag) (C : Addr) : Prop where
 pg : PySem.W.plainGet K C Str.empty = true
 hd : PySem.W.hasDictIn K C = true
 po : PySem.W.plainOver K C = true
 sa : PySem.W.findIn K (.ref C) "__setattr__" = some (some (.builtin "object.__setattr__"))
theorem Cls.get {K : PySem.W.Frag} {C : Addr} (c : Cls K C) (f : Str) : PySem.W.plainGet K C f = true:=c.pg
section
variable {X : Cx} {pins : List (Addr × Obj)} {σ : St} {H : Hp} {s : Shared} {a C dx : Addr} {fs : List (Str × V)} {f : Str} {v : V} {A : Around} {E : Value → Shared → Prop}
end
section
variable {X : Cx} {o e value : Expr} {f : Str} {pos pos' tpos : Pos} {ta tv : TE}
end
section
variable {X : Cx} {pins : List (Addr × Obj)} {σ : St} {H : Hp} {s : Shared} {A : Around} {E : Value → Shared → Prop} {Q : Value → Shared → Prop} {c : Value} {b : Bool}
inductive TyOf (K : PySem.W.Frag) (H : Hp) : V → Value → Prop where
 | non : TyOf K H .non (.type "NoneType")
 | bl (x : Bool) : TyOf K H (.bl x) (.type "bool")
 | int (i : Int) : TyOf K H (.int i) (.type "int")
 | str (x : Str) : TyOf K H (.str x) (.type "str")
 | flt (x : UInt64) : TyOf K H (.flt x) (.type "float")
 | lst {a : Addr} {xs : List V} (e : H a = some (.lst xs)) : TyOf K H (.ref a) (.type "list")
 | frz {a : Addr} {o : Obj} {xs : List V} (e : H a = some (.frz o (.lst xs))) : TyOf K H (.ref a) (.type "list")
 | tup {a : Addr} {xs : List V} (e : H a = some (.tup xs)) : TyOf K H (.ref a) (.type "tuple")
 | dK {a : Addr} {kvs : List (Key × V)} (e : H a = some (.dK kvs)) : TyOf K H (.ref a) (.type "dict")
 | dT {a : Addr} {kvs : List (List Key × V)} (e : H a = some (.dT kvs)) : TyOf K H (.ref a) (.type "dict")
 | ins {a C dx : Addr} {fs : List (Str × V)} (e : H a = some (.ins C dx fs)) (cl : Cls K C) (ha : PySem.W.findIn K (.ref C) "__class__" = some (some (.builtin "object.__class__")))
   (hn : PySem.W.specialIn K (.builtin "object.__class__") "__get__" = some (some (.builtin "getset_descriptor.__get__"))) (htk : PySem.W.takesIn K (.builtin "object.__class__") = some true)
   (hm : PySem.W.mroIn K C (.type "object") = some true) : TyOf K H (.ref a) (.ref C)
theorem zfG {x : V} {u t : Value} (I : Inv X pins σ H s) (rx : RelV x u) (ty : TyOf X.K H x t) (e : PySem.W.kitOne X.K t c = some b) (h : ∀ tk,Q (.bool b) { s with toks:=tk }) :
  wpAny (model X.prog X.w) A (call (.builtin "isinstance") [u,c]) Q E s:=by
 cases ty with
 | non => cases (show u = Value.none from rx); exact PySem.W.kia_one PySem.W.kitx_none I.kIn True.intro e (fun z => nomatch z) h
 | bl y => cases (show u = Value.bool y from rx); exact PySem.W.kia_one PySem.W.kitx_bool I.kIn True.intro e (fun z => nomatch z) h
 | int i => obtain ⟨t,q⟩:=(show ∃ t,u = Value.int i t from rx); cases q; exact PySem.W.kia_one PySem.W.kitx_int I.kIn True.intro e (fun z => nomatch z) h
 | str y => obtain ⟨t,q⟩:=(show ∃ t,u = Value.str y t from rx); cases q; exact PySem.W.kia_one PySem.W.kitx_str I.kIn True.intro e (fun z => nomatch z) h
 | flt y => obtain ⟨t,q⟩:=(show ∃ t,u = Value.float y t from rx); cases q; exact PySem.W.kia_one PySem.W.kitx_float I.kIn True.intro e (fun z => nomatch z) h
 | @lst a xs ea =>
  cases (show u = Value.ref a from rx)
  obtain ⟨_,_,n,_,h1⟩:=(show zaj X.prog X.w H s.heap a (.lst xs) from I.hok a _ ea)
  exact PySem.W.kia_one PySem.W.kitx_list I.kIn ⟨_,h1,rfl⟩ e (fun z => nomatch z) h
 | @frz a ob xs ea =>
  cases (show u = Value.ref a from rx)
  obtain ⟨_,_,_,n,_,h1⟩:=(show zaj X.prog X.w H s.heap a (.frz ob (.lst xs)) from I.hok a _ ea)
  exact PySem.W.kia_one PySem.W.kitx_list I.kIn ⟨_,h1,rfl⟩ e (fun z => nomatch z) h
 | @tup a xs ea =>
  cases (show u = Value.ref a from rx)
  obtain ⟨_,_,_,p⟩:=(show zaj X.prog X.w H s.heap a (.tup xs) from I.hok a _ ea)
  obtain ⟨o,h1,h2,_⟩:=p
  exact PySem.W.kia_one PySem.W.kitx_tuple I.kIn ⟨o,h1,h2⟩ e (fun z => nomatch z) h
 | @dK a kvs ea =>
  cases (show u = Value.ref a from rx)
  obtain ⟨_,_,vs,_,p⟩:=(show zaj X.prog X.w H s.heap a (.dK kvs) from I.hok a _ ea)
  obtain ⟨o,es,ep,h1,h2,_⟩:=p
  exact PySem.W.kia_one PySem.W.kitx_dict I.kIn ⟨o,h1,h2.1⟩ e (fun z => nomatch z) h
 | @dT a kvs ea =>
  cases (show u = Value.ref a from rx)
  obtain ⟨_,_,xs,_,o,es,ep,h1,h2,_⟩:=(show zaj X.prog X.w H s.heap a (.dT kvs) from I.hok a _ ea)
  exact PySem.W.kia_one PySem.W.kitx_dict I.kIn ⟨o,h1,h2.1⟩ e (fun z => nomatch z) h
 | @ins a C dx fs ea cl ha hn htk hm =>
  cases (show u = Value.ref a from rx)
  obtain ⟨mA,O,_⟩:=zhn I.hok ea
  obtain ⟨od,J,_⟩:=O.look
  exact PySem.W.kia_one (PySem.W.kitx_own (cl.get _) cl.hd ha hn htk hm) I.kIn J e (fun z => nomatch z) h
end
end L2
namespace L2
open PySem PySem.Spec PyProof.Rows
structure Room (k : Nat) (A : Around) : Prop where
 hd : A.handled = none
 dp : A.depth + 3 * k + 5 < recursionLimit
 un : A.units + 16 * k + 200 < cLine
theorem Room.mono {j k : Nat} {A : Around} (r : Room k A) (h : j ≤ k) : Room j A:=⟨r.hd,by have:=r.dp; omega,by have:=r.un; omega⟩
theorem Room.deeper {k : Nat} {A : Around} (r : Room (k + 1) A) (env : Env) : Room k (A.deeper env) :=
 ⟨r.hd,by have:=r.dp; show A.depth + 1 + 3 * k + 5 < _; omega,by have:=r.un; show A.units + 3 + 16 * k + 200 < _; omega⟩
theorem Room.depth {k : Nat} {A : Around} (r : Room k A) : A.depth < recursionLimit:=by have:=r.dp; omega
theorem Room.units {k : Nat} {A : Around} (r : Room k A) : A.units + 64 < cLine:=by have:=r.un; omega
def zjN : TA:=fun _ H Q => Q [] H
def zh2 (ta : TE) (tr : TA) : TA:=fun σ H Q => ta σ H fun x H1 => tr σ H1 fun xs H2 => Q (x :: xs) H2
section
variable {X : Cx} {e : Expr} {es : List Expr} {te : TE} {t : TA} {pos : Pos}
theorem ze : PA X [] zjN:=fun _ _ _ _ H Q I h => Calls.spliced_nil ⟨[],H,I,.nil,h⟩
theorem za (ha : PE X e te) (hr : PA X es t) (hs : starEach (e :: es) X.env = (false,eval e X.env) :: starEach es X.env:=by rfl) : PA X (e :: es) (zh2 te t):=by
 intro pos pins s σ H Q I h
 rw [hs]
 show wpAny _ _ (spliced ((false,eval e X.env) :: backTo pos (starEach es X.env))) _ _ s
 refine Calls.spliced_cons (thn (ha pins s σ H _ I h) fun u s1 ⟨x,H1,I1,r1,q1⟩ => ?_)
 exact thn (hr pos pins s1 σ H1 _ I1 q1) fun us s2 ⟨xs,H2,I2,r2,q2⟩ => ⟨x :: xs,H2,I2,.cons r1 r2,q2⟩
def zjO (t : TA) : TE:=fun σ H Q => t σ H fun xs H1 => xs.length ≤ sizeLine ∧ ∀ p,H1 p = none → Q (.ref p) (upd H1 p (.tup xs))
def zho (t : TA) : TE:=fun σ H Q => t σ H fun xs H1 => xs.length ≤ sizeLine ∧ ∀ p,H1 p = none → Q (.ref p) (upd H1 p (.lst xs))
theorem zaW {x1} (h : PA X es t) : PE X (.Tuple es x1 pos) (zjO t):=by
 intro pins s σ H Q I hq
 refine wpAny_Tuple_spliced (thn (h pos pins s σ H _ I hq) fun us s1 ⟨xs,H1,I1,r,z,q⟩ => ⟨by rw [← r.length]; exact z,?_⟩)
 have hf : H1 s1.heap.objs.size = none:=I1.hok.fresh (Nat.le_refl _)
 refine ⟨.ref s1.heap.objs.size,upd H1 s1.heap.objs.size (.tup xs),I1.laid (t':=s1.toks) (fun b u e => Heap.get?_push_of_some _ e) (Nat.le_refl _) ?_,rfl,q _ hf⟩
 exact ⟨z,us,r,⟨_,Heap.get?_push_size _ rfl,rfl,_,rfl⟩⟩
theorem zU (h : PA X es t) : PE X (.List es pos) (zho t):=by
 intro pins s σ H Q I hq
 refine wpAny_List_spliced (thn (h pos pins s σ H _ I hq) fun us s1 ⟨xs,H1,I1,r,z,q⟩ => ⟨by rw [← r.length]; exact z,?_⟩)
 have hf : H1 s1.heap.objs.size = none:=I1.hok.fresh (Nat.le_refl _)
 refine ⟨.ref s1.heap.objs.size,upd H1 s1.heap.objs.size (.lst xs),I1.laid (t':=s1.toks) (fun b u e => Heap.get?_push_of_some _ e) (Nat.le_refl _) ?_,rfl,q _ hf⟩
 exact ⟨z,us,0,r,Heap.get?_push_size _ rfl⟩
end
abbrev Sp:=List V → Hp → VK → XK → Prop
abbrev CXT:=List Env → Hp → Shared → XK → Value → Shared → Prop
structure Env0 (P : Program) (w : World) (K : PySem.W.Frag) (mg : Str → Option Value) (base : Heap) (A : Around) (outer : List Env) (s : Shared) (H : Hp) : Prop where
 frames : A.frames = some outer
 mod : Mod K mg base
 bs : ∀ b o,base.get? b = some o → s.heap.get? b = some o ∧ H b = none
 bsz : base.objs.size ≤ s.heap.objs.size
 funs : s.heap.FunFrames base outer
 frf : ∀ b ∈ frs outer,H b = none
 hok : HOk P w H s.heap
 bare : AllBare s.gens
def CE (outer : List Env) (P : Program) (w : World) (H : Hp) (s : Shared) (Q : VK) (u : Value) (s' : Shared) : Prop :=
 ∃ v H',s'.os = s.os ∧ AllBare s'.gens ∧ Un (frs outer) [] H H' s.heap s'.heap ∧ HOk P w H' s'.heap ∧ RelV v u ∧ Q v H'
def CR (CX : CXT) (outer : List Env) (P : Program) (w : World) (H : Hp) (s : Shared) (Q : VK) (E : XK) (r : Result) (s' : Shared) : Prop :=
 match r with
 | .ok (.ret u) => CE outer P w H s Q u s'
 | .ok _ => False
 | .error e => CX outer H s E e s'
structure FnOk (P : Program) (w : World) (K : PySem.W.Frag) (mg : Str → Option Value) (base : Heap) (CX : CXT) (k : Nat) (f : Addr) (fd : FuncData) (ps : List Str) (sp : Sp) : Prop where
 len : ∀ vs H Q E,sp vs H Q E → vs.length = ps.length
 run : ∀ (A : Around) (outer : List Env) (s : Shared) (H : Hp) (args : Args) (us : List Value) (vs : List V) (Q : VK) (E : XK),Room k A → Env0 P w K mg base A outer s H → BindsTo s fd args (ps.zip us) → zC vs us → sp vs H Q E →
  codeAny (model P w) A (.call (.ref f) args) (CR CX outer P w H s Q E) s
section
variable {X : Cx} {pins : List (Addr × Obj)} {σ : St} {H : Hp} {s s' : Shared}
theorem Inv.env0 (I : Inv X pins σ H s) : Env0 X.prog X.w X.K X.mg X.base X.A X.stack s H :=
 ⟨I.ok.frames,I.ok.mod,I.bs,Nat.le_trans I.ok.bsz I.sz,I.stack,I.stkFree,I.hok,I.bare⟩
theorem Inv.after {Q : VK} {u : Value} (I : Inv X pins σ H s) (h : CE X.stack X.prog X.w H s Q u s') : EP X pins σ Q u s':=by
 obtain ⟨v,H',os,bare,un,hok,r,q⟩:=h
 obtain ⟨hh,g,d,t,os'⟩:=s'
 obtain rfl : os' = s.os:=os
 exact ⟨v,H',I.call (h':=hh) (g':=g) (d':=d) (t':=t) (ch:=[]) un hok bare (fun b z => absurd z (by simp)),r,q⟩
end
def zjh (sp : Sp) (dvs : List V) (E : XK) (t : TA) : TE:=fun σ H Q => t σ H fun vs H1 => sp (vs ++ dvs) H1 Q E
def Binds (K : PySem.W.Frag) (fd : FuncData) (ps : List Str) (ds : List Value) : Prop :=
 ∀ (s : Shared) (us : List Value),K.In s.heap → (us ++ ds).length = ps.length → BindsTo s fd ⟨us,[]⟩ (ps.zip (us ++ ds))
theorem Binds.all {K : PySem.W.Frag} {fd : FuncData} {ps : List Str} (h : ∀ us : List Value,us.length = ps.length → bindArgs fd ⟨us,[]⟩ = pure (ps.zip us)) : Binds K fd ps []:=fun s us _ hl => by
 rw [List.append_nil] at hl ⊢
 exact .of_eq (h us hl)
def zeK (CX : CXT) (X : Cx) (E : XK) : Prop:=∀ (pins : List (Addr × Obj)) (σ : St) (H : Hp) (s : Shared) (e : Value) (s' : Shared),Inv X pins σ H s → CX X.stack H s E e s' → X.xe e s'
section
variable {X : Cx} {CX : CXT} {k : Nat} {f C : Addr} {fd : FuncData} {ps : List Str} {sp : Sp} {dvs : List V} {ds : List Value} {E : XK} {x m : Str} {p pos apos : Pos} {e o : Expr} {es : List Expr} {ta : TE} {t : TA}
theorem zit {pins : List (Addr × Obj)} {σ : St} {H : Hp} {s : Shared} {Q : VK} {us : List Value} {vs : List V} (F : FnOk X.prog X.w X.K X.mg X.base CX k f fd ps sp) (hr : Room k X.A) (hb : Binds X.K fd ps ds) (hd : zC dvs ds) (hx : zeK CX X E)
  (I : Inv X pins σ H s) (r : zC vs us) (h : sp (vs ++ dvs) H Q E) : wpAny (model X.prog X.w) X.A (call (.ref f) us) (EP X pins σ Q) X.xe s:=by
 have r2 : zC (vs ++ dvs) (us ++ ds):=r.append hd
 have hl : (us ++ ds).length = ps.length:=by rw [← r2.length]; exact F.len _ _ _ _ h
 refine wpAny_call (codeAny_mono (F.run X.A X.stack s H ⟨us,[]⟩ (us ++ ds) (vs ++ dvs) Q E hr I.env0 (hb s us I.kIn hl) r2 h) fun r s' hq => ?_)
 cases r with
 | error e => exact hx pins σ H s e s' I hq
 | ok fl =>
  cases fl with
  | ret u => exact I.after hq
  | next => exact False.elim hq
  | brk => exact False.elim hq
  | cont => exact False.elim hq
theorem zu (F : FnOk X.prog X.w X.K X.mg X.base CX k f fd ps sp) (hr : Room k X.A) (hg : Gl X x) (hm : X.mg x = some (.ref f)) (hk : PySem.W.keepIn X.K (.ref f) = true) (hb : Binds X.K fd ps ds) (hd : zC dvs ds) (hx : zeK CX X E)
  (ha : PA X (e :: es) t) (hdb : (x == ("__debug__" : Str)) = false:=by decide) (he : starEach (e :: es) X.env = (false,eval e X.env) :: starEach es X.env:=by rfl) (hpl : (backTo pos (starEach es X.env)).any (·.1) = false:=by rfl) :
  PE X (.Call (.Name x p) (e :: es) [] pos) (zjh sp dvs E t):=by
 intro pins s σ H Q I h
 refine wpAny_Call_Name_kw (zhh I hg hm ?_ hdb)
 refine PySem.W.callWith_K (h₀:=X.base) I.ok.mod.kin hk (thn (ha pos pins s σ H _ I h) fun us s1 ⟨vs,H1,I1,r,q⟩ => ⟨I1.kIn,?_⟩) he hpl
 exact zit F hr hb hd hx I1 r q
end
section
variable {X : Cx} {CX : CXT} {k : Nat} {f C : Addr} {fd : FuncData} {ps ks : List Str} {sp : Sp} {E : XK} {x m : Str} {p pos apos kpos : Pos} {e o : Expr} {es : List Expr} {kws : List Keyword} {te ta : TE} {t tk : TA} {nm : Option Str}
variable {g : List Value → List Value → List Value} {gV : List V → List V → List V}
end
structure FnScope (N P : List Str) (sc : Scope) : Prop where
 kind : sc.kind = .function
 co : sc.isCoroutine = false
 gen : sc.isGenerator = false
 nd : N.Nodup
 pre : N.take P.length = P
 par : ∀ x ∈ P,sc.names.lookup x = some .local ∨ sc.names.lookup x = some .cell
 nofree : ∀ y ∈ sc.names,y.2 ≠ .free
theorem zdp {kindOf : Str → Option NameKind} {x : Str} : ∀ {binds : List (Str × Value)} {m : Str → Option Value},(∀ v,(x,v) ∉ binds) → bindL kindOf binds m x = m x
 | [],_,_ => rfl
 | (n,v) :: r,m,h => by
  unfold bindL
  rw [zdp fun w hw => h w (List.mem_cons_of_mem _ hw)]
  split
  ·have : x ≠ n:=by rintro rfl; exact h v List.mem_cons_self
   simp [this]
  ·rfl
theorem zdq {kindOf : Str → Option NameKind} {x : Str} : ∀ {binds : List (Str × Value)} {m : Str → Option Value},(∀ v,(x,v) ∉ binds) → bindC kindOf binds m x = m x
 | [],_,_ => rfl
 | (n,v) :: r,m,h => by
  unfold bindC
  rw [zdq fun w hw => h w (List.mem_cons_of_mem _ hw)]
  split
  ·rfl
  ·have : x ≠ n:=by rintro rfl; exact h v List.mem_cons_self
   simp [this]
theorem zdr {kindOf : Str → Option NameKind} {x : Str} {v : Value} : ∀ {P : List Str} {vs : List Value} {i : Nat} {m : Str → Option Value},P.Nodup → P[i]? = some x → vs[i]? = some v → kindOf x = some .local →
  bindL kindOf (P.zip vs) m x = some v
 | [],_,_,_,_,h,_,_ => by simp at h
 | _ :: _,[],_,_,_,_,h,_ => by simp at h
 | p :: P,w :: vs,0,m,nd,h1,h2,hk => by
  simp at h1 h2; subst h1; subst h2
  show bindL kindOf ((p,w) :: P.zip vs) m p = _
  unfold bindL
  rw [zdp fun v hv => (List.nodup_cons.mp nd).1 (List.of_mem_zip hv).1,if_pos hk]
  simp
 | p :: P,w :: vs,i + 1,m,nd,h1,h2,hk => by
  show bindL kindOf ((p,w) :: P.zip vs) m x = _
  unfold bindL
  exact zdr (i:=i) (List.nodup_cons.mp nd).2 (by simpa using h1) (by simpa using h2) hk
theorem zds {kindOf : Str → Option NameKind} {x : Str} {v : Value} : ∀ {P : List Str} {vs : List Value} {i : Nat} {m : Str → Option Value},P.Nodup → P[i]? = some x → vs[i]? = some v → kindOf x ≠ some .local →
  bindC kindOf (P.zip vs) m x = some v
 | [],_,_,_,_,h,_,_ => by simp at h
 | _ :: _,[],_,_,_,_,h,_ => by simp at h
 | p :: P,w :: vs,0,m,nd,h1,h2,hk => by
  simp at h1 h2; subst h1; subst h2
  show bindC kindOf ((p,w) :: P.zip vs) m p = _
  unfold bindC
  rw [zdq fun v hv => (List.nodup_cons.mp nd).1 (List.of_mem_zip hv).1,if_neg hk]
  simp
 | p :: P,w :: vs,i + 1,m,nd,h1,h2,hk => by
  show bindC kindOf ((p,w) :: P.zip vs) m x = _
  unfold bindC
  exact zds (i:=i) (List.nodup_cons.mp nd).2 (by simpa using h1) (by simpa using h2) hk
def start (N : List Str) (vs : List V) : St:=vs.map some ++ List.replicate (N.length - vs.length) none
def zfH (CX : CXT) (P : Program) (w : World) (K : PySem.W.Frag) (mg : Str → Option Value) (base : Heap) (N : List Str) (qual : Str) (scope : Scope) (f : Addr) (cd : Value) (A : Around) (outer : List Env) (s : Shared) (H : Hp) (E : XK) : Cx where
 prog:=P
 w:=w
 K:=K
 mg:=mg
 base:=base
 A:=A.deeper (envOfC qual scope s.heap.objs.size f cd)
 N:=N
 s₀:=s
 H₀:=H
 env:=envOfC qual scope s.heap.objs.size f cd
 outer:=outer
 stack:=envOfC qual scope s.heap.objs.size f cd :: outer
 ex:=[]
 calm:=true
 fn:=fun _ => true
 pn:=[]
 xe:=fun e s' => wpAny (model P w) (A.deeper (envOfC qual scope s.heap.objs.size f cd)) (leaving (envOfC qual scope s.heap.objs.size f cd) e) (fun _ s'' => CX outer H s E e s'') (fun e' s'' => CX outer H s E e' s'') s'
theorem zd6 {sc : Scope} {n : Nat} {x : Str} (h : sc.names.lookup x = some .cell) : ∃ c,(cellsFrom n sc.names []).lookup x = some c:=by
 have q:=PySem.W.cellsFrom_some sc.names n [] (.inl h)
 exact Option.isSome_iff_exists.mp q
theorem zfI {CX : CXT} {P : Program} {w : World} {K : PySem.W.Frag} {mg : Str → Option Value} {base : Heap} {N ps : List Str} {qual : Str} {scope : Scope} {f : Addr} {cd : Value} {A : Around} {outer : List Env} {s s1 : Shared} {H : Hp} {E : XK} {us : List Value} {vs : List V}
  (S : FnScope N ps scope) (hd : A.handled = none) (e0 : Env0 P w K mg base A outer s H) (hl : vs.length = ps.length) (r : zC vs us)
  (x : InCallC s s.heap.objs.size (bindL (envOfC qual scope s.heap.objs.size f cd).kindOf (ps.zip us) fun _ => none) (cellsFrom (s.heap.objs.size + 1) scope.names []) (bindC (envOfC qual scope s.heap.objs.size f cd).kindOf (ps.zip us) fun _ => none) s1) :
  Inv (zfH CX P w K mg base N qual scope f cd A outer s H E) [] (start N vs) H s1:=by
 have hpl : ps.length ≤ N.length:=by have:=congrArg List.length S.pre; rw [List.length_take] at this; omega
 obtain ⟨h1,tk,rfl,hk⟩:=x.done
 have noA : ∀ b : Addr,b ∉ (zfH CX P w K mg base N qual scope f cd A outer s H E).ex:=fun b z => absurd (show b ∈ ([] : List Addr) from z) (by simp)
 refine ⟨⟨e0.mod,S.kind,rfl,rfl,Nat.le_refl _,fun y z c h1 h2 => ?_,fun y hy => ?_,fun y c _ h => ?_,fun _ => hd,Around.frames_deeper e0.frames,.inr ⟨rfl,rfl⟩,fun b z => absurd z (noA b),e0.bs,e0.bsz,fun b _ _ => noA b,fun b z => absurd z (noA b),e0.funs,e0.frf⟩,
  rfl,e0.bare,Un.kept hk,⟨_,x.toInCall.ns,fun i y v h1 h2 h3 => ?_⟩,fun y c h => ⟨_,x.cell y c h⟩,e0.hok.fresh (Nat.le_refl _),fun y c h => ?_,fun p hp => absurd (show p ∈ ([] : List (Addr × Obj)) from hp) (by simp),e0.hok.kept hk,?_⟩
 ·exact name_of_addr x.apart (PySem.mem_of_lookup h1) (PySem.mem_of_lookup h2)
 ·have hy : scope.names.lookup y = some .cell ∨ scope.names.lookup y = some .free:=hy
  rcases hy with hy | hy
  ·exact zd6 hy
  ·exact absurd rfl (S.nofree _ (PySem.mem_of_lookup hy))
 ·exact Nat.le_of_lt (x.above y c (PySem.mem_of_lookup h))
 ·have hi : i < vs.length:=by
   unfold start at h2
   by_cases hi : i < vs.length
   ·exact hi
   ·rw [List.getElem?_append_right (by simpa using hi)] at h2
    rw [List.getElem?_replicate] at h2
    split at h2 <;> cases h2
  have ha : vs[i]? = some v:=by
   unfold start at h2
   rw [List.getElem?_append_left (by simpa using hi),List.getElem?_map] at h2
   cases e : vs[i]? with
   | none => rw [e] at h2; cases h2
   | some a => rw [e] at h2; cases h2; rfl
  obtain ⟨u,hu,rv⟩:=r.get ha
  have hp : ps[i]? = some y:=by
   rw [← S.pre,List.getElem?_take_of_lt (by omega)]; exact h1
  have ndP : ps.Nodup:=by rw [← S.pre]; exact S.nd.sublist (List.take_sublist _ _)
  refine ⟨u,rv,?_⟩
  rcases S.par y (List.mem_of_getElem? hp) with k | k
  ·exact .inl ⟨k,zdr ndP hp hu k⟩
  ·obtain ⟨c,e⟩:=zd6 (n:=s.heap.objs.size + 1) k
   refine .inr ⟨.inl k,c,e,?_⟩
   have q:=x.cell y c e
   rw [zds ndP hp hu (by show scope.names.lookup y ≠ _; rw [k]; decide)] at q
   exact q
 ·exact e0.hok.fresh (Nat.le_of_lt (x.above y c (PySem.mem_of_lookup h)))
 ·unfold start
  show _ = N.length
  rw [List.length_append,List.length_map,List.length_replicate]
  omega
theorem zji {CX : CXT} {P : Program} {w : World} {K : PySem.W.Frag} {mg : Str → Option Value} {base : Heap} {k : Nat} {f : Addr} {name qual : Str} {params : Arguments} {body : List Stmt} {scope : Scope} {dV kV doc pm cdv ct oc : Value} {an od : Option Addr}
  {osl : Array (Option Value)} {N ps : List Str} {sp : Sp} (lk : K.lookup f = some ⟨oc,od,.func (PySem.W.fnOf name qual params body scope dV kV doc pm an cdv ct),osl⟩) (hcd : PySem.W.codeIn K cdv qual = true) (S : FnScope N ps scope)
  (len : ∀ vs H Q E,sp vs H Q E → vs.length = ps.length)
  (hbody : ∀ (A : Around) (outer : List Env) (s : Shared) (H : Hp) (vs : List V) (Q : VK) (E : XK),Room k (A.deeper (envOfC qual scope s.heap.objs.size f cdv)) → sp vs H Q E →
   ∃ t,PSs (zfH CX P w K mg base N qual scope f cdv A outer s H E) body t ∧ t { nx:=fun _ H' => Q .non H',rt:=Q } (start N vs) H) :
  FnOk P w K mg base CX (k + 1) f (PySem.W.fnOf name qual params body scope dV kV doc pm an cdv ct) ps sp:=by
 refine ⟨len,fun A outer s H args us vs Q E hr e0 hb r hsp => ?_⟩
 have hl:=len _ _ _ _ hsp
 have KX : K.In s.heap:=e0.mod.kin.keeps fun b o e => (e0.bs b o e).1
 have lim : s.heap.NoLimit:=e0.mod.nolimit.keeps fun b o e => (e0.bs b o e).1
 have hkind : ∀ y ∈ ps.zip us,scope.names.lookup y.1 = some .local ∨ (scope.names.lookup y.1 = some .cell ∧ ((cellsFrom (s.heap.objs.size + 1) scope.names []).lookup y.1).isSome = true):=fun ⟨n,v⟩ hy => by
  rcases S.par n (List.of_mem_zip hy).1 with q | q
  ·exact .inl q
  ·exact .inr ⟨q,PySem.W.cellsFrom_some _ _ _ (.inl q)⟩
 refine codeAny_call_function hr.depth (KX _ _ lk) rfl S.co S.gen rfl (PySem.W.codeRec_of KX hcd) (hb _ _ _ _ ?_)
 refine wpAny_newFunctionEnv_cells S.kind hkind fun env he s1 x => ?_
 subst he
 refine ⟨lim.keeps x.toInCall.keep,codeAny_func ?_⟩
 obtain ⟨t,ht,hq⟩:=hbody A outer s H vs Q E (hr.deeper _) hsp
 have I : Inv (zfH CX P w K mg base N qual scope f cdv A outer s H E) [] (start N vs) H s1:=zfI S hr.hd e0 hl r x
 refine wpAny_mono (ht [] s1 (start N vs) H _ I hq) (fun fl s' hs => ?_) fun e s' hs => hs
 have fin : ∀ {σ' : St} {H' : Hp} {v : V} {u : Value},Inv (zfH CX P w K mg base N qual scope f cdv A outer s H E) [] σ' H' s' → RelV v u → Q v H' → CE outer P w H s Q u s' :=
  fun {σ' H' v u} J rv q => ⟨v,H',J.os,J.bare,J.base,J.hok,rv,q⟩
 cases fl with
 | ret u =>
  obtain ⟨v,σ',H',J,rv,q⟩:=hs
  exact fin J rv q
 | next =>
  obtain ⟨σ',H',J,q⟩:=hs
  exact fin (v:=V.non) (u:=Value.none) J rfl q
 | brk =>
  obtain ⟨_,_,_,q⟩:=hs
  exact False.elim q
 | cont =>
  obtain ⟨_,_,_,q⟩:=hs
  exact False.elim q
end L2
namespace L2
open PySem PySem.Spec PyProof.Rows
section
variable {X : Cx} {x : Str} {p pos : Pos} {e : Expr} {es : List Expr} {t : TA} {id T : String} {r : List V → Hp → VK → Prop}
def tCB (r : List V → Hp → VK → Prop) (t : TA) : TE:=fun σ H Q => t σ H fun vs H1 => r vs H1 Q
theorem zz (hc : zbs X (.builtin id) r) (hg : Gl X x) (hm : X.mg x = none) (hv : bootBuiltins x = some (.builtin id)) (ha : PA X (e :: es) t) (hn : x ≠ "__name__":=by decide) (hdb : (x == ("__debug__" : Str)) = false:=by decide)
  (he : starEach (e :: es) X.env = (false,eval e X.env) :: starEach es X.env:=by rfl) (hpl : (backTo pos (starEach es X.env)).any (·.1) = false:=by rfl) : PE X (.Call (.Name x p) (e :: es) [] pos) (tCB r t):=by
 intro pins s σ H Q I h
 refine wpAny_Call_Name_kw (zbd I hg hm hv ?_ hn hdb)
 exact PyProof.Rows.callWith_builtin1 (thn (ha pos pins s σ H _ I h) fun us s1 ⟨vs,H1,I1,r1,q1⟩ => hc pins s1 σ H1 vs us Q I1 r1 q1) he hpl
theorem zaD (hc : zbs X (.type T) r) (hg : Gl X x) (hm : X.mg x = none) (hv : bootBuiltins x = some (.type T)) (ha : PA X (e :: es) t) (hn : x ≠ "__name__":=by decide) (hdb : (x == ("__debug__" : Str)) = false:=by decide)
  (he : starEach (e :: es) X.env = (false,eval e X.env) :: starEach es X.env:=by rfl) (hpl : (backTo pos (starEach es X.env)).any (·.1) = false:=by rfl) : PE X (.Call (.Name x p) (e :: es) [] pos) (tCB r t):=by
 intro pins s σ H Q I h
 refine wpAny_Call_Name_kw (zbd I hg hm hv ?_ hn hdb)
 exact PyProof.Rows.callWith_type1 (thn (ha pos pins s σ H _ I h) fun us s1 ⟨vs,H1,I1,r1,q1⟩ => hc pins s1 σ H1 vs us Q I1 r1 q1) he hpl
end
end L2
namespace HT
open PySem PyProof.Rows
section
open PySem.SeqAt
open PySem.AutoSeq1 (wpAny_loadPart')
open PySem.MeetsSeq PySem.MeetsSeq2 PySem.MeetsSeq3
end
section
variable {prog : Program} {w : World} {A : Around} {E : Value → Shared → Prop} {s : Shared}
theorem cat_tup {t b : Addr} {vs ws : List Value} {Q : Value → Shared → Prop} (ht : IsTup s.heap t vs.toArray) (hb : IsTup s.heap b ws.toArray) (hv : vs ≠ [])
  (h1 : ws = [] → Q (.ref t) s) (h2 : ws ≠ [] → Q (.ref s.heap.objs.size) { s with heap:=s.heap.push { cls:=.type "tuple",data:=.seq (vs ++ ws).toArray } })
  (hsz : vs.length + ws.length ≤ sizeLine) : wpAny (model prog w) A (binaryOp .Add (.ref t) (.ref b)) Q E s:=by
 obtain ⟨⟨cls,dd,data,sl⟩,ho,hc,n,hd⟩:=id ht
 obtain ⟨⟨cls2,dd2,data2,sl2⟩,ho2,hc2,n2,hd2⟩:=id hb
 simp only at hc hd hc2 hd2
 subst hc hd hc2 hd2
 have e : vs.toArray ++ ws.toArray = (vs ++ ws).toArray:=by simp
 by_cases hw : ws = []
 ·exact concat_meets ⟨_,ho,rfl⟩ ⟨_,ho2,rfl⟩ noFill_tuple_add seq_tuple_add PySem.F.slot_tuple_add PySem.F.entry_tuple_add (PySem.F.args_tuple_add_2 _ _)
   (tuple_addW1 t b vs.toArray ws.toArray n n2 dd dd2 sl sl2 (by simpa using hv) (by simp [hw])) ⟨ho,ho2,h1 hw⟩
 ·refine concat_meets ⟨_,ho,rfl⟩ ⟨_,ho2,rfl⟩ noFill_tuple_add seq_tuple_add PySem.F.slot_tuple_add PySem.F.entry_tuple_add (PySem.F.args_tuple_add_2 _ _)
   (tuple_addW2 t b vs.toArray ws.toArray n n2 dd dd2 sl sl2 (by simpa using hv) (by simpa using hw) (by rw [List.size_toArray,List.size_toArray]; exact hsz)) ⟨ho,ho2,?_⟩
  rw [e]
  exact h2 hw
def sIx (n d : Nat) : Option Int → Nat
 | none => d
 | some v => if v < 0 then (v + (n : Int)).toNat else min v.toNat n
theorem sIx_none (n d : Nat) : sIx n d none = d:=rfl
theorem sIx_nat (n d k : Nat) : sIx n d (some (k : Int)) = min k n:=by
 show (if (k : Int) < 0 then ((k : Int) + (n : Int)).toNat else min (k : Int).toNat n) = min k n
 rw [if_neg (by omega),Int.toNat_natCast]
theorem ziu (n d : Nat) (hd : d ≤ n) (o : Option Int) : sIx n d o ≤ n:=by
 cases o with
 | none => exact hd
 | some v =>
  show (if v < 0 then (v + (n : Int)).toNat else min v.toNat n) ≤ n
  by_cases hv : v < 0
  ·rw [if_pos hv]; omega
  ·rw [if_neg hv]; exact Nat.min_le_right _ _
theorem zfd (v : Int) (n d : Nat) : (if v < 0 then max (v + (n : Int)) 0 else min v (n : Int)) = ((sIx n d (some v) : Nat) : Int):=by
 show (if v < 0 then max (v + (n : Int)) 0 else min v (n : Int)) = (((if v < 0 then (v + (n : Int)).toNat else min v.toNat n) : Nat) : Int)
 by_cases hv : v < 0
 ·simp only [if_pos hv]; omega
 ·simp only [if_neg hv]; omega
theorem zeL (lo hi : Option Int) (n : Nat) : Builtin.Slice.sliceAdjust lo hi 1 (n : Int) = (((sIx n 0 lo : Nat) : Int),((sIx n n hi : Nat) : Int)):=by
 have h1 : ¬ ((1 : Int) < 0):=by omega
 unfold Builtin.Slice.sliceAdjust
 simp only [h1,if_false]
 refine Prod.ext ?_ ?_
 ·cases lo with
  | none => rfl
  | some v => exact zfd v n 0
 ·cases hi with
  | none => rfl
  | some v => exact zfd v n n
theorem zeM (i j : Nat) : Builtin.Slice.slicePlaces (i : Int) (j : Int) 1 = j - i:=by
 unfold Builtin.Slice.slicePlaces
 have h1 : (1 : Int) > 0:=by omega
 simp only [h1,if_true,Int.ediv_one]
 split <;> omega
theorem zcL {v : Value} {o : Option Int} {Q : Option Int → Shared → Prop} (p : IsPart v o) (h : Q o s) : wpAny (model prog w) A (Builtin.Slice.slicePartIndex v) Q E s:=by
 cases p with
 | none => exact slicePart_none h
 | int i t => exact slicePart_int h
theorem za9 {sl : Addr} {vl vu : Value} {lo hi : Option Int} {n : Nat} {Q : Int × Int × Nat → Shared → Prop} (hs : s.heap.IsSliceOf sl vl vu .none) (pl : IsPart vl lo) (pu : IsPart vu hi)
  (h : Q (((sIx n 0 lo : Nat) : Int),1,sIx n n hi - sIx n 0 lo) s) : wpAny (model prog w) A (Builtin.Slice.sliceApplied (.ref sl) (pure (n : Int))) Q E s:=by
 obtain ⟨os,hos,hcs,hds⟩:=id hs
 unfold Builtin.Slice.sliceApplied Builtin.Slice.sliceFields
 refine wpAny_bind (wpAny_bind (wpAny_field hos hds (x:=vl) rfl (wpAny_bind (wpAny_field hos hds (x:=vu) rfl (wpAny_bind (wpAny_field hos hds (x:=.none) rfl (wpAny_pure ?_)))))))
 refine wpAny_bind (slicePart_none ?_)
 show wpAny _ _ (if ((1 : Int) == 0) = true then _ else _) _ _ s
 rw [if_neg (by decide)]
 refine wpAny_bind (zcL pl (wpAny_bind (zcL pu (wpAny_bind (wpAny_pure ?_)))))
 show wpAny _ _ (match Builtin.Slice.sliceAdjust lo hi 1 (n : Int) with | (lo,hi) => pure (lo,(1 : Int),Builtin.Slice.slicePlaces lo hi 1)) _ _ s
 rw [zeL lo hi n]
 show wpAny _ _ (pure (((sIx n 0 lo : Nat) : Int),(1 : Int),Builtin.Slice.slicePlaces ((sIx n 0 lo : Nat) : Int) ((sIx n n hi : Nat) : Int) 1)) _ _ s
 rw [zeM]
 exact wpAny_pure h
theorem zgl (xs : Array Value) (i k : Nat) : ((List.range k).filterMap fun (m : Nat) => xs[((i : Int) + (m : Int) * 1).toNat]?).toArray = ((xs.toList.drop i).take k).toArray:=by
 have e : (fun (m : Nat) => xs[((i : Int) + (m : Int) * 1).toNat]?) = fun m => xs[i + m]?:=by
  funext m
  have : ((i : Int) + (m : Int) * 1).toNat = i + m:=by omega
  rw [this]
 rw [e]
 have:=pick_run xs i k
 rw [List.filterMap_map] at this
 have e2 : ((fun x => xs[x]?) ∘ fun x => i + x) = fun m => xs[i + m]?:=rfl
 rw [e2] at this
 rw [this]
theorem getItem_tuple_cut {t sl : Addr} {items : Array Value} {vl vu : Value} {lo hi : Option Int} {Q : Value → Shared → Prop} (ht : IsTup s.heap t items) (hs : s.heap.IsSliceOf sl vl vu .none) (pl : IsPart vl lo) (pu : IsPart vu hi)
  (hw : ¬ (sIx items.size 0 lo = 0 ∧ sIx items.size items.size hi = items.size))
  (h : Q (.ref s.heap.objs.size) { s with heap:=s.heap.push { cls:=.type "tuple",data:=.seq ((items.toList.drop (sIx items.size 0 lo)).take (sIx items.size items.size hi - sIx items.size 0 lo)).toArray } })
  (hsz : items.size ≤ sizeLine) : wpAny (model prog w) A (getItem (.ref t) (.ref sl)) Q E s:=by
 have htake : sizeOk (.seq ((items.toList.drop (sIx items.size 0 lo)).take (sIx items.size items.size hi - sIx items.size 0 lo)).toArray):=by
  show ((items.toList.drop (sIx items.size 0 lo)).take (sIx items.size items.size hi - sIx items.size 0 lo)).toArray.size ≤ sizeLine
  rw [List.size_toArray,List.length_take,List.length_drop,Array.length_toList]
  omega
 have hj : sIx items.size items.size hi ≤ items.size:=ziu _ _ (Nat.le_refl _) hi
 obtain ⟨os,hos,hcs,hds⟩:=id hs
 have hTs : s.TypeIs (.ref sl) "slice":=⟨os,hos,hcs⟩
 unfold getItem
 try with_reducible refine wpAny_holding ?_
 first | refine wpAny_bind (wpAny_pure ?_) | skip
 refine wpAny_bind (wpAny_sequenceKey ht.typeIs (by decide) ?_)
 refine wpAny_bind (wpAny_callSpecial?_slot (name:=Str.ofString "__getitem__") ht.typeIs PyProof.Rows.slot_tuple_getitem
  (wpAny_call_entry PyProof.Rows.slot_tuple_getitem ht.typeIs entry_tuple_getitem ?_ (args_tuple_getitem _ _)))
 show wpAny _ _ (Builtin.Tuple.tupleItemsOf (.ref t) >>= _) _ _ s
 refine wpAny_bind (tupleItemsOf_ ht ?_)
 refine wpAny_bind (wpAny_typeOf hTs ?_)
 rw [if_pos (by decide)]
 refine wpAny_bind (za9 hs pl pu ?_)
 have hno : ¬ ((((sIx items.size 0 lo : Nat) : Int) == 0 && (1 : Int) == 1 && (sIx items.size items.size hi - sIx items.size 0 lo) == items.size) = true):=by
  intro q
  rw [Bool.and_eq_true,Bool.and_eq_true] at q
  have q1 : ((sIx items.size 0 lo : Nat) : Int) = 0:=eq_of_beq q.1.1
  have q2 : sIx items.size items.size hi - sIx items.size 0 lo = items.size:=eq_of_beq q.2
  exact hw ⟨by omega,by omega⟩
 show wpAny _ _ (if (((sIx items.size 0 lo : Nat) : Int) == 0 && (1 : Int) == 1 && (sIx items.size items.size hi - sIx items.size 0 lo) == items.size) = true then _ else _) _ _ s
 rw [if_neg hno,zgl]
 first
  | exact wpAny_bind (m:=Builtin.Tuple.tupleExact _) (wpAny_newObj_type (wpAny_pure ⟨_,rfl,wpAny_pure h⟩) htake)
  | exact wpAny_bind (m:=Builtin.Tuple.tupleExact _) (wpAny_newObj_type (wpAny_bind (wpAny_pure (wpAny_pure ⟨_,rfl,wpAny_pure h⟩))) htake)
  | exact wpAny_bind (wpAny_bind (m:=Builtin.Tuple.tupleExact _) (wpAny_newObj_type (wpAny_pure (wpAny_pure ⟨_,rfl,wpAny_pure h⟩)) htake))
  | exact wpAny_bind (wpAny_bind (m:=Builtin.Tuple.tupleExact _) (wpAny_newObj_type (wpAny_pure ⟨_,rfl,wpAny_pure h⟩) htake))
end
end HT
namespace L2
open PySem PySem.Spec PyProof.Rows
abbrev TO:=St → Hp → (Option Int → Hp → Prop) → Prop
def PO (X : Cx) (e : Option Expr) (t : TO) : Prop :=
 ∀ (pins : List (Addr × Obj)) (s : Shared) (σ : St) (H : Hp) (Q : Option Int → Hp → Prop),Inv X pins σ H s → t σ H Q →
  wpAny (model X.prog X.w) X.A (evalPart e X.env) (fun u s' => ∃ o H',Inv X pins σ H' s' ∧ IsPart u o ∧ Q o H') X.xe s
def zhp : TO:=fun _ H Q => Q none H
def zjj (t : TE) : TO:=fun σ H Q => t σ H fun x H1 => ∃ i,x = .int i ∧ Q (some i) H1
theorem intsAre_of {ns : List Int} : ∀ {us : List Value},zC (ns.map V.int) us → IntsAre us ns:=by
 induction ns with
 | nil => intro us r; rw [List.map_nil] at r; cases r; exact .nil
 | cons n ns ih =>
  intro us r
  rw [List.map_cons] at r
  cases r with
  | cons r1 r2 =>
   obtain ⟨t,e⟩:=r1
   subst e
   exact .cons n t (ih r2)
section
variable {X : Cx} {e : Expr} {te : TE} {lo hi : Option Expr} {tl th : TO} {pos p2 : Pos}
theorem zbg : PO X none zhp:=by
 intro pins s σ H Q I h
 rw [evalPart_none]
 exact wpAny_pure ⟨none,H,I,.none,h⟩
theorem zaS (h : PE X e te) : PO X (some e) (zjj te):=by
 intro pins s σ H Q I hw
 rw [evalPart_some]
 refine thn (h pins s σ H _ I hw) fun u s1 ⟨x,H1,I1,r1,q1⟩ => ?_
 obtain ⟨i,rfl,q⟩:=q1
 obtain ⟨t,rfl⟩:=r1
 exact ⟨some i,H1,I1,.int i t,q⟩
def SlR (X : Cx) (r : V → Option Int → Option Int → Hp → VK → Prop) : Prop :=
 ∀ (pins : List (Addr × Obj)) (s : Shared) (σ : St) (H : Hp) (x : V) (v vl vu : Value) (lo hi : Option Int) (sl : Addr) (Q : VK),Inv X pins σ H s → RelV x v → s.heap.IsSliceOf sl vl vu .none → IsPart vl lo → IsPart vu hi → r x lo hi H Q →
  ∃ T id,typeLookup (.type T) "__getitem__" = pure (some (.builtin id)) ∧ s.TypeIs v T ∧ wpAny (model X.prog X.w) X.A (getItem v (.ref sl)) (EP X pins σ Q) X.xe s
def tSl (r : V → Option Int → Option Int → Hp → VK → Prop) (te : TE) (tl th : TO) : TE:=fun σ H Q => te σ H fun x H1 => tl σ H1 fun l H2 => th σ H2 fun u H3 => r x l u H3 Q
theorem zaN {r : V → Option Int → Option Int → Hp → VK → Prop} (hr : SlR X r) (he : PE X e te) (hl : PO X lo tl) (hu : PO X hi th) : PE X (.Subscript e (.Slice lo hi none p2) pos) (tSl r te tl th):=by
 intro pins s σ H Q I h
 refine Subscript_ (thn (he pins s σ H _ I h) fun v s1 ⟨x,H1,I1,r1,q1⟩ => ?_)
 refine wpAny_Slice (thn (hl pins s1 σ H1 _ I1 q1) fun vl s2 ⟨l,H2,I2,pl,q2⟩ => thn (hu pins s2 σ H2 _ I2 q2) fun vu s3 ⟨u,H3,I3,pu,q3⟩ => ?_)
 rw [evalPart_none]
 refine wpAny_pure ?_
 have I4 : Inv X pins σ H3 { s3 with heap:=s3.heap.push { cls:=.type "slice",data:=.fields #[vl,vu,.none] } }:=I3.kept (t':=s3.toks) fun b ob q => Heap.get?_push_of_some _ q
 obtain ⟨T,id,hT,ht,hg⟩:=hr pins { s3 with heap:=s3.heap.push { cls:=.type "slice",data:=.fields #[vl,vu,.none] } } σ H3 x v vl vu l u s3.heap.objs.size Q I4 r1 (Heap.IsSliceOf.new ..) pl pu q3
 show wpAny (model X.prog X.w) X.A (subscriptTail e (.Slice lo hi none p2) v (.ref s3.heap.objs.size)) (EP X pins σ Q) X.xe { s3 with heap:=s3.heap.push { cls:=.type "slice",data:=.fields #[vl,vu,.none] } }
 exact tail_any (ops:=[.ref s3.heap.objs.size,v]) ht hT hg (by with_unfolding_all rfl)
def zaE (xs : List V) (lo hi : Option Int) : List V:=(xs.drop (HT.sIx xs.length 0 lo)).take (HT.sIx xs.length xs.length hi - HT.sIx xs.length 0 lo)
theorem zcj (xs : List V) (lo hi : Option Int) : (zaE xs lo hi).length ≤ xs.length:=by
 unfold zaE
 rw [List.length_take,List.length_drop]
 omega
def zjP (K : PySem.W.Frag) : V → Option Int → Option Int → Hp → VK → Prop:=fun x lo hi H Q => ∃ a xs,x = .ref a ∧ SqT K H a xs ∧
 ¬ (HT.sIx xs.length 0 lo = 0 ∧ HT.sIx xs.length xs.length hi = xs.length) ∧ ∀ p,H p = none → Q (.ref p) (upd H p (.tup (zaE xs lo hi)))
theorem zgm : SlR X (zjP X.K):=by
 intro pins s σ H x v vl vu lo hi sl Q I rx hs pl pu h
 obtain ⟨a,xs,rfl,hx,hw,q⟩:=h
 cases rx
 obtain ⟨its,r,ht,hz⟩:=I.tuple hx
 have hlen : its.toArray.size = xs.length:=by rw [List.size_toArray]; exact r.length.symm
 refine ⟨"tuple",_,PyProof.Rows.slot_tuple_getitem.lookup,ht.typeIs,?_⟩
 refine HT.getItem_tuple_cut ht hs pl pu (by rw [hlen]; exact hw) ?_ (by rw [hlen]; exact hz)
 rw [hlen]
 refine ⟨.ref s.heap.objs.size,_,I.laid (t':=s.toks) (o:=.tup (zaE xs lo hi)) (fun b ob q => Heap.get?_push_of_some _ q) (Nat.le_refl _) ?_,rfl,q _ (I.hok.fresh (Nat.le_refl _))⟩
 exact ⟨Nat.le_trans (zcj xs lo hi) hz,_,(r.drop (HT.sIx xs.length 0 lo)).take (HT.sIx xs.length xs.length hi - HT.sIx xs.length 0 lo),IsTup.new _ _⟩
def zjk (K : PySem.W.Frag) : R2:=fun x y H Q => ∃ a b xs ys,x = .ref a ∧ y = .ref b ∧ SqT K H a xs ∧ SqT K H b ys ∧ xs ≠ [] ∧ xs.length + ys.length ≤ sizeLine ∧
 (ys = [] → Q (.ref a) H) ∧ (ys ≠ [] → ∀ p,H p = none → Q (.ref p) (upd H p (.tup (xs ++ ys))))
theorem zC.nil_iff {xs : List V} {us : List Value} (r : zC xs us) : us = [] ↔ xs = []:=by
 cases r with
 | nil => simp
 | cons _ _ => simp
theorem zhq : OpR X (binaryOp .Add) (zjk X.K):=by
 intro pins s σ H x y v u Q I rx ry h
 obtain ⟨a,b,xs,ys,rfl,rfl,ha,hb,hx,hz,q1,q2⟩:=h
 cases rx
 cases ry
 obtain ⟨its,r1,p1,_⟩:=I.tuple ha
 obtain ⟨its2,r2,p2,_⟩:=I.tuple hb
 refine HT.cat_tup p1 p2 (fun z => hx (r1.nil_iff.mp z)) (fun z => ⟨.ref a,H,I,rfl,q1 (r2.nil_iff.mp z)⟩) (fun z => ?_) (by rw [← r1.length,← r2.length]; exact hz)
 refine ⟨.ref s.heap.objs.size,_,I.laid (t':=s.toks) (o:=.tup (xs ++ ys)) (fun b ob q => Heap.get?_push_of_some _ q) (Nat.le_refl _) ?_,rfl,q2 (fun w => z (r2.nil_iff.mpr w)) _ (I.hok.fresh (Nat.le_refl _))⟩
 exact ⟨by rw [List.length_append]; exact hz,_,r1.append r2,IsTup.new _ _⟩
end
end L2
namespace L2
open PySem PySem.Spec PyProof.Rows
def ixN (n : Nat) (i : Int) : Option Nat:=if 0 ≤ i then (if i < n then some i.toNat else none) else if -(n : Int) ≤ i then some (i + n).toNat else none
def atI {α : Type} (xs : List α) (i : Int) : Option α:=(ixN xs.length i).bind fun j => xs[j]?
theorem zfe {n : Nat} {i : Int} {j : Nat} (h : ixN n i = some j) : seqIndex? i n = some j ∧ j < n ∧ -(n : Int) ≤ i ∧ i < n:=by
 unfold ixN at h
 by_cases h0 : 0 ≤ i
 ·rw [if_pos h0] at h
  by_cases h1 : i < n
  ·rw [if_pos h1] at h
   have e : i.toNat = j:=Option.some.inj h
   exact ⟨by rw [seqIndex_of h0 h1,e],by omega,by omega,h1⟩
  ·rw [if_neg h1] at h; cases h
 ·rw [if_neg h0] at h
  by_cases h1 : -(n : Int) ≤ i
  ·rw [if_pos h1] at h
   have e : (i + n).toNat = j:=Option.some.inj h
   exact ⟨by rw [seqIndex_neg (by omega) h1,e],by omega,h1,by omega⟩
  ·rw [if_neg h1] at h; cases h
theorem zff {α : Type} {xs : List α} {i : Int} {v : α} (h : atI xs i = some v) : ∃ j,seqIndex? i xs.length = some j ∧ xs[j]? = some v ∧ j < xs.length ∧ -(xs.length : Int) ≤ i ∧ i < xs.length:=by
 unfold atI at h
 cases e : ixN xs.length i with
 | none => rw [e] at h; cases h
 | some j =>
  rw [e] at h
  obtain ⟨h1,h2,h3,h4⟩:=zfe e
  exact ⟨j,h1,h,h2,h3,h4⟩
theorem zS {α : Type} {xs : List α} {j : Nat} {v : α} (h : xs[j]? = some v) : atI xs (j : Int) = some v:=by
 have hj : j < xs.length:=(List.getElem?_eq_some_iff.mp h).1
 have e : ixN xs.length (j : Int) = some j:=by
  unfold ixN
  rw [if_pos (by omega),if_pos (by omega)]; simp
 unfold atI; rw [e]; exact h
def zhr (b : Expr) : Prop:=∀ o i,subscripted b false o i = operate [o,i] (getItem o i)
def IxR (X : Cx) (r : R2) : Prop :=
 ∀ (value slice : Expr) (pins : List (Addr × Obj)) (s : Shared) (σ : St) (H : Hp) (x y : V) (v u : Value) (Q : VK),Inv X pins σ H s → RelV x v → RelV y u → r x y H Q →
  subscripted slice false v u = operate [v,u] (getItem v u) → wpAny (model X.prog X.w) X.A (subscriptTail value slice v u) (EP X pins σ Q) X.xe s
def MtR (X : Cx) (id : String) (r : V → List V → Hp → VK → Prop) : Prop :=
 ∀ (pins : List (Addr × Obj)) (s : Shared) (σ : St) (H : Hp) (x : V) (xs : List V) (v : Value) (us : List Value) (Q : VK),Inv X pins σ H s → RelV x v → zC xs us → r x xs H Q →
  wpAny (model X.prog X.w) X.A (call (.builtin id) (v :: us)) (EP X pins σ Q) X.xe s
section
variable {X : Cx} {a b : Expr} {ta tb : TE} {pos : Pos}
theorem zA {r : R2} (hr : IxR X r) (ha : PE X a ta) (hb : PE X b tb) (hs : zhr b) : PE X (.Subscript a b pos) (tOp r ta tb):=by
 intro pins s σ H Q I h
 exact Subscript_ (zil ha hb I h fun v u s2 x y H2 I2 rx ry q => hr a b pins s2 σ H2 x y v u Q I2 rx ry q (hs _ _))
def zjl (K : PySem.W.Frag) : R2:=fun x y H Q => ∃ p xs i v,x = .ref p ∧ y = .int i ∧ SqL K H p xs ∧ atI xs i = some v ∧ Q v H
def zjQ (K : PySem.W.Frag) : R2:=fun x y H Q => ∃ p xs i v,x = .ref p ∧ y = .int i ∧ SqT K H p xs ∧ atI xs i = some v ∧ Q v H
theorem zq : IxR X (zjl X.K):=by
 intro value slice pins s σ H x y v u Q I rx ry h hs
 obtain ⟨p,xs,i,z,rfl,rfl,hq,he,q⟩:=h
 cases rx
 obtain ⟨t,rfl⟩:=ry
 obtain ⟨its,r,pl,hz⟩:=I.list hq
 obtain ⟨j,h1,h2,h3,h4,h5⟩:=zff he
 obtain ⟨w,ew,rw'⟩:=r.get h2
 have hl:=r.length
 have hn:=zcK
 have fin : EP X pins σ Q w s:=⟨z,H,I,rw',q⟩
 by_cases h0 : 0 ≤ i
 ·have hj : i.toNat = j:=by
   rw [seqIndex_of h0 h5] at h1
   exact Option.some.inj h1
  exact item_listR pl.isList h0 (by omega) (by rw [hj]; simpa using ew) fin hs
 ·have hj : (i + (its.toArray.size : Int)).toNat = j:=by
   rw [seqIndex_neg (by omega) h4] at h1
   rw [List.size_toArray,← hl]
   exact Option.some.inj h1
  exact subscriptTail_builtinR (x:=w) pl.isList.typeIs slot_list_getitem.lookup
   (wpAny_getItem_list_neg (Q:=fun r s' => r = w ∧ EP X pins σ Q r s') pl.isList (by omega) (by rw [List.size_toArray] <;> omega) (by omega) (by rw [hj]; simpa using ew) ⟨rfl,fin⟩) hs
theorem zbh : IxR X (zjQ X.K):=by
 intro value slice pins s σ H x y v u Q I rx ry h hs
 obtain ⟨p,xs,i,z,rfl,rfl,hq,he,q⟩:=h
 cases rx
 obtain ⟨t,rfl⟩:=ry
 obtain ⟨its,r,pl,hz⟩:=I.tuple hq
 obtain ⟨j,h1,h2,h3,h4,h5⟩:=zff he
 obtain ⟨w,ew,rw'⟩:=r.get h2
 have hl:=r.length
 have hn:=zcK
 have fin : EP X pins σ Q w s:=⟨z,H,I,rw',q⟩
 exact subscriptTail_builtinR (x:=w) pl.typeIs slot_tuple_getitem.lookup
  (getItem_tuple (j:=j) (Q:=fun r s' => r = w ∧ EP X pins σ Q r s') pl (by omega) (by omega) (by rw [List.size_toArray,← hl]; exact h1) (by simpa using ew) ⟨rfl,fin⟩) hs
theorem zeN (its : List Value) (n j : Nat) (u : Value) : Obj.mapSeq (·.setIfInBounds j u) { cls:=.type "list",data:=.seq its.toArray n } = { cls:=.type "list",data:=.seq (its.set j u).toArray n }:=by
 simp [Obj.mapSeq]
theorem Inv.lst {pins : List (Addr × Obj)} {σ : St} {H : Hp} {s : Shared} {p : Addr} {xs : List V} (I : Inv X pins σ H s) (h : H p = some (.lst xs)) :
  ∃ (its : List Value) (n : Nat),zC xs its ∧ s.heap.get? p = some { cls:=.type "list",data:=.seq its.toArray n } ∧ xs.length ≤ sizeLine:=by
 obtain ⟨z,its,n,r,e⟩:=I.hok p _ h
 exact ⟨its,n,r,e,z⟩
theorem Inv.lstUpd {pins : List (Addr × Obj)} {σ : St} {H : Hp} {s : Shared} {p : Addr} {xs ys : List V} {its its' : List Value} {n n' : Nat} {f : Obj → Obj} (I : Inv X pins σ H s) (h : H p = some (.lst xs))
  (ho : s.heap.get? p = some { cls:=.type "list",data:=.seq its.toArray n }) (hf : f { cls:=.type "list",data:=.seq its.toArray n } = { cls:=.type "list",data:=.seq its'.toArray n' }) (r : zC ys its') (hz : ys.length ≤ sizeLine) (t : Nat) :
  Inv X pins σ (upd H p (.lst ys)) { s with heap:=s.heap.update p f,toks:=t }:=by
 have e : (s.heap.update p f).get? p = some { cls:=.type "list",data:=.seq its'.toArray n' }:=by
  rw [Heap.get?_update_self f ho (by rw [hf] <;> rfl),hf]
 refine I.write (x:=p) (e:=p) (by rw [h]; trivial) (.inl rfl) (fun b u hb q => (Heap.get?_update_other _ _ (Ne.symm hb)).trans q) ⟨_,e⟩ ?_
 exact ⟨hz,its',n',r,e⟩
def zjm : V → V → V → Hp → (Hp → Prop) → Prop:=fun o i v H Q => ∃ p xs k j,o = .ref p ∧ i = .int k ∧ H p = some (.lst xs) ∧ ixN xs.length k = some j ∧ Q (upd H p (.lst (xs.set j v)))
theorem set_list : zi7 X zjm:=by
 intro pins s σ H o i v ov iv u Q I ro ri rv h
 obtain ⟨p,xs,k,j,rfl,rfl,hp,hj,q⟩:=h
 cases ro
 obtain ⟨t,rfl⟩:=ri
 obtain ⟨its,n,r,ho,hz⟩:=I.lst hp
 obtain ⟨h1,h2,h3,h4⟩:=zfe hj
 have hl:=r.length
 have hn:=zcK
 have I' : Inv X pins σ (upd H p (.lst (xs.set j v))) { s with heap:=s.heap.update p (Obj.mapSeq (·.setIfInBounds j u)) } :=
  I.lstUpd hp ho (zeN its n j u) (r.set rv j) (by rw [List.length_set]; exact hz) s.toks
 by_cases h0 : 0 ≤ k
 ·have hk : k.toNat = j:=by
   rw [seqIndex_of h0 h4] at h1
   exact Option.some.inj h1
  exact PySem.W.ki_setAt ho h0 (by omega) (by rw [List.size_toArray,← hl]; exact h4) (by rw [hk]; exact ⟨_,I',q⟩)
 ·have hk : (k + (its.toArray.size : Int)).toNat = j:=by
   rw [seqIndex_neg (by omega) h3] at h1
   rw [List.size_toArray,← hl]
   exact Option.some.inj h1
  exact PySem.W.ki_setBack ho (by omega) (by rw [List.size_toArray,← hl]; exact h3) (by omega) (by rw [hk]; exact ⟨_,I',q⟩)
theorem zdJ (lo hi : Option Int) (n : Nat) : (sliceBounds lo hi none n).1 = ((HT.sIx n 0 lo : Nat) : Int) ∧ (sliceBounds lo hi none n).2.1 = ((HT.sIx n n hi : Nat) : Int) ∧ (sliceBounds lo hi none n).2.2 = 1:=by
 refine ⟨?_,?_,rfl⟩
 ·cases lo with
  | none => simp [sliceBounds,HT.sIx]
  | some i =>
   simp only [sliceBounds,HT.sIx,Option.getD_none,show (1 : Int) > 0 by decide,if_true]
   by_cases h : i < 0
   ·simp only [h,if_true] <;> omega
   ·simp only [h,if_false] <;> omega
 ·cases hi with
  | none => simp [sliceBounds,HT.sIx]
  | some i =>
   simp only [sliceBounds,HT.sIx,Option.getD_none,show (1 : Int) > 0 by decide,if_true]
   by_cases h : i < 0
   ·simp only [h,if_true] <;> omega
   ·simp only [h,if_false] <;> omega
theorem zc8 (its : List Value) (lo hi : Option Int) : slicePick its.toArray lo hi none = ((its.drop (HT.sIx its.length 0 lo)).take (HT.sIx its.length its.length hi - HT.sIx its.length 0 lo)).toArray:=by
 obtain ⟨h1,h2,h3⟩:=zdJ lo hi its.toArray.size
 unfold slicePick
 rw [h1,h2,h3]
 simp only [sliceRange_one,pick_run,List.size_toArray] <;> rfl
def zjn (K : PySem.W.Frag) : V → Option Int → Option Int → Hp → VK → Prop:=fun x lo hi H Q => ∃ a xs,x = .ref a ∧ SqL K H a xs ∧ ∀ p,H p = none → Q (.ref p) (upd H p (.lst (zaE xs lo hi)))
theorem zb0 : SlR X (zjn X.K):=by
 intro pins s σ H x v vl vu lo hi sl Q I rx hs pl pu h
 obtain ⟨a,xs,rfl,hx,q⟩:=h
 cases rx
 obtain ⟨its,r,ht,hz⟩:=I.list hx
 have hlen:=r.length
 refine ⟨"list",_,slot_list_getitem.lookup,ht.isList.typeIs,?_⟩
 refine wpAny_getItem_list_slice ht.isList hs pl pu .none (by simp) ?_ (by rw [List.size_toArray] <;> omega)
 rw [zc8,← hlen]
 refine ⟨.ref s.heap.objs.size,_,I.laid (t':=s.toks) (o:=.lst (zaE xs lo hi)) (fun b ob q => Heap.get?_push_of_some _ q) (Nat.le_refl _) ?_,rfl,q _ (I.hok.fresh (Nat.le_refl _))⟩
 exact ⟨Nat.le_trans (zcj xs lo hi) hz,_,0,(r.drop (HT.sIx xs.length 0 lo)).take (HT.sIx xs.length xs.length hi - HT.sIx xs.length 0 lo),Heap.get?_push_size _ rfl⟩
def zbt : V → Bool
 | .non => true
 | .bl _ => true
 | .int _ => true
 | .str _ => true
 | _ => false
def eqV : V → V → Bool
 | .non,.non => true
 | .bl a,.bl b => a == b
 | .bl a,.int b => (if a then 1 else 0) == b
 | .int a,.bl b => a == (if b then 1 else 0)
 | .int a,.int b => a == b
 | .str a,.str b => a == b
 | _,_ => false
theorem zgn {A : Around} {s : Shared} {y x : V} {u v : Value} (ry : RelV y u) (rx : RelV x v) (fy : zbt y = true) (fx : zbt x = true) : SeqAt.EqAt A s u v (eqV y x):=by
 cases y with
 | non =>
  cases ry
  cases x with
  | non => cases rx; exact SeqAt.EqAt.same _
  | bl b => cases rx; exact SeqAt.EqAt.none_bool b
  | int b => obtain ⟨t,rfl⟩:=rx; exact SeqAt.EqAt.none_int b t
  | str b => obtain ⟨t,rfl⟩:=rx; exact SeqAt.EqAt.none_str b t
  | _ => exact absurd (show false = true from fx) Bool.false_ne_true
 | bl a =>
  cases ry
  cases x with
  | non => cases rx; exact SeqAt.EqAt.bool_none a
  | bl b => cases rx; exact SeqAt.EqAt.bool_bool a b
  | int b => obtain ⟨t,rfl⟩:=rx; exact SeqAt.EqAt.bool_int a b t
  | str b => obtain ⟨t,rfl⟩:=rx; exact SeqAt.EqAt.bool_str a b t
  | _ => exact absurd (show false = true from fx) Bool.false_ne_true
 | int a =>
  obtain ⟨t',rfl⟩:=ry
  cases x with
  | non => cases rx; exact SeqAt.EqAt.int_none a t'
  | bl b => cases rx; exact SeqAt.EqAt.int_bool a t' b
  | int b => obtain ⟨t,rfl⟩:=rx; exact SeqAt.EqAt.int_int a t' b t
  | str b => obtain ⟨t,rfl⟩:=rx; exact SeqAt.EqAt.int_str a t' b t
  | _ => exact absurd (show false = true from fx) Bool.false_ne_true
 | str a =>
  obtain ⟨t',rfl⟩:=ry
  cases x with
  | non => cases rx; exact SeqAt.EqAt.str_none a t'
  | bl b => cases rx; exact SeqAt.EqAt.str_bool a t' b
  | int b => obtain ⟨t,rfl⟩:=rx; exact SeqAt.EqAt.str_int a t' b t
  | str b => obtain ⟨t,rfl⟩:=rx; exact SeqAt.EqAt.str_str a t' b t
  | _ => exact absurd (show false = true from fx) Bool.false_ne_true
 | _ => exact absurd (show false = true from fy) Bool.false_ne_true
def eqU (x : V) (u : Value) : Bool:=match u with
 | .none => eqV .non x
 | .bool b => eqV (.bl b) x
 | .int i _ => eqV (.int i) x
 | .str z _ => eqV (.str z) x
 | _ => false
theorem zgo {x y : V} {u : Value} (r : RelV y u) (f : zbt y = true) : eqU x u = eqV y x:=by
 cases y with
 | non => cases r; rfl
 | bl b => cases r; rfl
 | int i => obtain ⟨t,rfl⟩:=r; rfl
 | str z => obtain ⟨t,rfl⟩:=r; rfl
 | _ => exact absurd (show false = true from f) Bool.false_ne_true
theorem zdK {x : V} : ∀ {xs : List V} {us : List Value},zC xs us → xs.all zbt = true → us.any (eqU x) = xs.any fun y => eqV y x
 | _,_,.nil,_ => rfl
 | y :: xs,u :: us,.cons r t,f => by
  rw [List.all_cons,Bool.and_eq_true] at f
  rw [List.any_cons,List.any_cons,zgo r f.1,zdK t f.2]
theorem zcM {A : Around} {s : Shared} {x : V} {v : Value} (rx : RelV x v) (fx : zbt x = true) : ∀ {xs : List V} {us : List Value},zC xs us → xs.all zbt = true → ∀ u ∈ us,SeqAt.EqAt A s u v (eqU x u)
 | _,_,.nil,_ => fun u hu => by cases hu
 | y :: xs,u :: us,.cons r t,f => fun u' hu => by
  rw [List.all_cons,Bool.and_eq_true] at f
  rcases List.mem_cons.mp hu with rfl | hu
  ·rw [zgo r f.1]; exact zgn r rx f.1 fx
  ·exact zcM rx fx t f.2 u' hu
def inV (x : V) (xs : List V) : Bool:=xs.any fun y => eqV y x
def rIn (K : PySem.W.Frag) (neg : Bool) : R2:=fun x y H Q => ∃ p xs,y = .ref p ∧ (SqL K H p xs ∨ SqT K H p xs) ∧ zbt x = true ∧ xs.all zbt = true ∧ Q (.bl (if neg then !inV x xs else inV x xs)) H
theorem zfJ : OpR X (compareOp .In) (rIn X.K false):=by
 intro pins s σ H x y v u Q I rx ry h
 obtain ⟨p,xs,rfl,hq,fx,fs,q⟩:=h
 cases ry
 rcases hq with hq | hq
 ·obtain ⟨its,r,pl,hz⟩:=I.list hq
  refine SeqAt.in_listAt (eqU x) pl.isList (fun w hw => zcM rx fx r fs w (by simpa using hw)) ⟨.bl _,H,I,rfl,?_⟩
  rw [show its.toArray.any (eqU x) = its.any (eqU x) by simp,zdK r fs]
  exact q
 ·obtain ⟨its,r,pl,hz⟩:=I.tuple hq
  refine SeqAt.in_tupleAt (eqU x) pl (fun w hw => zcM rx fx r fs w (by simpa using hw)) ⟨.bl _,H,I,rfl,?_⟩
  rw [show its.toArray.any (eqU x) = its.any (eqU x) by simp,zdK r fs]
  exact q
theorem zr : zbs X (.builtin "len") (fun xs H Q => ∃ p ys,xs = [.ref p] ∧ (SqL X.K H p ys ∨ SqT X.K H p ys) ∧ Q (.int ys.length) H):=by
 intro pins s σ H xs us Q I r h
 obtain ⟨p,ys,rfl,hq,q⟩:=h
 obtain ⟨u,rfl,rx⟩:=vals1 r
 cases rx
 have hn:=zcK
 rcases hq with hq | hq
 ·obtain ⟨its,r',pl,hz⟩:=I.list hq
  have hlen:=r'.length
  exact Calls.call_len_list pl.isList (by simp only [List.size_toArray] <;> omega) ⟨.int ys.length,H,I.tok _,⟨s.toks + 1,by rw [List.size_toArray,hlen]⟩,q⟩
 ·obtain ⟨its,r',pl,hz⟩:=I.tuple hq
  have hlen:=r'.length
  exact len_tuple pl (by simp only [List.size_toArray] <;> omega) ⟨.int ys.length,H,I.tok _,⟨s.toks + 1,by rw [List.size_toArray,hlen]⟩,q⟩
theorem zdL : zbs X (.type "list") (fun xs H Q => ∃ p ys,xs = [.ref p] ∧ (SqL X.K H p ys ∨ SqT X.K H p ys) ∧ ∀ l,H l = none → Q (.ref l) (upd H l (.lst ys))):=by
 intro pins s σ H xs us Q I r h
 obtain ⟨p,ys,rfl,hq,q⟩:=h
 obtain ⟨u,rfl,rx⟩:=vals1 r
 cases rx
 have fin : ∀ (its : List Value),zC ys its → ys.length ≤ sizeLine → ∀ (h' : Heap) (c' : Nat),(∀ b o',s.heap.get? b = some o' → h'.get? b = some o') →
   h'.get? s.heap.objs.size = some { cls:=.type "list",dict:=none,data:=.seq its.toArray c',slots:=#[] } → EP X pins σ Q (.ref s.heap.objs.size) { s with heap:=h' }:=fun its r' hz h' c' kp e =>
  ⟨.ref s.heap.objs.size,_,I.laid (t':=s.toks) kp (Nat.le_refl _) (show zaj X.prog X.w _ h' _ (.lst ys) from ⟨hz,its,c',r',e⟩),rfl,q _ (I.hok.fresh (Nat.le_refl _))⟩
 rcases hq with hq | hq
 ·obtain ⟨its,r',pl,hz⟩:=I.list hq
  have hlen:=r'.length
  obtain ⟨o,ho,hc,n,hd⟩:=pl.isList
  exact call_list_seq p (.inl rfl) ho hc hd (fun h' c' kp e => fin its r' hz h' c' kp e) (by simp only [List.size_toArray] <;> omega)
 ·obtain ⟨its,r',pl,hz⟩:=I.tuple hq
  have hlen:=r'.length
  obtain ⟨o,ho,hc,n,hd⟩:=pl
  exact call_list_seq p (.inr rfl) ho hc hd (fun h' c' kp e => fin its r' hz h' c' kp e) (by simp only [List.size_toArray] <;> omega)
theorem zaJ : zbs X (.type "tuple") (fun xs H Q => ∃ p ys,xs = [.ref p] ∧ ((SqL X.K H p ys ∧ ∀ l,H l = none → Q (.ref l) (upd H l (.tup ys))) ∨ (SqT X.K H p ys ∧ Q (.ref p) H))):=by
 intro pins s σ H xs us Q I r h
 obtain ⟨p,ys,rfl,h⟩:=h
 obtain ⟨u,rfl,rx⟩:=vals1 r
 cases rx
 rcases h with ⟨hq,q⟩ | ⟨hq,q⟩
 ·obtain ⟨its,r',pl,hz⟩:=I.list hq
  have hlen:=r'.length
  refine call_tuple_list pl.isList (fun h' kp => ?_) (by simp only [List.size_toArray] <;> omega)
  have I1 : Inv X pins σ H { s with heap:=h' }:=I.kept (t':=s.toks) kp
  have I2 : Inv X pins σ (upd H h'.objs.size (.tup ys)) { s with heap:=h'.push { cls:=.type "tuple",data:=.seq its.toArray } } :=
   I1.laid (t':=s.toks) (fun b o e => Heap.get?_push_of_some _ e) (Nat.le_refl _) (show zaj X.prog X.w _ _ _ (.tup ys) from ⟨hz,its,r',IsTup.new _ _⟩)
  exact ⟨.ref h'.objs.size,_,I2,rfl,q _ (I1.hok.fresh (Nat.le_refl _))⟩
 ·obtain ⟨its,r',pl,hz⟩:=I.tuple hq
  exact call_tuple_same pl ⟨.ref p,H,I,rfl,q⟩
def tyV (K : PySem.W.Frag) (T : String) (x : V) (H : Hp) : Prop:=match x with
 | .str _ => T = "str"
 | .int _ => T = "int"
 | .ref p => (T = "list" ∧ ∃ xs,SqL K H p xs) ∨ (T = "tuple" ∧ ∃ o,K.lookup p = some o ∧ o.cls = .type "tuple" ∧ o.dict = none) ∨
   (T = "dict" ∧ ((∃ kvs,H p = some (.dK kvs)) ∨ ∃ kvs,H p = some (.dT kvs))) ∨ (T = "set" ∧ ∃ S n,H p = some (.set S n))
 | _ => False
theorem ziv {pins : List (Addr × Obj)} {σ : St} {H : Hp} {s : Shared} {T : String} {x : V} {v : Value} (I : Inv X pins σ H s) (r : RelV x v) (ty : tyV X.K T x H) :
  s.TypeIs v T ∧ ∀ a,v = .ref a → ∃ ob,s.heap.get? a = some ob ∧ ob.dict = none:=by
 cases x with
 | str z =>
  obtain ⟨t,rfl⟩:=r
  cases (show T = "str" from ty)
  exact ⟨typeIs_str s z t,fun _ e => nomatch e⟩
 | int i =>
  obtain ⟨t,rfl⟩:=r
  cases (show T = "int" from ty)
  exact ⟨typeIs_int s i t,fun _ e => nomatch e⟩
 | ref p =>
  cases r
  rcases ty with ⟨rfl,xs,hq⟩ | ⟨rfl,o,hk,hc,hd⟩ | ⟨rfl,hk⟩ | ⟨rfl,S,n,hk⟩
  ·obtain ⟨its,_,pl,_⟩:=I.list hq
   refine ⟨pl.isList.typeIs,fun a e => ?_⟩
   cases e
   obtain ⟨o,n,e,c,hd,_⟩:=pl
   exact ⟨o,e,hd⟩
  ·refine ⟨⟨o,I.kIn p o hk,hc⟩,fun a e => ?_⟩
   cases e
   exact ⟨o,I.kIn _ o hk,hd⟩
  ·have z : ∃ o,s.heap.get? p = some o ∧ o.ExactDict:=by
    rcases hk with ⟨kvs,hk⟩ | ⟨kvs,hk⟩
    ·obtain ⟨_,_,_,_,o,_,_,e,ex,_⟩:=I.hok p _ hk
     exact ⟨o,e,ex⟩
    ·obtain ⟨_,_,_,_,o,_,_,e,ex,_⟩:=I.hok p _ hk
     exact ⟨o,e,ex⟩
   obtain ⟨o,e,ex⟩:=z
   refine ⟨⟨o,e,ex.1⟩,fun a e2 => ?_⟩
   cases e2
   exact ⟨o,e,ex.2.1⟩
  ·obtain ⟨o,_,_,_,e,ex,_⟩:=I.hok p _ hk
   refine ⟨⟨o,e,ex.1⟩,fun a e2 => ?_⟩
   cases e2
   exact ⟨o,e,ex.2.1⟩
 | _ => exact False.elim ty
def tBM (K : PySem.W.Frag) (T : String) (r : V → List V → Hp → VK → Prop) (to : TE) (t : TA) : TE:=fun σ H Q => to σ H fun x H1 => tyV K T x H1 ∧ t σ H1 fun xs H2 => r x xs H2 Q
variable {o e : Expr} {es : List Expr} {to : TE} {t : TA} {name : Str} {apos cpos : Pos} {T id : String} {r : V → List V → Hp → VK → Prop}
theorem zcN (pa : PlainAttrs T) (slot : Slot T name id) (hty : typeOf (.builtin id) = pure (.type "method_descriptor")) (hm : MtR X id r) (ho : PE X o to) (ha : PA X (e :: es) t)
  (hbase : attributeBase o name X.env (eval o X.env) = eval o X.env:=by rfl)
  (hfew : ((backTo cpos (starEach (e :: es) X.env)).all (fun x => !x.1) && (backToKw cpos (keywordEach [] X.env)).all (fun x => x.1.isSome)
   && decide ((e :: es).length + ([] : List Keyword).length + (if ([] : List Keyword).isEmpty then 0 else 1) < 30)) = true:=by rfl)
  (hline : (apos.endLine == cpos.line) = true:=by rfl) (hs : starEach (e :: es) X.env = (false,eval e X.env) :: starEach es X.env:=by rfl) (hplain : (backTo cpos (starEach es X.env)).any (·.1) = false:=by rfl) :
  PE X (.Call (.Attribute o name apos) (e :: es) [] cpos) (tBM X.K T r to t):=by
 intro pins s σ H Q I h
 refine wpAny_Call_method_late hbase hfew hline rfl (thn (ho pins s σ H _ I h) fun v s1 ⟨x,H1,I1,r1,ty,q1⟩ => ?_)
 obtain ⟨h1,h2⟩:=ziv I1 r1 ty
 refine ⟨T,id,pa,slot,hty,h1,h2,?_⟩
 have hA:=ha cpos pins s1 σ H1 _ I1 q1
 rw [hs] at hA ⊢
 refine Calls.callWith_builtin (by show (false || (backTo cpos (starEach es X.env)).any (·.1)) = false; rw [hplain] <;> rfl) (Calls.evalArgs_plain ?_)
 exact thn hA fun us s2 ⟨vs,H2,I2,r2,q2⟩ => hm pins s2 σ H2 x vs v us Q I2 r1 r2 q2
end
end L2
namespace L2
open PySem PySem.Spec PyProof.Rows
def MtM (X : Cx) (id : String) (r : V → List V → Hp → VK → Prop) : Prop :=
 ∀ (pins : List (Addr × Obj)) (s : Shared) (σ : St) (H : Hp) (x : V) (xs : List V) (v : Value) (us : List Value) (Q : VK),Inv X pins σ H s → RelV x v → zC xs us → r x xs H Q →
  wpAny (model X.prog X.w) X.A (call (.builtin id) (v :: us)) (EP X pins σ Q) X.xe s
theorem zC.one : ∀ {x : V} {us : List Value},zC [x] us → ∃ u,us = [u] ∧ RelV x u
 | _,_,.cons r .nil => ⟨_,rfl,r⟩
theorem zC.eraseIdx : ∀ {xs : List V} {us : List Value} (i : Nat),zC xs us → zC (xs.eraseIdx i) (us.eraseIdx i)
 | _,_,_,.nil => .nil
 | _,_,0,.cons _ t => t
 | _,_,i + 1,.cons r t => .cons r (zC.eraseIdx i t)
theorem zC.rep {xs : List V} {us : List Value} (h : zC xs us) : ∀ k : Nat,zC (List.replicate k xs).flatten (List.replicate k us).flatten
 | 0 => .nil
 | k + 1 => by
  rw [List.replicate_succ,List.replicate_succ,List.flatten_cons,List.flatten_cons]
  exact zC.append h (zC.rep h k)
theorem zdt {α : Type} : ∀ (l : List α) (i : Nat),(l.eraseIdx i).length ≤ l.length
 | [],_ => Nat.le_refl _
 | _ :: _,0 => Nat.le_succ _
 | _ :: r,i + 1 => Nat.succ_le_succ (zdt r i)
theorem foldl_rep (its : List Value) : ∀ (k : Nat) (acc : List Value),
  List.foldl (fun x1 x2 => x1 ++ x2) acc.toArray (List.replicate k its.toArray) = (acc ++ (List.replicate k its).flatten).toArray
 | 0,acc => by simp
 | k + 1,acc => by
  have e : acc.toArray ++ its.toArray = (acc ++ its).toArray:=by simp
  have e2 : (acc ++ its) ++ (List.replicate k its).flatten = acc ++ (List.replicate (k + 1) its).flatten:=by
   rw [List.replicate_succ,List.flatten_cons,List.append_assoc]
  rw [← e2,← foldl_rep its k (acc ++ its),← e,List.replicate_succ,List.foldl_cons]
section
variable {X : Cx} {pins : List (Addr × Obj)} {σ : St} {H : Hp} {s : Shared} {l b : Addr} {xs ys zs : List V}
theorem Inv.lset {its its' : List Value} {n : Nat} {f : Array Value → Array Value} {t' : Nat} (I : Inv X pins σ H s) (hH : H l = some (.lst xs))
  (e : s.heap.get? l = some { cls:=.type "list",data:=.seq its.toArray n }) (hf : f its.toArray = its'.toArray) (hv : zC ys its') (hz : ys.length ≤ sizeLine) :
  Inv X pins σ (upd H l (.lst ys)) { s with heap:=s.heap.update l (Obj.mapSeq f),toks:=t' }:=by
 have q:=PySem.IsL.update e f
 rw [hf] at q
 refine I.write (x:=l) (e:=l) (by rw [hH]; exact trivial) (.inl rfl) (fun b' u hb hu => (Heap.get?_update_other s.heap (Obj.mapSeq f) (Ne.symm hb)).trans hu) ⟨_,q⟩ ?_
 exact ⟨hz,its',_,hv,q⟩
theorem Inv.lnew {its : List Value} {t' : Nat} (I : Inv X pins σ H s) (hv : zC ys its) (hz : ys.length ≤ sizeLine) :
  Inv X pins σ (upd H s.heap.objs.size (.lst ys)) { s with heap:=s.heap.push { cls:=.type "list",data:=.seq its.toArray },toks:=t' } :=
 I.laid (fun _ _ q => Heap.get?_push_of_some _ q) (Nat.le_refl _) ⟨hz,its,0,hv,Heap.get?_push_size _ rfl⟩
theorem Inv.fresh (I : Inv X pins σ H s) : H s.heap.objs.size = none:=I.hok.fresh (Nat.le_refl _)
theorem Inv.lstM (I : Inv X pins σ H s) (hH : H l = some (.lst xs)) : xs.length ≤ sizeLine ∧ ∃ (its : List Value) (n : Nat),zC xs its ∧ xs.length = its.length ∧ s.heap.get? l = some { cls:=.type "list",data:=.seq its.toArray n }:=by
 obtain ⟨z,its,n,r,e⟩:=I.hok l _ hH
 exact ⟨z,its,n,r,r.length,e⟩
theorem zgp {n : Nat} (h : n ≤ sizeLine) : Builtin.List.listTooLong n = false:=by
 unfold Builtin.List.listTooLong
 exact decide_eq_false (by omega)
end
section
variable {X : Cx}
def zhs : V → List V → Hp → VK → Prop:=fun x vs H Q => ∃ l xs y,x = .ref l ∧ vs = [y] ∧ H l = some (.lst xs) ∧ xs.length < sizeLine ∧ Q .non (upd H l (.lst (xs ++ [y])))
theorem zaV : MtM X "list.append" zhs:=by
 intro pins s σ H x vs v us Q I rx rv h
 obtain ⟨l,xs,y,rfl,rfl,hH,hz,q⟩:=h
 cases rx
 obtain ⟨u,rfl,ru⟩:=rv.one
 obtain ⟨z,its,n,r,hl,e⟩:=I.lstM hH
 refine call_meets F.slot_list_append ⟨_,e,rfl⟩ F.entry_list_append (F.args_list_append_2 _ _) (PySem.list_append l its.toArray n u (by rw [List.size_toArray]; omega)) ⟨e,?_⟩
 refine ⟨.non,_,I.lset (its':=its ++ [u]) hH e (by simp) (r.append (.cons ru .nil)) ?_,rfl,q⟩
 rw [List.length_append,List.length_singleton]
 omega
def ziw : V → List V → Hp → VK → Prop:=fun x vs H Q => ∃ l xs i k y,x = .ref l ∧ vs = [.int i] ∧ H l = some (.lst xs) ∧ -(2 ^ 63) ≤ i ∧ i < 2 ^ 63 ∧ seqIndex? i xs.length = some k ∧ xs[k]? = some y ∧ Q y (upd H l (.lst (xs.eraseIdx k)))
theorem zgq : MtM X "list.pop" ziw:=by
 intro pins s σ H x vs v us Q I rx rv h
 obtain ⟨l,xs,i,k,y,rfl,rfl,hH,h1,h2,hk,hy,q⟩:=h
 cases rx
 obtain ⟨u,rfl,ru⟩:=rv.one
 obtain ⟨t,rfl⟩:=ru
 obtain ⟨z,its,n,r,hl,e⟩:=I.lstM hH
 obtain ⟨w,hw,rw'⟩:=r.get hy
 refine call_meets F.slot_list_pop ⟨_,e,rfl⟩ F.entry_list_pop (F.args_list_pop_2 _ _)
  (MeetsSeq.list_pop_at l its.toArray n i t k w (fitsIndex_both h1 h2) (by rw [List.size_toArray,← hl]; exact hk) (by rw [← Array.getElem?_toList]; exact hw) (by rw [List.size_toArray]; omega)) ⟨e,?_⟩
 refine ⟨y,_,I.lset (its':=its.eraseIdx k) hH e ?_ (r.eraseIdx k) ?_,rw',q⟩
 ·show its.toArray.eraseIdxIfInBounds k = (its.eraseIdx k).toArray
  rw [List.eraseIdxIfInBounds_toArray]
 ·have:=zdt xs k
  omega
def zjR : R2:=fun x y H Q => ∃ l b xs zs,x = .ref l ∧ y = .ref b ∧ H l = some (.lst xs) ∧ H b = some (.lst zs) ∧ xs.length + zs.length ≤ sizeLine ∧ ∀ p,H p = none → Q (.ref p) (upd H p (.lst (xs ++ zs)))
theorem zcO : OpR X (binaryOp .Add) zjR:=by
 intro pins s σ H x y v u Q I rx ry h
 obtain ⟨l,b,xs,zs,rfl,rfl,hH,hB,hz,q⟩:=h
 cases rx
 cases ry
 obtain ⟨z,its,n,r,hl,e⟩:=I.lstM hH
 obtain ⟨z2,its2,n2,r2,hl2,e2⟩:=I.lstM hB
 refine PySem.P.add_list e e2 ?_ (by rw [List.size_toArray,List.size_toArray]; omega)
 have ea : its.toArray ++ its2.toArray = (its ++ its2).toArray:=by simp
 rw [ea]
 exact ⟨.ref _,_,I.lnew (t':=s.toks) (r.append r2) (by rw [List.length_append]; omega),rfl,q _ I.fresh⟩
def zjS : R2:=fun x y H Q => ∃ l k xs,x = .ref l ∧ y = .int k ∧ H l = some (.lst xs) ∧ -(2 ^ 63) ≤ k ∧ k < 2 ^ 63 ∧ xs.length * k.toNat ≤ sizeLine ∧
 ∀ p,H p = none → Q (.ref p) (upd H p (.lst (List.replicate k.toNat xs).flatten))
theorem len_rep {α : Type} (xs : List α) (k : Nat) : (List.replicate k xs).flatten.length = k * xs.length:=by
 induction k with
 | zero => simp
 | succ k ih => rw [List.replicate_succ,List.flatten_cons,List.length_append,ih,Nat.succ_mul,Nat.add_comm]
theorem zdM : OpR X (binaryOp .Mult) zjS:=by
 intro pins s σ H x y v u Q I rx ry h
 obtain ⟨l,k,xs,rfl,rfl,hH,h1,h2,hz,q⟩:=h
 cases rx
 obtain ⟨t,rfl⟩:=ry
 obtain ⟨z,its,n,r,hl,e⟩:=I.lstM hH
 have hlen : its.toArray.size * k.toNat ≤ sizeLine:=by rw [List.size_toArray,← hl]; exact hz
 have hcap : ¬ its.toArray.size * k.toNat > (2 ^ 63 - 1) / 8:=by
  have : (sizeLine : Nat) ≤ (2 ^ 63 - 1) / 8:=by decide
  omega
 have hfit : ¬ (!Builtin.List.listFitsIndex k) = true:=by
  rw [fitsIndex_both h1 h2]
  exact Bool.false_ne_true
 have hlong : ¬ Builtin.List.listTooLong (its.toArray.size * k.toNat) = true:=by
  rw [zgp hlen]
  exact Bool.false_ne_true
 have hnew : List.foldl (fun x1 x2 => x1 ++ x2) #[] (List.replicate (if its.toArray.isEmpty = true then 0 else k.toNat) its.toArray) = (List.replicate k.toNat its).flatten.toArray:=by
  have f0 : ∀ m : Nat,List.foldl (fun x1 x2 => x1 ++ x2) #[] (List.replicate m its.toArray) = (List.replicate m its).flatten.toArray:=fun m => by
   have:=foldl_rep its m []
   rw [List.nil_append] at this
   exact this
  rw [f0]
  cases its with
  | nil => simp
  | cons a r' => rw [if_neg (by simp)]
 refine wpAny_binaryOp_repeat_ref (T:="list") (U:="int") (by decide) ⟨_,e,rfl⟩ (fun s' => typeIs_int s' k t) noFill_list_mul F.fills_int_mul F.slot_int_rmul repeat_list F.slot_int_index.lookup
  (call_meets F.slot_int_rmul (typeIs_int s k t) F.entry_int_rmul (F.args_int_rmul_2 _ _) (int___rmul___int_list k t l its.toArray n)
   ⟨e,rfl,⟨_,e,rfl⟩,call_meets F.slot_list_mul ⟨_,e,rfl⟩ F.entry_list_mul (F.args_list_mul_2 _ _) (AutoListH.list___mul___list_int_3 l its.toArray n k t hfit hcap hlong) ⟨e,?_⟩⟩)
 rw [hnew]
 exact ⟨.ref _,_,I.lnew (t':=s.toks) (r.rep k.toNat) (by rw [len_rep,Nat.mul_comm]; exact hz),rfl,q _ I.fresh⟩
end
section
variable {prog : Program} {w : World} {A : Around} {E : Value → Shared → Prop} {s : Shared}
end
section
variable {X : Cx}
end
end L2
namespace Att
open PySem PySem.W PySem.Calls PyProof.Rows
theorem zcn {P : Params} {h : Heap} : ∀ (ns : List Int) (vs : List Value),WellAll P h vs (ns.map WData.int) → IntsAre vs ns:=by
 intro ns
 induction ns with
 | nil =>
  intro vs w
  rw [List.map_nil] at w
  cases w
  exact .nil
 | cons n ns ih =>
  intro vs w
  rw [List.map_cons] at w
  cases w with
  | cons a b =>
   cases a
   exact .cons _ _ (ih _ b)
theorem zfK {l : OpenLaw} {n : Nat} (hn : l.most = some n) {P : Params} {h : Heap} {args : List WData} {vals : List Value}
  (hpre : l.row.toRowW.claim.pre args = true) (hwl : WellAll P h vals args) :
  ∃ a vs ns,vals = [Value.ref a] ∧ args = [WData.list (ns.map WData.int)] ∧ h.get? a = some { cls:=.type "list",data:=.seq vs.toArray } ∧ IntsAre vs ns ∧ ns.length ≤ n:=by
 have hsh : WShape.hasAll [] args [.list .int] = true:=(pre_splitW hpre).1
 have hc : l.pre.holds [] { args:=args } = true:=(pre_splitW hpre).2
 obtain ⟨d,r,rfl,h1,h2⟩:=hasAllW_cons hsh
 obtain rfl:=hasAllW_nil h2
 obtain ⟨xs,rfl,h3⟩:=hasW_list h1
 obtain ⟨ns,rfl⟩:=items_int h3
 have hlen : ns.length ≤ n:=by
  unfold OpenLaw.pre at hc
  have h4 : (WTm.not (.lt (.lit (.int (n : Int))) (.len (.arg 0)))).holds [] { args:=[.list (ns.map .int)] } = true:=by
   have h4:=(holds_andW hc).1
   rw [hn] at h4
   exact h4
  have h5:=condW_of h4 (w_not (w_lt w_lit (w_len_list (w_arg rfl))))
  rw [List.length_map] at h5
  refine Nat.le_of_not_lt fun q => ?_
  have q' : (n : Int) < ((ns.length : Nat) : Int):=by omega
  first
   | (rw [decide_eq_true q'] at h5; exact absurd h5 (by decide))
   | (simp at h5; omega)
 cases hwl with
 | cons w1 w2 =>
  cases w2
  cases w1 with
  | list ho hall => exact ⟨_,_,ns,rfl,rfl,ho,zcn ns _ hall,hlen⟩
theorem zfL (l : OpenLaw) (args : List WData) : l.row.toRowW.claim.post args (.bool true) args = true :=
 postW_of (r:=l.row.toRowW) (X:=(true == true))
  (show WShape.has [] (.bool true) .bool = true by first | rfl | decide | simp [WShape.has,WShape.arms,WShape.armsAll])
  (show (WTm.eq .res (.lit (.bool true))).value [] { args:=args,res:=some (.bool true),after:=args } = some (.bool (true == true)) from w_eq_bool (w_res rfl) w_lit) rfl
theorem attach_call {l : OpenLaw} {n : Nat} {q : Program} {loose : List Str} {XP : (Str → Option Value) → Heap → Prop} {YP : World → Heap → Prop} {d : DefRec}
  (hn : l.most = some n) (hdf : d.params.defaults = [])
  (call : ∀ (w : World) (s₀ s₁ : Shared) (mg mb : Str → Option Value) (fa : Addr) (o : Obj) (pm cd doc : Value) (a : Addr) (vs : List Value) (ns : List Int),
   Ground q loose [] XP w s₀ mg mb s₁.heap → YP w s₁.heap →
   s₁.heap.get? fa = some o → o.data = .func (docDef d.name d.params d.body d.scope pm cd doc) → s₁.heap.CodeRec cd d.name → mg d.name = some (.ref fa) →
   s₁.heap.get? a = some { cls:=.type "list",data:=.seq vs.toArray } → IntsAre vs ns → ns.length ≤ n → s₁.gens = #[] →
   codeAny (model l.prog w) callerA (.call (.ref fa) ⟨[.ref a],[]⟩) (fun r s' => r = .ok (.ret (.bool true)) ∧ OldK s₁.heap s'.heap ∧ s'.os = s₁.os ∧ AllBare s'.gens) s₁) :
  WalkO q loose XP YP l.row.toRowW d [] (fun f vs => PySem.call f vs):=by
 intro w s₀ s₁ mg mb G Y fa o pm cd doc dV kV ho hd hcd hD hmg hg args vals as hpre hlay hrd hwl hlo
 obtain rfl : dV = .none:=Dflts.none hD hdf
 obtain rfl : kV = .none:=Dflts.noKw hD
 obtain ⟨a,vs,ns,rfl,rfl,hobj,hints,hlen⟩:=zfK hn hpre hwl
 refine enter_call (codeAny_mono (call w s₀ s₁ mg mb fa o pm cd doc a vs ns G Y ho (fd_plain hd) hcd hmg hobj hints hlen hg) fun r s' hq => ?_)
 obtain ⟨rfl,h2,h3,h4⟩:=hq
 exact ⟨.inl ⟨.bool true,.bool true,[],rfl,fun _ => rfl,.bool true,zfL l _,fun _ => ⟨List.Pairwise.nil,fun _ hm => (nomatch hm)⟩⟩,h2,h3,h4⟩
section
variable {prog : Program} {w : World} {A : Around} {E : Value → Shared → Prop} {s : Shared} {K : Frag}
end
end Att
namespace L2
open PySem PySem.Spec PyProof.Rows
theorem zdu : ∀ {vs : List Value} {ns : List Int},IntsAre vs ns → zC (ns.map V.int) vs
 | _,_,.nil => .nil
 | _,_,.cons n t h => .cons ⟨t,rfl⟩ (zdu h)
def zix (H : Hp) : Prop:=∀ b,H b = none ∨ ∃ o xs,H b = some (.frz o (.lst xs))
theorem zgr {P : Program} {w : World} {K : PySem.W.Frag} {mg mb : Str → Option Value} {CX : CXT} {k : Nat} {fa a : Addr} {fd : FuncData} {x : Str} {sp : Sp} {s₁ : Shared} {vs : List Value} {ns : List Int}
  (KX : K.In s₁.heap) (hns : s₁.heap.Ns mainGlobals mg) (hb : s₁.heap.Ns builtinsNs mb) (hbb : ∀ x : Str,x ≠ "__name__" → mb x = bootBuiltins x) (hlim : s₁.heap.NoLimit) (hg : s₁.gens = #[])
  (ha : s₁.heap.get? a = some { cls:=.type "list",data:=.seq vs.toArray }) (hi : IntsAre vs ns) (hl : ns.length ≤ sizeLine) (hr : Room k callerA)
  (F : ∀ base : Heap,K.In base → base.Ns mainGlobals mg → FnOk P w K mg base CX k fa fd [x] sp) (hbind : ∀ (s : Shared) (u : Value),BindsTo s fd ⟨[u],[]⟩ [(x,u)])
  (hsp : ∀ H : Hp,zix H → SqL K H a (ns.map V.int) → sp [.ref a] H (fun v _ => v = .bl true) fun _ _ _ => False)
  (hCX : ∀ H e s',CX [] H s₁ (fun _ _ _ => False) e s' → False) :
  codeAny (model P w) callerA (.call (.ref fa) ⟨[.ref a],[]⟩) (fun r s' => r = .ok (.ret (.bool true)) ∧ OldK s₁.heap s'.heap ∧ s'.os = s₁.os ∧ AllBare s'.gens) s₁:=by
 have rv:=zdu hi
 have lenV:=hi.length
 have core : ∀ H : Hp,zix H → SqL K H a (ns.map V.int) → HOk P w H s₁.heap → (∀ b,H b ≠ none → b = a) → (H a ≠ none → K.lookup a = none) →
   codeAny (model P w) callerA (.call (.ref fa) ⟨[.ref a],[]⟩) (fun r s' => r = .ok (.ret (.bool true)) ∧ OldK s₁.heap s'.heap ∧ s'.os = s₁.os ∧ AllBare s'.gens) s₁:=by
  intro H hO hS hok hA hK
  have base_of : ∀ {b : Addr} {o : Obj},s₁.heap.get? b = some o → H b = none → (zdF s₁.heap H).get? b = some o:=fun e n => zf8 e n
  have noA : ∀ {b : Addr} {o : Obj} {es : Array DictEntry} {ep : Nat},s₁.heap.get? b = some o → o.data = .dict es ep → H b = none:=fun {b o es ep} e d => by
   cases q : H b with
   | none => rfl
   | some u =>
    have e' : b = a:=hA b (by rw [q]; simp)
    subst e'
    rw [ha] at e; cases e
    have d' : Data.seq vs.toArray _ = Data.dict es ep:=d
    cases d'
  have nsK : ∀ {b : Addr} {m : Str → Option Value},s₁.heap.Ns b m → (zdF s₁.heap H).Ns b m:=fun {b m} ⟨o,es,ep,e,d,r⟩ => ⟨o,es,ep,base_of e (noA e d),d,r⟩
  have hKb : K.In (zdF s₁.heap H):=fun b o e => base_of (KX b o e) (by
   cases q : H b with
   | none => rfl
   | some u =>
    have e' : b = a:=hA b (by rw [q]; simp)
    subst e'
    rw [hK (by rw [q]; simp)] at e; cases e)
  have hM : Mod K mg (zdF s₁.heap H):=⟨hKb,nsK hns,⟨mb,nsK hb,hbb⟩,let ⟨mc,h1,h2⟩:=hlim; ⟨mc,nsK h1,h2⟩⟩
  have e0 : Env0 P w K mg (zdF s₁.heap H) callerA [] s₁ H:=⟨rfl,hM,fun b o e => zhg e,Nat.le_of_eq (zfE _ _),trivial,fun b hb => absurd (show b ∈ ([] : List Addr) from hb) (by simp),hok,.of_eq hg⟩
  refine codeAny_mono ((F _ hKb (nsK hns)).run callerA [] s₁ H ⟨[.ref a],[]⟩ [.ref a] [.ref a] _ _ hr e0 (hbind s₁ (.ref a)) (.cons rfl .nil) (hsp H hO hS)) fun r s' h => ?_
  cases r with
  | error e => exact (hCX H e s' h).elim
  | ok fl =>
   cases fl with
   | next => exact False.elim h
   | brk => exact False.elim h
   | cont => exact False.elim h
   | ret u =>
    obtain ⟨v,H',os,bare,un,hok',r',q⟩:=h
    have q' : v = .bl true:=q
    subst q'
    obtain rfl : u = Value.bool true:=r'
    refine ⟨rfl,OldK.of_keep fun b o e => ?_,os,bare⟩
    cases q : H b with
    | none => exact un.keep b o e q (by intro z; exact absurd (show b ∈ ([] : List Addr) from z) (by simp)) (by simp)
    | some u =>
     rcases hO b with z | ⟨ob,xs,z⟩
     ·rw [q] at z; cases z
     ·have z2:=un.frzs b ob _ z
      obtain ⟨e1,_⟩:=hok b _ z
      obtain ⟨e2,_⟩:=hok' b _ z2
      rw [e] at e1; cases e1
      exact e2
 cases hk : K.lookup a with
 | some o =>
  have e:=KX a o hk
  rw [ha] at e
  cases e
  refine core (fun _ => none) (fun _ => .inl rfl) (.inr ⟨_,vs.toArray,_,hk,rfl,rfl,rfl,by rw [List.size_toArray,lenV]; exact hl,by simpa using rv⟩) (fun b u z => by have z' : (none : Option HO) = some u:=z; cases z') (fun b z => absurd rfl z) fun z => absurd rfl z
 | none =>
  refine core (fun b => if b = a then some (.frz { cls:=.type "list",data:=.seq vs.toArray } (.lst (ns.map V.int))) else none) (fun b => ?_) (.inl (.inr ⟨{ cls:=.type "list",data:=.seq vs.toArray },if_pos rfl⟩)) (fun b u z => ?_) (fun b z => ?_) fun _ => hk
  ·by_cases hb : b = a
   ·exact .inr ⟨_,_,if_pos hb⟩
   ·exact .inl (if_neg hb)
  ·by_cases hb : b = a
   ·have z':=(if_pos hb).symm.trans z
    cases z'
    subst hb
    exact ⟨ha,by rw [List.length_map]; exact hl,vs,_,rv,ha⟩
   ·have z':=(if_neg hb).symm.trans z
    cases z'
  ·by_cases hb : b = a
   ·exact hb
   ·exact absurd (if_neg hb) z
end L2
namespace L2
open PySem PySem.Spec PyProof.Rows
theorem zht {l : PySem.W.OpenLaw} {n k : Nat} {q : Program} {loose : List Str} {XP : (Str → Option Value) → Heap → Prop} {YP : World → Heap → Prop} {d : DefRec} {K : Params → PySem.W.Frag} {CX : World → CXT} {sp : World → Sp} {x : Str}
  (hn : l.most = some n) (hn2 : n ≤ sizeLine) (hdf : d.params.defaults = []) (hr : Room k callerA)
  (hY : ∀ (w : World) (h : Heap),YP w h → (K w.params).In h)
  (F : ∀ (w : World) (mg : Str → Option Value) (fa : Addr) (h : Heap),(K w.params).In h → h.Ns mainGlobals mg → mg d.name = some (.ref fa) →
   ∃ fd : FuncData,(∀ (s : Shared) (u : Value),BindsTo s fd ⟨[u],[]⟩ [(x,u)]) ∧
    ∀ base : Heap,(K w.params).In base → base.Ns mainGlobals mg → FnOk l.prog w (K w.params) mg base (CX w) k fa fd [x] (sp w))
  (hsp : ∀ (w : World) (H : Hp) (a : Addr) (ns : List Int),ns.length ≤ n → zix H → SqL (K w.params) H a (ns.map V.int) → sp w [.ref a] H (fun v _ => v = .bl true) fun _ _ _ => False)
  (hCX : ∀ (w : World) (H : Hp) (s : Shared) (e : Value) (s' : Shared),CX w [] H s (fun _ _ _ => False) e s' → False) :
  PySem.W.WalkO q loose XP YP l.row.toRowW d [] (fun f vs => PySem.call f vs):=by
 refine Att.attach_call hn hdf fun w s₀ s₁ mg mb fa o pm cd doc a vs ns G Y ho hd hcd hmg hobj hints hlen hg => ?_
 have KX:=hY w _ Y
 obtain ⟨fd,hb,hF⟩:=F w mg fa _ KX G.T.g hmg
 exact zgr KX G.T.g G.T.b G.T.builtins G.T.nolimit hg hobj hints (Nat.le_trans hlen hn2) hr hF hb (fun H hO hS => hsp w H a ns hlen hO hS) fun H e s' => hCX w H s₁ e s'
end L2
namespace L2
open PySem PySem.Spec PyProof.Rows
def za1 (s : Stmt) : Arguments:=match s with
 | .FunctionDef _ a _ _ _ _ _ _ _ _ => a
 | _ => { posonlyargs:=[],args:=[],vararg:=none,kwonlyargs:=[],kw_defaults:=[],kwarg:=none,defaults:=[] }
def zaT (s : Stmt) : List Stmt:=match s with
 | .FunctionDef _ _ b _ _ _ _ _ _ _ => b
 | _ => []
def zi (s : Stmt) : Scope:=match s with
 | .FunctionDef _ _ _ _ _ _ sc _ _ _ => sc
 | _ => { kind:=.function,names:=[],isGenerator:=false,isCoroutine:=false }
abbrev CX0 : CXT:=fun _ _ _ _ _ _ => False
abbrev E0 : XK:=fun _ _ _ => False
theorem zP {X : Cx} : zeK CX0 X E0:=fun _ _ _ _ _ _ _ h => h.elim
structure Fun (K : PySem.W.Frag) (x qual : Str) (st : Stmt) (f : Addr) (fd : FuncData) : Prop where
 ex : ∃ (oc : Value) (od : Option Addr) (kV doc pm : Value) (an : Option Addr) (cdv ct : Value) (osl : Array (Option Value)),
  fd = PySem.W.fnOf x qual (za1 st) (zaT st) (zi st) .none kV doc pm an cdv ct ∧ K.lookup f = some ⟨oc,od,.func fd,osl⟩ ∧ PySem.W.codeIn K cdv qual = true
 kp : PySem.W.keepIn K (.ref f) = true
section
variable {P : Program} {w : World} {K : PySem.W.Frag} {mg : Str → Option Value} {base : Heap}
theorem Fun.ok {x qual : Str} {st : Stmt} {f : Addr} {fd : FuncData} {N ps : List Str} {k : Nat} {sp : Sp} (F : Fun K x qual st f fd) (S : FnScope N ps (zi st)) (len : ∀ vs H Q E,sp vs H Q E → vs.length = ps.length)
  (hbody : ∀ (cdv : Value) (A : Around) (outer : List Env) (s : Shared) (H : Hp) (vs : List V) (Q : VK) (E : XK),Room k (A.deeper (envOfC qual (zi st) s.heap.objs.size f cdv)) → sp vs H Q E →
   ∃ t,PSs (zfH CX0 P w K mg base N qual (zi st) f cdv A outer s H E).nox (zaT st) t ∧ t { nx:=fun _ H' => Q .non H',rt:=Q } (start N vs) H) : FnOk P w K mg base CX0 (k + 1) f fd ps sp:=by
 obtain ⟨oc,od,kV,doc,pm,an,cdv,ct,osl,rfl,lk,hcd⟩:=F.ex
 refine zji lk hcd S len fun A outer s H vs Q E hr hsp => ?_
 obtain ⟨t,h,q⟩:=hbody cdv A outer s H vs Q E hr hsp
 exact ⟨t,h.nox,q⟩
theorem Fun.binds {x qual : Str} {st : Stmt} {f : Addr} {fd : FuncData} {ps : List Str} (F : Fun K x qual st f fd)
  (h : ∀ (kV doc pm : Value) (an : Option Addr) (cdv ct : Value) (us : List Value),us.length = ps.length → bindArgs (PySem.W.fnOf x qual (za1 st) (zaT st) (zi st) .none kV doc pm an cdv ct) ⟨us,[]⟩ = pure (ps.zip us)) : Binds K fd ps []:=by
 obtain ⟨oc,od,kV,doc,pm,an,cdv,ct,osl,rfl,lk,hcd⟩:=F.ex
 exact .all (h kV doc pm an cdv ct)
theorem zgs {x qual : Str} {st : Stmt} {f : Addr} {oc : Value} {od an : Option Addr} {osl : Array (Option Value)} {kV doc pm cdv ct : Value} (l : K.lookup f = some ⟨oc,od,.func (PySem.W.fnOf x qual (za1 st) (zaT st) (zi st) .none kV doc pm an cdv ct),osl⟩)
  (c : PySem.W.codeIn K cdv qual = true) (k : PySem.W.keepIn K (.ref f) = true) : Fun K x qual st f (PySem.W.fnOf x qual (za1 st) (zaT st) (zi st) .none kV doc pm an cdv ct):=⟨⟨oc,od,kV,doc,pm,an,cdv,ct,osl,rfl,l,c⟩,k⟩
end
section
variable {X : Cx}
end
theorem zc9 {A B : Prop} (h : B) : if false = true then A else B:=by
 rw [if_neg Bool.false_ne_true]
 exact h
theorem zjo {A B : Prop} (h : A) : if true = true then A else B:=by
 rw [if_pos rfl]
 exact h
theorem zaa {c A B : Prop} [Decidable c] (h1 : c → A) (h2 : ¬ c → B) : if c then A else B:=by
 by_cases h : c
 ·rw [if_pos h]
  exact h1 h
 ·rw [if_neg h]
  exact h2 h
def zx (H H' : Hp) : Prop:=∀ b o,H b = some o → H' b = some o
theorem zx.trans {H H1 H2 : Hp} (a : zx H H1) (b : zx H1 H2) : zx H H2:=fun c o h => b c o (a c o h)
theorem zx.free {H H' : Hp} (e : zx H H') {l : Addr} (h : H' l = Option.none) : H l = Option.none:=by
 cases q : H l with
 | none => rfl
 | some o =>
  rw [e l o q] at h
  cases h
theorem zx.seq {K : PySem.W.Frag} {H H' : Hp} {a : Addr} {xs : List V} (e : zx H H') (h : SqL K H a xs) : SqL K H' a xs:=by
 rcases h with (h | ⟨o,h⟩) | h
 ·exact .inl (.inl (e _ _ h))
 ·exact .inl (.inr ⟨o,e _ _ h⟩)
 ·exact .inr h
end L2
section
set_option maxHeartbeats 3999000
namespace L2
open PySem PySem.Spec PyProof.Rows
def zak (cs : List (Str × Addr)) : List (Str × NameKind) → List (Str × Addr) → List (Str × Addr)
 | [],acc => acc
 | (n,k) :: r,acc => if k == .free then zak cs r ((n,(cs.lookup n).getD 0) :: acc) else zak cs r acc
theorem za5 {scope : Scope} {env : Env} (h : ∀ y ∈ scope.names,y.2 = .free → ∃ c,env.cells.lookup y.1 = some c) :
  closureFor scope env = pure (zak env.cells scope.names []):=by
 have go : ∀ (names : List (Str × NameKind)) (acc : List (Str × Addr)),(∀ y ∈ names,y.2 = .free → ∃ c,env.cells.lookup y.1 = some c) →
   (forIn names acc (fun (x : Str × NameKind) (cs : List (Str × Addr)) => (if (x.2 == NameKind.free) = true then do
    let a ← cellOf env x.1
    pure (ForInStep.yield ((x.1,a) :: cs)) else pure (ForInStep.yield cs) : Sem (ForInStep (List (Str × Addr)))))) = (pure (zak env.cells names acc) : Sem _):=by
  intro names
  induction names with
  | nil => intro acc _; rfl
  | cons y r ih =>
   intro acc hy
   obtain ⟨n,k⟩:=y
   rw [List.forIn_cons]
   cases hk : (k == NameKind.free) with
   | true =>
    obtain ⟨c,hc⟩:=hy (n,k) List.mem_cons_self (by simpa using hk)
    have hcell : cellOf env n = pure c:=by
     unfold cellOf
     have hc' : env.cells.lookup n = some c:=hc
     rw [hc']
    simp only [hk,if_true,hcell]
    have e:=ih ((n,c) :: acc) fun y hy' => hy y (List.mem_cons_of_mem _ hy')
    have hc' : env.cells.lookup n = some c:=hc
    simp only [zak,hk,if_true,hc',Option.getD_some]
    exact e
   | false =>
    simp only [hk,Bool.false_eq_true,if_false]
    have e:=ih acc fun y hy' => hy y (List.mem_cons_of_mem _ hy')
    simp only [zak,hk,Bool.false_eq_true,if_false]
    exact e
 have e:=go scope.names [] h
 unfold closureFor
 show (forIn scope.names [] _ >>= fun cs => pure cs) = _
 first
  | (rw [e]; rfl)
  | (simp only []; rw [e]; rfl)
  | (have e':=e; simp at e' ⊢; exact e')
theorem zaK {cs : List (Str × Addr)} : ∀ (names : List (Str × NameKind)) (acc : List (Str × Addr)),
  (∀ y ∈ names,y.2 = .free → ∃ c,cs.lookup y.1 = some c) → (∀ x c,acc.lookup x = some c → cs.lookup x = some c) →
  ∀ x c,(zak cs names acc).lookup x = some c → cs.lookup x = some c
 | [],acc,_,h,x,c,e => h x c e
 | (n,k) :: r,acc,hy,h,x,c,e => by
  have hr : ∀ y ∈ r,y.2 = .free → ∃ c,cs.lookup y.1 = some c:=fun y hy' => hy y (List.mem_cons_of_mem _ hy')
  unfold zak at e
  cases hk : (k == NameKind.free) with
  | false =>
   rw [hk] at e
   exact zaK r acc hr h x c e
  | true =>
   rw [hk] at e
   obtain ⟨d,hd⟩:=hy (n,k) List.mem_cons_self (by simpa using hk)
   have hd' : cs.lookup n = some d:=hd
   refine zaK r _ hr (fun x c e' => ?_) x c e
   rw [hd',Option.getD_some,List.lookup_cons] at e'
   cases hx : (x == n) with
   | true =>
    rw [hx] at e'
    have : x = n:=by simpa using hx
    subst this
    rw [hd']
    exact e'
   | false =>
    rw [hx] at e'
    exact h x c e'
theorem zaF {cs : List (Str × Addr)} : ∀ (names : List (Str × NameKind)) (acc : List (Str × Addr)) (x : Str),
  ((∃ c,acc.lookup x = some c) ∨ (x,NameKind.free) ∈ names) → ∃ c,(zak cs names acc).lookup x = some c
 | [],acc,x,h => by
  rcases h with h | h
  ·exact h
  ·cases h
 | (n,k) :: r,acc,x,h => by
  unfold zak
  cases hk : (k == NameKind.free) with
  | false =>
   refine zaF r acc x ?_
   rcases h with h | h
   ·exact .inl h
   ·rcases List.mem_cons.mp h with h | h
    ·cases h
     exact absurd hk (by decide)
    ·exact .inr h
  | true =>
   refine zaF r _ x ?_
   cases hx : (x == n) with
   | true => exact .inl ⟨_,by rw [List.lookup_cons,hx]⟩
   | false =>
    rcases h with ⟨c,h⟩ | h
    ·exact .inl ⟨c,by rw [List.lookup_cons,hx]; exact h⟩
    ·rcases List.mem_cons.mp h with h | h
     ·cases h
      simp at hx
     ·exact .inr h
theorem lookup_mem {α : Type} : ∀ {l : List (Str × α)} {x : Str} {k : α},l.lookup x = some k → (x,k) ∈ l
 | [],x,k,h => by simp at h
 | (n,j) :: r,x,k,h => by
  rw [List.lookup_cons] at h
  cases hx : (x == n) with
  | true =>
   rw [hx] at h
   have : x = n:=by simpa using hx
   subst this
   cases h
   exact List.mem_cons_self
  | false =>
   rw [hx] at h
   exact List.mem_cons_of_mem _ (lookup_mem h)
theorem zaq {env : Env} : ∀ {names : List (Str × NameKind)} {x : Str},names.lookup x = some .free →
  (names.map fun (n,k) => if (k == NameKind.free && env.scope.kind == .function && env.kindOf n == some .cell) then (n,NameKind.cell) else (n,k)).lookup x = some .cell ∨
  (names.map fun (n,k) => if (k == NameKind.free && env.scope.kind == .function && env.kindOf n == some .cell) then (n,NameKind.cell) else (n,k)).lookup x = some .free
 | [],_,h => by simp at h
 | (n,k) :: r,x,h => by
  have ih:=@zaq env r x
  simp only [List.map_cons]
  cases hx : x == n with
  | true =>
   simp only [List.lookup_cons,hx] at h; cases h
   by_cases hc : (NameKind.free == NameKind.free && env.scope.kind == .function && env.kindOf n == some .cell) = true
   ·rw [if_pos hc]; left; simp only [List.lookup_cons,hx]
   ·rw [if_neg hc]; right; simp only [List.lookup_cons,hx]
  | false =>
   simp only [List.lookup_cons,hx] at h; rcases Classical.em ((k == NameKind.free && env.scope.kind == .function && env.kindOf n == some .cell) = true) with hc | hc
   ·exact (by rw [if_pos hc]; simp only [List.lookup_cons,hx]; exact ih h)
   ·exact (by rw [if_neg hc]; simp only [List.lookup_cons,hx]; exact ih h)
theorem zbi {env : Env} : ∀ {names : List (Str × NameKind)} {x : Str},
  ((names.map fun (n,k) => if (k == NameKind.free && env.scope.kind == .function && env.kindOf n == some .cell) then (n,NameKind.cell) else (n,k)).lookup x = some .cell ∨
  (names.map fun (n,k) => if (k == NameKind.free && env.scope.kind == .function && env.kindOf n == some .cell) then (n,NameKind.cell) else (n,k)).lookup x = some .free) →
  names.lookup x = some .free ∨ names.lookup x = some .cell
 | [],_,h => by simp at h
 | (n,k) :: r,x,h => by
  have ih:=@zbi env r x
  simp only [List.map_cons] at h
  cases hx : x == n with
  | true =>
   rcases Classical.em ((k == NameKind.free && env.scope.kind == .function && env.kindOf n == some .cell) = true) with hc | hc
   ·have hk : k = .free:=by
     simp only [Bool.and_eq_true] at hc; simpa using hc.1.1
    subst hk
    exact .inl (by simp only [List.lookup_cons,hx])
   ·rw [if_neg hc] at h
    simp only [List.lookup_cons,hx] at h ⊢
    rcases h with h | h
    ·exact .inr h
    ·exact .inl h
  | false =>
   rcases Classical.em ((k == NameKind.free && env.scope.kind == .function && env.kindOf n == some .cell) = true) with hc | hc
   ·rw [if_pos hc] at h
    simp only [List.lookup_cons,hx] at h ⊢
    exact ih h
   ·rw [if_neg hc] at h
    simp only [List.lookup_cons,hx] at h ⊢
    exact ih h
end L2
end
section
set_option maxHeartbeats 3999000
namespace L2
open PySem PySem.Spec PyProof.Rows
abbrev zF (X : Cx) (N' : List Str) (scope : Scope) (s₃ : Shared) (H₃ : Hp) (ex : List Addr) (pins : List (Addr × Obj)) : Cx :=
 { X with N:=N',s₀:=s₃,H₀:=H₃,env:=compEnvC scope (zak X.env.cells scope.names []) s₃.heap.objs.size X.env,outer:=X.stack,stack:=X.stack,ex:=ex,fn:=fun _ => false,pn:=X.pn ++ pins,xe:=fun _ _ => False }
def zdN (ifs : List Expr) (env : Env) : Sem Bool :=
 forIn ifs true fun c r => if r = true then do let ok ← isTrue c env (eval c env); pure (ForInStep.yield ok) else pure (ForInStep.yield r)
def zco (X : Cx) (ifs : List Expr) (t : TT) : Prop :=
 ∀ (pins : List (Addr × Obj)) (s : Shared) (σ : St) (H : Hp) (Q : Bool → Hp → Prop),Inv X pins σ H s → t σ H Q → wpAny (model X.prog X.w) X.A (zdN ifs X.env) (TP X pins σ Q) X.xe s
def ziy : TT:=fun _ H Q => Q true H
theorem zI {X : Cx} : zco X [] ziy:=fun _ _ _ H _ I h => wpAny_pure ⟨H,I,h⟩
theorem zcP {X : Cx} {c : Expr} {t : TT} (h : PT X c t) : zco X [c] t:=by
 intro pins s σ H Q I hw
 unfold zdN
 rw [List.forIn_cons]
 simp only [if_true]
 exact wpAny_bind (wpAny_bind (thn (h pins s σ H _ I hw) fun b s1 q => wpAny_pure (wpAny_pure q)))
structure CompSc (X : Cx) (N' : List Str) (ix : List (Option Nat)) (scope : Scope) : Prop where
 kind : scope.kind = .function
 nocell : ∀ y ∈ scope.names,y.2 ≠ .cell
 names : ∀ y ∈ scope.names,y.2 = .local → scope.names.lookup y.1 = some .local
 free : ∀ y ∈ scope.names,y.2 = .free → X.env.kindOf y.1 = some .cell ∨ X.env.kindOf y.1 = some .free
 len : N'.length = ix.length
 cap : ∀ j i : Nat,ix[j]? = some (some i) → ∃ x,N'[j]? = some x ∧ X.N[i]? = some x ∧ scope.names.lookup x = some .free
def zfg (osc : Scope) (oN N' : List Str) (ix : List (Option Nat)) (scope : Scope) : Bool :=
 (scope.kind == .function) && (scope.names.all fun y => y.2 != .cell) && (scope.names.all fun y => y.2 != .local || scope.names.lookup y.1 == some .local) &&
 (scope.names.all fun y => y.2 != .free || (osc.names.lookup y.1 == some .cell || osc.names.lookup y.1 == some .free)) && (N'.length == ix.length) &&
 ((List.range ix.length).all fun j => match ix[j]? with
  | some (some i) => (match N'[j]? with
   | some x => oN[i]? == some x && scope.names.lookup x == some .free
   | none => false)
  | _ => true)
theorem CompSc.of {X : Cx} {N' : List Str} {ix : List (Option Nat)} {scope : Scope} (osc : Scope) (oN : List Str) (h1 : X.env.scope = osc) (h2 : X.N = oN) (hb : zfg osc oN N' ix scope = true) : CompSc X N' ix scope:=by
 unfold zfg at hb
 simp only [Bool.and_eq_true,List.all_eq_true] at hb
 obtain ⟨⟨⟨⟨⟨a,b⟩,c⟩,d⟩,e⟩,f⟩:=hb
 refine ⟨?_,fun y hy => ?_,fun y hy hl => ?_,fun y hy hf => ?_,by simpa using e,fun j i hj => ?_⟩
 ·revert a
  cases scope.kind <;> first | (intro _; rfl) | (intro h; exact absurd h (by decide))
 ·have:=b y hy
  simpa using this
 ·have:=c y hy
  rw [hl] at this
  simpa using this
 ·have:=d y hy
  rw [hf] at this
  have e1 : X.env.kindOf y.1 = osc.names.lookup y.1:=by rw [← h1]; rfl
  rw [e1]
  simpa using this
 ·have hlt : j < ix.length:=(List.getElem?_eq_some_iff.mp hj).1
  have:=f j (List.mem_range.mpr hlt)
  rw [hj] at this
  cases hN : N'[j]? with
  | none =>
   rw [hN] at this
   simp at this
  | some x =>
   rw [hN] at this
   refine ⟨x,rfl,?_⟩
   rw [h2]
   simpa using this
def zah (ix : List (Option Nat)) (σ : St) : St:=ix.map fun o => match o with
 | none => none
 | some i => (σ[i]?).join
theorem Inv.track {X : Cx} {pins : List (Addr × Obj)} {σ : St} {H : Hp} {s : Shared} {D : Addr} {o : HO} (I : Inv X pins σ H s) (hn : H D = none) (hs : X.s₀.heap.objs.size ≤ D) (hL : X.env.locals ≠ D)
  (hC : ∀ x c,X.env.cells.lookup x = some c → c ≠ D) (hp : ∀ p ∈ X.pn ++ pins,p.1 ≠ D) (ok : zaj X.prog X.w (upd H D o) s.heap D o) : Inv X pins σ (upd H D o) s:=by
 have ne : ∀ b u,H b = some u → b ≠ D:=fun b u e => zD e hn
 refine ⟨I.ok,I.os,I.bare,⟨I.base.keep,I.base.slot,fun b u e n hx => ?_,I.base.there,fun b xs e => ?_,fun b u xs e => ?_,fun b ps e => ?_⟩,I.loc,I.cell,?_,fun x c e => ?_,fun p hp' => ?_,fun b u e => ?_,I.len⟩
 ·have : b ≠ D:=Nat.ne_of_lt (Nat.lt_of_lt_of_le (Heap.lt_size e) hs)
  rw [zo this]
  exact I.base.free b u e n hx
 ·have:=I.base.tups b xs e
  rw [zo (ne b _ this)]
  exact this
 ·have:=I.base.frzs b u xs e
  rw [zo (ne b _ this)]
  exact this
 ·obtain ⟨more,q⟩:=I.base.tbls b ps e
  exact ⟨more,by rw [zo (ne b _ q)]; exact q⟩
 ·rw [zo hL]
  exact I.free
 ·rw [zo (hC x c e)]
  exact I.freeC x c e
 ·obtain ⟨a1,a2,a3⟩:=I.pin p hp'
  exact ⟨a1,by rw [zo (hp p hp')]; exact a2,a3⟩
 ·by_cases hb : b = D
  ·subst hb
   rw [zb] at e
   cases e
   exact ok
  ·rw [zo hb] at e
   exact (I.hok b u e).stay (fun c v _ q => q) (fun c q => by rw [zo (ne c _ q)]; exact q) fun c xs q => by rw [zo (ne c _ q)]; exact q
theorem zbu {prog : Program} {w : World} {A : Around} {R : Result → Shared → Prop} {s : Shared} {elt target iter : Expr} {ifs : List Expr} {scope : Scope} {pos : Pos} {it acc : Value} {env : Env} (I : Nat → Shared → Prop) (turn : ∀ n s,I n s → wpAny (model prog w) A (pyNext it) (fun r s₁ => match r with
   | none => R (.ok .next) s₁
   | some v => wpAny (model prog w) A (letOwnedTupleGo target it v) (fun _ s₁' => wpAny (model prog w) A (assign target env v) (fun _ s₂ =>
     wpAny (model prog w) A (zdN ifs env) (fun ok s₃ => if ok = true then wpAny (model prog w) A (eval elt env) (fun x s₄ =>
       wpAny (model prog w) A (call (.builtin "list.append") [acc,x]) (fun _ s₅ => ∃ m,m < n ∧ I m s₅) (fun _ _ => False) s₄) (fun _ _ => False) s₃
      else ∃ m,m < n ∧ I m s₃) (fun _ _ => False) s₂) (fun _ _ => False) s₁') (fun _ _ => False) s₁) (fun _ _ => False) s)
  (n : Nat) (h : I n s) : codeAny (model prog w) A (.compLoop (.ListComp elt [⟨target,iter,ifs,0⟩] scope pos) 0 it acc env) R s:=by
 refine codeAny_loop rfl I (fun n s hI => ?_) n h; show wpAny _ A ((compTurn (.ListComp elt [⟨target,iter,ifs,0⟩] scope pos) 0 it acc env).onRaise (fun x => do noteFrame x env; theTreesLotGoes x)) _ _ s
 refine wpAny_noted ?_
 rw [compTurn_list]
 refine wpAny_bind (wpAny_standAt (wpAny_bind (wpAny_mono (turn n s hI) (fun r s₁ h₁ => ?_) fun _ _ z => False.elim z)))
 cases r with
 | none => exact wpAny_pure h₁
 | some v =>
  refine wpAny_bind (wpAny_mono h₁ (fun _ s₁' h₁' => ?_) fun _ _ z => False.elim z)
  refine wpAny_bind (wpAny_mono h₁' (fun _ s₂ h₂ => wpAny_bind (wpAny_mono h₂ (fun ok s₃ h₃ => ?_) fun _ _ z => False.elim z)) fun _ _ z => False.elim z)
  cases ok with
  | false => exact (wpAny_pure ⟨rfl,h₃⟩)
  | true =>
   exact wpAny_bind (wpAny_bind (wpAny_mono h₃ (fun x s₄ h₄ => wpAny_bind (wpAny_mono h₄ (fun _ s₅ h₅ => wpAny_pure (wpAny_pure ⟨rfl,h₅⟩)) fun _ _ z => False.elim z)) fun _ _ z => False.elim z))
def Wk (σ0 σ1 : St) : Prop:=σ1.length = σ0.length ∧ ∀ (j : Nat) v,σ0[j]? = some (some v) → σ1[j]? = some (some v)
theorem Wk.refl (σ : St) : Wk σ σ:=⟨rfl,fun _ _ h => h⟩
theorem Wk.set {ix : List (Option Nat)} {σ σ1 : St} {i : Nat} {v : Option V} (hi : ix[i]? = some none) (h : Wk (zah ix σ) σ1) : Wk (zah ix σ) (σ1.set i v):=by
 refine ⟨by rw [List.length_set]; exact h.1,fun j w e => ?_⟩
 have hj : j ≠ i:=by
  rintro rfl
  unfold zah at e
  rw [List.getElem?_map,hi] at e
  simp at e
 rw [List.getElem?_set_ne (Ne.symm hj)]
 exact h.2 j w e
def GK (ix : List (Option Nat)) (g : TG) : Prop:=∀ (σ σ1 : St) (x : V) (H : Hp) (Q : St → Hp → Prop),Wk (zah ix σ) σ1 → g x σ1 H Q → g x σ1 H fun σ2 H2 => Wk (zah ix σ) σ2 ∧ Q σ2 H2
def GKs (ix : List (Option Nat)) (g : TGs) : Prop:=∀ (σ σ1 : St) (xs : List V) (H : Hp) (Q : St → Hp → Prop),Wk (zah ix σ) σ1 → g xs σ1 H Q → g xs σ1 H fun σ2 H2 => Wk (zah ix σ) σ2 ∧ Q σ2 H2
theorem z8 {ix : List (Option Nat)} {i : Nat} (hi : ix[i]? = some none) : GK ix (zbr i):=fun σ σ1 x H Q hw h => ⟨hw.set hi,h⟩
theorem zbE {ix : List (Option Nat)} : GKs ix zij:=fun σ σ1 xs H Q hw h => ⟨h.1,hw,h.2⟩
theorem zaf {ix : List (Option Nat)} {i : Nat} {u : TGs} (hi : ix[i]? = some none) (h2 : GKs ix u) : GKs ix (ze7 (zbr i) u):=fun σ σ1 xs H Q hw h => by
 obtain ⟨v,r,e,h⟩:=h
 exact ⟨v,r,e,h2 σ _ r H Q (hw.set hi) h⟩
theorem zb9 {ix : List (Option Nat)} {K : PySem.W.Frag} {n : Nat} {t : TGs} (h : GKs ix t) : GK ix (zhi K n t):=fun σ σ1 x H Q hw hg => by
 obtain ⟨a,xs,e,hq,hl,hg⟩:=hg
 exact ⟨a,xs,e,hq,hl,h σ σ1 xs H Q hw hg⟩
def cGo (g : TG) (ts : TT) (te : TE) (σ0 : St) (J : It) (Q : VK) (H1 : Hp) : Prop :=
 ∃ W : Nat → Nat → List V → Hp → Prop,(∃ m,W 0 m [] H1) ∧ ∀ i m ys H,W i m ys H →
  (J.stop i H ∧ ∀ D,H D = none → Q (.ref D) (upd H D (.lst ys))) ∨
  (J.go i H ∧ ∃ N : List V → Hp → Prop,(∀ ys' H',N ys' H' → ∃ m',m' < m ∧ W (i + 1) m' ys' H') ∧ ∀ x H',J.yld i H x H' → g x σ0 H' fun σ2 H2 => ts σ2 H2 fun b H3 =>
   if b = true then te σ2 H3 fun y H4 => ys.length < sizeLine ∧ N (ys ++ [y]) H4 else N ys H3)
def zh3 (ix : List (Option Nat)) (wi : TI) (g : TG) (ts : TT) (te : TE) : TE:=fun σ H Q => wi σ H fun J H1 => cGo g ts te (zah ix σ) J Q H1
section
variable {X : Cx} {elt tg iter : Expr} {ifs : List Expr} {scope : Scope} {pos : Pos} {N' : List Str} {ix : List (Option Nat)} {g : TG} {ts : TT} {te : TE}
theorem zdv {pins : List (Addr × Obj)} {σ : St} {H2 : Hp} {s2 : Shared} {it : Addr} {fp : List Addr} {tn : Nat → Heap → Prop} {J : It} {Q : VK} {E : Value → Shared → Prop} {RR : Value → Addr → Result → Shared → Prop}
  (SC : CompSc X N' ix scope) (hc : X.calm = true) (hk : GK ix g)
  (hg : ∀ s₃ H₃ ex pins,PG (zF X N' scope s₃ H₃ ex pins) tg g) (ht : ∀ s₃ H₃ ex pins,zco (zF X N' scope s₃ H₃ ex pins) ifs ts) (he : ∀ s₃ H₃ ex pins,PE (zF X N' scope s₃ H₃ ex pins) elt te)
  (I2 : Inv X pins σ H2 s2) (T : Turn X.prog X.w X.K tg J fp it tn) (st2 : tn 0 s2.heap) (f2 : ∀ b ∈ fp,zaZ X pins H2 b) (q : cGo g ts te (zah ix σ) J Q H2)
  (hRR : ∀ (D C : Addr) (s' : Shared) (ys : List V) (H' : Hp) (m : Str → Option Value),Inv X pins σ (upd H' D (.lst ys)) s' → zaZ X pins (upd H' D (.lst ys)) C → s'.heap.Ns C m → Q (.ref D) (upd H' D (.lst ys)) → RR (.ref D) C (.ok .next) s') :
  wpAny (model X.prog X.w) X.A (newList []) (fun acc s₃ => wpAny (model X.prog X.w) X.A (newFunctionEnv scope X.env.globals (zak X.env.cells scope.names []) [] X.env.qual none .none (some X.env)) (fun cenv s₄ =>
   codeAny (model X.prog X.w) X.A (.compStart (.ListComp elt [⟨tg,iter,ifs,0⟩] scope pos) 0 (.ref it) acc { cenv with scope:=relabel scope X.env }) (RR acc cenv.locals) s₄) E s₃) E s2:=by
 have hfr : ∀ y ∈ scope.names,y.2 = .free → ∃ c,X.env.cells.lookup y.1 = some c:=fun y hy hf => I2.ok.has y.1 (SC.free y hy hf)
 have hcl : ∀ x c,(zak X.env.cells scope.names []).lookup x = some c → X.env.cells.lookup x = some c:=zaK scope.names [] hfr (fun x c e => by simp at e)
 refine wpAny_newObj_type (wpAny_newFunctionEnv SC.nocell (by intro y hy; simp at hy) (fun h₁ hns₁ hsb₁ => ?_) SC.kind)
 dsimp only at hns₁ hsb₁ ⊢
 have I3 : Inv X pins σ H2 { s2 with heap:=s2.heap.push { cls:=.type "list",dict:=none,data:=.seq ([] : List Value).toArray } }:=I2.kept (t':=s2.toks) fun b o e => Heap.get?_push_of_some _ e
 have hD3 : (s2.heap.push { cls:=.type "list",dict:=none,data:=.seq ([] : List Value).toArray }).get? s2.heap.objs.size = some { cls:=.type "list",dict:=none,data:=.seq ([] : List Value).toArray }:=Heap.get?_push_size _ rfl
 have hst3 : tn 0 (s2.heap.push { cls:=.type "list",dict:=none,data:=.seq ([] : List Value).toArray }):=T.keep _ _ _ st2 fun b hb o e => Heap.get?_push_of_some _ e
 have hsz3 : (s2.heap.push { cls:=.type "list",dict:=none,data:=.seq ([] : List Value).toArray }).objs.size = s2.heap.objs.size + 1:=Heap.size_push _ _
 generalize hh3 : s2.heap.push { cls:=.type "list",dict:=none,data:=.seq ([] : List Value).toArray } = h3 at *
 have hfpO:=T.obj _ _ st2
 have hfpLt : ∀ b ∈ fp,b < s2.heap.objs.size:=fun b hb => by obtain ⟨o,e,_⟩:=hfpO b hb; exact Heap.lt_size e
 have stk : ∀ b ∈ frs X.stack,b = X.env.locals ∨ b ∈ X.fs:=fun b hb => List.mem_cons.mp (I2.stkSub b hb)
 have hDok : zaZ X pins H2 s2.heap.objs.size:=I2.fpOk (Nat.le_refl _) I2.fresh
 have exOk : ∀ b ∈ s2.heap.objs.size :: fp,zaZ X pins H2 b:=fun b hb => by
  rcases (List.mem_cons.mp hb) with e | hb
  ·rw [e]; exact hDok
  ·exact f2 b hb
 have exLt : ∀ b ∈ s2.heap.objs.size :: fp,b < h3.objs.size:=fun b hb => by
  rw [hsz3]
  rcases (List.mem_cons.mp hb) with e | hb; · rw [e]; exact Nat.lt_succ_self _
  ·exact Nat.lt_succ_of_lt (hfpLt b hb)
 have exStk : ∀ b ∈ s2.heap.objs.size :: fp,b ∉ frs X.stack:=fun b hb z => by
  obtain ⟨_,a1,a2,_⟩:=exOk b hb
  rcases stk b z with e | e
  ·exact a1 e
  ·exact a2 e
 have old : ∀ b o,h3.get? b = some o → h₁.get? b = some o:=fun b o e => hsb₁.extBut b o (Nat.ne_of_lt (Heap.lt_size e)) (Heap.get?_push_of_some _ e)
 let s3 : Shared:={ s2 with heap:=h3 }
 let Y : Cx:=zF X N' scope s3 H2 (s2.heap.objs.size :: fp) pins
 have I3' : Inv X pins σ H2 s3:=I3
 have okY : Y.Ok:=by
  refine ⟨I2.ok.mod,SC.kind,I2.ok.glob,I2.ok.blt,Nat.le_refl _,fun x y c h1 h2 => I2.ok.inj x y c (hcl x c h1) (hcl y c h2),fun x hx => ?_,fun x c z => (by cases z),I2.ok.hd,I2.ok.frames,.inl rfl,fun b hb => ?_,fun b o e => I3'.bs b o e,?_,fun b o e hb => ?_,exStk,I3'.stack,I3'.stkFree⟩
  ·have hx':=zbi (env:=X.env) (names:=scope.names) (x:=x) hx
   rcases hx' with hx' | hx'
   ·exact zaF scope.names [] x (.inr (lookup_mem hx'))
   ·exact absurd rfl (SC.nocell _ (lookup_mem hx'))
  ·exact ⟨Nat.ne_of_lt (exLt b hb),fun x c e => (exOk b hb).2.2.2.2.1 x c (hcl x c e)⟩
  ·exact Nat.le_trans I2.ok.bsz I3'.sz
  ·obtain ⟨_,_,_,a3,_⟩:=exOk b hb
   rcases a3 with z | z
   ·exact I2.ok.noex b o e z
   ·have:=(I2.ok.bs b o e).1
    exact absurd (Nat.lt_of_lt_of_le (Heap.lt_size this) z) (Nat.lt_irrefl _)
 have inv4 : Inv Y [] (zah ix σ) H2 { s3 with heap:=h₁,toks:=s2.toks + ([] : List (Str × Value)).length }:=by
  refine ⟨okY,rfl,I2.bare,Un.kept old,⟨_,hns₁,fun j x v e1 e2 e3 => ?_⟩,fun x c e => ?_,I3'.fresh,fun x c e => I2.freeC x c (hcl x c e),fun p hp => ?_,I3'.hok.kept old,?_⟩
  ·unfold zah at e2
   rw [List.getElem?_map] at e2
   cases hj : ix[j]? with
   | none => rw [hj] at e2; simp at e2
   | some oi =>
    rw [hj] at e2
    cases oi with
    | none => simp at e2
    | some i =>
     obtain ⟨y,h1,h2,h3'⟩:=SC.cap j i hj
     have hxy : y = x:=by
      have e1' : N'[j]? = some x:=e1
      rw [h1] at e1'
      exact Option.some.inj e1'
     subst hxy
     have e2' : (σ[i]?).join = some v:=by simpa using e2
     have e2'' : σ[i]? = some (some v):=by
      cases hs : σ[i]? with
      | none => rw [hs] at e2'; simp at e2'
      | some w => rw [hs] at e2'; simp at e2'; rw [e2']
     obtain ⟨m,hn,hl⟩:=I3'.loc
     have hk:=SC.free (y,.free) (lookup_mem h3') rfl
     have hvis : Vis X.env.scope y:=hk.elim (fun z => .inr (.inl z)) fun z => .inr (.inr z)
     obtain ⟨u,r,l⟩:=hl i y v h2 e2'' hvis
     refine ⟨u,r,.inr ⟨zaq h3',?_⟩⟩
     obtain ⟨c,hcc⟩:=zaF (cs:=X.env.cells) scope.names [] y (.inr (lookup_mem h3'))
     refine ⟨c,hcc,?_⟩
     rcases l with ⟨hk',_⟩ | ⟨_,c',hc',hcell⟩
     ·rcases hk with hk | hk
      ·have hk2 : X.env.kindOf y = some .cell:=hk
       rw [hk2] at hk'; cases hk'
      ·have hk2 : X.env.kindOf y = some .free:=hk
       rw [hk2] at hk'; cases hk'
     ·have:=hcl y c hcc
      rw [hc'] at this
      cases this
      obtain ⟨o,ho,hd⟩:=hcell
      exact ⟨o,old _ _ ho,hd⟩
  ·obtain ⟨v,o,ho,hd⟩:=I3'.cell x c (hcl x c e)
   exact ⟨v,o,old _ _ ho,hd⟩
  ·have hp' : p ∈ X.pn ++ pins:=by
    have : p ∈ (X.pn ++ pins) ++ ([] : List (Addr × Obj)):=hp
    simpa using this
   obtain ⟨a1,a2,a3,a4,a5⟩:=I3'.pin p hp'
   exact ⟨old _ _ a1,a2,Nat.ne_of_lt (Heap.lt_size a1),fun z => (stk _ z).elim a3 a4,a5⟩
  ·unfold zah
   rw [List.length_map]
   exact SC.len.symm
 obtain ⟨W,⟨m0,w0⟩,turn⟩:=q
 have fpY : ∀ {H' : Hp} {pl : List (Addr × Obj)},(∀ b ∈ fp,H' b = none) → (∀ p ∈ pl,p.1 = s2.heap.objs.size) → ∀ b ∈ fp,zaZ Y pl H' b:=fun {H' pl} hn hpl b hb => by
  obtain ⟨_,a1,a2,a3,a4,a5⟩:=f2 b hb
  refine ⟨hn b hb,Nat.ne_of_lt (exLt b (List.mem_cons_of_mem _ hb)),exStk b (List.mem_cons_of_mem _ hb),.inl (List.mem_cons_of_mem _ hb),fun x c e => a4 x c (hcl x c e),fun p hp => ?_⟩; rcases List.mem_append.mp hp with hp | hp
  ·exact a5 p hp
  ·rw [hpl p hp]
   exact (Nat.ne_of_lt (hfpLt b hb)).symm
 have dOk : ∀ {its : List Value} {nn : Nat} {H' : Hp} {σ' : St} {s' : Shared},Inv Y [] σ' H' s' → H' s2.heap.objs.size = none → s'.heap.get? s2.heap.objs.size = some { cls:=.type "list",data:=.seq its.toArray nn } →
   Inv Y [(s2.heap.objs.size,{ cls:=.type "list",data:=.seq its.toArray nn })] σ' H' s':=fun {its nn H' σ' s'} I' hn e => I'.pins_of fun p hp => by
  obtain rfl : p = (s2.heap.objs.size,{ cls:=.type "list",data:=.seq its.toArray nn }):=by simpa using hp
  exact ⟨e,hn,Nat.ne_of_lt (exLt _ List.mem_cons_self),exStk _ List.mem_cons_self,fun v z => by cases z⟩
 have loop : ∀ s₅ : Shared,s₅ = { s2 with heap:=h₁,toks:=s2.toks + ([] : List (Str × Value)).length } →
   codeAny (model X.prog X.w) X.A (.compLoop (.ListComp elt [⟨tg,iter,ifs,0⟩] scope pos) 0 (.ref it) (.ref s2.heap.objs.size) (compEnvC scope (zak X.env.cells scope.names []) h3.objs.size X.env)) (RR (.ref s2.heap.objs.size) h3.objs.size) s₅:=by
  rintro s₅ rfl
  refine zbu (fun n s' => ∃ i ys H' its nn,Inv Y [] (zah ix σ) H' s' ∧ tn i s'.heap ∧ (∀ b ∈ fp,H' b = none) ∧ H' s2.heap.objs.size = none ∧ s'.heap.get? s2.heap.objs.size = some { cls:=.type "list",data:=.seq its.toArray nn } ∧ zC ys its ∧ ys.length ≤ sizeLine ∧ W i n ys H') ?_ m0
   ⟨0,[],H2,[],0,inv4,T.keep _ _ _ hst3 fun b hb o e => old b o e,fun b hb => (f2 b hb).1,I2.fresh,old _ _ hD3,.nil,Nat.zero_le _,w0⟩
  rintro n s5 ⟨i,ys,H5,its,nn,I5,st5,fr5,dn5,d5,v5,z5,w5⟩
  have I5p:=dOk I5 dn5 d5
  rcases turn i n ys H5 w5 with ⟨stop,qn⟩ | ⟨go,N,hN,step⟩
  ·refine thn (T.done Y rfl rfl rfl hc i _ s5 _ H5 (fun _ _ => False) I5p (fpY fr5 (fun p hp => by
    obtain rfl : p = (s2.heap.objs.size,{ cls:=.type "list",data:=.seq its.toArray nn }):=by simpa using hp
    rfl)) st5 stop) fun r s6 ⟨hr,I6⟩ => ?_
   subst hr
   have d6 : s6.heap.get? s2.heap.objs.size = some { cls:=.type "list",data:=.seq its.toArray nn }:=(I6.pin (s2.heap.objs.size,_) (List.mem_append_right _ List.mem_cons_self)).1
   have I7 : Inv X pins σ H5 s6:=by
    refine I3'.call' (s':=s6) (ch:=s2.heap.objs.size :: fp) I6.os I6.base I6.hok I6.bare fun b hb => ?_
    obtain ⟨_,a1,a2,a3,a4,a5⟩:=exOk b hb
    exact ⟨a3,a1,a4,a5⟩
   have I8 : Inv X pins σ (upd H5 s2.heap.objs.size (.lst ys)) s6:=by
    obtain ⟨_,a1,a2,a3,a4,a5⟩:=hDok
    exact I7.track dn5 I2.sz (Ne.symm a1) a4 a5 ⟨z5,its,nn,v5,d6⟩
   obtain ⟨mm,hmm,_⟩:=I6.loc
   have dne : h3.objs.size ≠ s2.heap.objs.size:=by rw [hsz3]; exact Nat.succ_ne_self _
   refine hRR _ _ s6 ys H5 mm I8 (I3'.fpOk (H':=upd H5 s2.heap.objs.size (.lst ys)) (Nat.le_refl _) ?_) hmm (qn _ dn5)
   show upd H5 s2.heap.objs.size (.lst ys) h3.objs.size = none
   rw [zo dne]
   exact I6.free
  ·have hpl : ∀ p ∈ [(s2.heap.objs.size,({ cls:=.type "list",data:=.seq its.toArray nn } : Obj))],p.1 = s2.heap.objs.size:=fun p hp => by
    obtain rfl : p = (s2.heap.objs.size,{ cls:=.type "list",data:=.seq its.toArray nn }):=by simpa using hp
    rfl
   refine thn (T.item Y rfl rfl rfl hc i _ s5 _ H5 (fun _ _ => False) I5p (fpY fr5 hpl) st5 go) fun r s6 ⟨u,hr,h6⟩ => ?_
   subst hr
   refine thn h6 fun _ s7 ⟨x,H7,I7,r7,y7,st7,fr7⟩ => ?_
   have I7':=I7.pinned (fpY fr7 hpl) (T.obj _ _ st7)
   have back : ∀ {σ8 : St} {H8 : Hp} {s8 : Shared},Inv Y ([(s2.heap.objs.size,({ cls:=.type "list",data:=.seq its.toArray nn } : Obj))] ++ zbe fp s7.heap) σ8 H8 s8 → Wk (zah ix σ) σ8 →
     Inv Y [] (zah ix σ) H8 s8 ∧ tn (i + 1) s8.heap ∧ (∀ b ∈ fp,H8 b = none) ∧ H8 s2.heap.objs.size = none ∧ s8.heap.get? s2.heap.objs.size = some { cls:=.type "list",data:=.seq its.toArray nn }:=fun {σ8 H8 s8} I8 wk => by
    have pD:=I8.pin (s2.heap.objs.size,_) (List.mem_append_right _ (List.mem_append_left _ List.mem_cons_self))
    have I8a : Inv Y [] σ8 H8 s8:=I8.pins_of fun p hp => by cases hp
    refine ⟨I8a.weak wk.1.symm wk.2,T.keep _ _ _ st7 fun b hb o e => (I8.pin (b,o) (List.mem_append_right _ (List.mem_append_right _ (zaC hb e)))).1,fun b hb => ?_,pD.2.1,pD.1⟩
    obtain ⟨o,e,d⟩:=T.obj _ _ st7 b hb
    exact (I8.pin (b,o) (List.mem_append_right _ (List.mem_append_right _ (zaC hb e)))).2.1
   refine thn (hg s3 H2 (s2.heap.objs.size :: fp) pins _ s7 _ H7 x u _ I7' r7 (hk σ _ x H7 _ (Wk.refl _) (step x H7 y7))) fun _ s8 ⟨σ8,H8,I8,wk8,q8⟩ => ?_
   refine thn (ht s3 H2 (s2.heap.objs.size :: fp) pins _ s8 σ8 H8 _ I8 q8) fun ok s9 ⟨H9,I9,q9⟩ => ?_
   cases ok with
   | false =>
    rw [if_neg Bool.false_ne_true] at q9 ⊢
    obtain ⟨m',hm,w9⟩:=hN _ _ q9
    obtain ⟨a1,a2,a3,a4,a5⟩:=back I9 wk8
    exact ⟨m',hm,i + 1,ys,H9,its,nn,a1,a2,a3,a4,a5,v5,z5,w9⟩
   | true =>
    rw [if_pos rfl] at q9 ⊢
    refine thn (he s3 H2 (s2.heap.objs.size :: fp) pins _ s9 σ8 H9 _ I9 q9) fun yv s10 ⟨y,H10,I10,r10,hz,n10⟩ => ?_
    obtain ⟨m',hm,w10⟩:=hN _ _ n10
    obtain ⟨a1,a2,a3,a4,a5⟩:=back I10 wk8
    have hvl:=v5.length
    refine call_meets F.slot_list_append ⟨_,a5,rfl⟩ F.entry_list_append (F.args_list_append_2 _ _) (PySem.list_append s2.heap.objs.size its.toArray nn yv (by rw [List.size_toArray]; omega)) ⟨a5,?_⟩
    have q:=PySem.IsL.update a5 (·.push yv)
    have k10 : ∀ b o,b ≠ s2.heap.objs.size → s10.heap.get? b = some o → (s10.heap.update s2.heap.objs.size (Obj.mapSeq (·.push yv))).get? b = some o:=fun b o hb e => (Heap.get?_update_other s10.heap (Obj.mapSeq (·.push yv)) (Ne.symm hb)).trans e
    obtain ⟨_,b1,b2,b3,b4,b5⟩:=hDok
    have I11 : Inv Y [] (zah ix σ) H10 { s10 with heap:=s10.heap.update s2.heap.objs.size (Obj.mapSeq (·.push yv)) } :=
     a1.turned (t':=s10.toks) k10 a4 (Nat.ne_of_lt (exLt _ List.mem_cons_self)) (.inl List.mem_cons_self) (fun x c e => b4 x c (hcl x c e)) (fun p hp => by
      have : p ∈ (X.pn ++ pins) ++ ([] : List (Addr × Obj)):=hp
      exact b5 p (by simpa using this))
    have e1 : its.toArray.push yv = (its ++ [yv]).toArray:=by simp
    rw [e1] at q
    refine ⟨m',hm,i + 1,ys ++ [y],H10,its ++ [yv],_,I11,T.keep _ _ _ a2 fun b hb o e => k10 b o (Nat.ne_of_lt (hfpLt b hb)) e,a3,a4,q,v5.append (.cons r10 .nil),?_,w10⟩
    rw [List.length_append,List.length_singleton]
    omega
 exact codeAny_compStart_list (loop _ rfl) (T.self _ 0 _ _ _ (T.keep _ _ _ hst3 fun b hb o e => old b o e) (loop _ rfl))
theorem zao {wi : TI} (SC : CompSc X N' ix scope) (hc : X.calm = true) (hk : GK ix g) (hi : PI X tg iter wi)
  (hg : ∀ s₃ H₃ ex pins,PG (zF X N' scope s₃ H₃ ex pins) tg g) (ht : ∀ s₃ H₃ ex pins,zco (zF X N' scope s₃ H₃ ex pins) ifs ts) (he : ∀ s₃ H₃ ex pins,PE (zF X N' scope s₃ H₃ ex pins) elt te)
  (hs : ∀ x,foldedSetIterable iter X.env x = pure x:=by intro _; rfl) : PE X (.ListComp elt [⟨tg,iter,ifs,0⟩] scope pos) (zh3 ix wi g ts te):=by
 intro pins s σ H Q I h
 rw [eval_ListComp]
 have hfr : ∀ y ∈ scope.names,y.2 = .free → ∃ c,X.env.cells.lookup y.1 = some c:=fun y hy hf => I.ok.has y.1 (SC.free y hy hf)
 refine wpAny_comprehension_free (use:=none) rfl hs (za5 hfr) SC.kind SC.names (thn (hi pins s σ H _ I h) fun v s1 h1 => thn h1 fun itv s2 h2 => ?_)
 obtain ⟨it,fp,tn,J,H2,e,I2,T,st2,f2,q⟩:=h2
 subst e
 refine zdv (RR:=fun acc C => compPost (model X.prog X.w) X.A X.xe none (EP X pins σ Q) acc C) SC hc hk hg ht he I2 T st2 f2 q ?_
 intro D C s' ys H' m I' fpC hm q'
 refine ⟨m,hm,fun h'' hs'' => ⟨.ref D,_,?_,rfl,q'⟩⟩
 obtain ⟨f0,f1,f2',f3,f4,f5⟩:=fpC
 exact I'.turned (t':=s'.toks) (fun b o hb e => hs''.extBut b o hb e) f0 f1 f3 f4 f5
theorem zac {wi : TI} {i : Nat} {x : Str} {pos' spos : Pos} (hN : X.N.Nodup) (hxi : X.N[i]? = some x) (hx : Loc X.env.scope x) (SC : CompSc X N' ix scope) (hc : X.calm = true) (hk : GK ix g) (hi : PI X tg iter wi)
  (hg : ∀ s₃ H₃ ex pins,PG (zF X N' scope s₃ H₃ ex pins) tg g) (ht : ∀ s₃ H₃ ex pins,zco (zF X N' scope s₃ H₃ ex pins) ifs ts) (he : ∀ s₃ H₃ ex pins,PE (zF X N' scope s₃ H₃ ex pins) elt te)
  (hsw : swapsWith (.ListComp elt [⟨tg,iter,ifs,0⟩] scope pos) (some (.Name x pos')) spos.line X.env = pure true:=by rfl)
  (hs : ∀ x,foldedSetIterable iter X.env x = pure x:=by intro _; rfl) (hf : X.fn x = true ∨ X.env.scope.names.lookup x = some .local:=by first | exact .inl rfl | exact .inr rfl | assumption) :
  PS X (.Assign [.Name x pos'] (.ListComp elt [⟨tg,iter,ifs,0⟩] scope pos) spos) (zgb (zh3 ix wi g ts te) (zbr i)):=by
 intro pins s σ H D I h
 have hfr : ∀ y ∈ scope.names,y.2 = .free → ∃ c,X.env.cells.lookup y.1 = some c:=fun y hy hf => I.ok.has y.1 (SC.free y hy hf)
 rw [exec_Assign_Name_used _ _ _ _ hsw]; refine wpAny_bind (wpAny_standAt (wpAny_bind ?_))
 show wpAny _ X.A (do let _ ← comprehension (.ListComp elt [⟨tg,iter,ifs,0⟩] scope pos) scope X.env _ (newList []) false (eval iter X.env) (some (assign (.Name x pos') X.env))) _ _ s
 refine wpAny_bind (wpAny_mono (wpAny_comprehension_free (use:=some (assign (.Name x pos') X.env)) (Q:=fun _ s' => SP X pins D .next s') rfl hs (za5 hfr) SC.kind SC.names
  (thn (hi pins s σ H _ I h) fun v s1 h1 => thn h1 fun itv s2 h2 => ?_)) (fun _ s' hq => wpAny_pure (wpAny_pure hq)) fun _ _ e => e)
 obtain ⟨it,fp,tn,J,H2,e,I2,T,st2,f2,q⟩:=h2
 subst e
 refine zdv (RR:=fun acc C => compPost (model X.prog X.w) X.A X.xe (some (assign (.Name x pos') X.env)) (fun _ s' => SP X pins D .next s') acc C) SC hc hk hg ht he I2 T st2 f2 q ?_
 intro Da C s' ys H' m I' fpC hm q'
 show wpAny _ X.A (assign (.Name x pos') X.env (.ref Da)) _ _ _
 refine wpAny_assign_Name (zdk I' hN hxi hx (show RelV (.ref Da) (.ref Da) from rfl) (fun s'' I'' ⟨a,hsb,ha⟩ => ?_) hf)
 obtain ⟨f0,f1,f2',f3,f4,f5⟩:=fpC
 have hCa : C ≠ a:=by
  rcases ha with e | e
  ·rw [e]; exact f1
  ·exact Ne.symm (f4 x a e)
 refine ⟨m,hm.sameBut hsb hCa,fun h₃ hs₃ => ⟨_,_,?_,q'⟩⟩
 exact I''.turned (t':=s''.toks) (fun b o hb e => hs₃.extBut b o hb e) f0 f1 f3 f4 f5
end
theorem z0 {J : It} {n : Nat} {g : TG} {ts : TT} {te : TE} {σ0 : St} {Q : VK} {H : Hp} (Pv : Nat → List V → Hp → Prop) (h0 : Pv 0 [] H) (hgo : ∀ i ys H,i < n → Pv i ys H → J.go i H) (hst : ∀ ys H,Pv n ys H → J.stop n H)
  (hs : ∀ i x ys H H',i < n → Pv i ys H → J.yld i H x H' → g x σ0 H' fun σ2 H2 => ts σ2 H2 fun b H3 => if b = true then te σ2 H3 fun y H4 => ys.length < sizeLine ∧ Pv (i + 1) (ys ++ [y]) H4 else Pv (i + 1) ys H3)
  (hd : ∀ ys H D,Pv n ys H → H D = none → Q (.ref D) (upd H D (.lst ys))) : cGo g ts te σ0 J Q H:=by
 refine ⟨fun i m ys H => m = n - i ∧ i ≤ n ∧ Pv i ys H,⟨n,by simp,Nat.zero_le _,h0⟩,?_⟩
 rintro i m ys H ⟨rfl,hi,p⟩
 by_cases hlt : i < n
 ·exact .inr ⟨hgo i ys H hlt p,Pv (i + 1),fun ys' H' p' => ⟨n - (i + 1),by omega,rfl,hlt,p'⟩,fun x H' y => hs i x ys H H' hlt p y⟩
 ·have e : i = n:=by omega
  subst e
  exact .inl ⟨hst ys H p,fun D hD => hd ys H D p hD⟩
theorem zca {J : It} {n : Nat} {g : TG} {tb : TS} {D : Ends} {σ : St} {H : Hp} (Pv : Nat → St → Hp → Prop) (h0 : Pv 0 σ H) (hgo : ∀ i σ H,i < n → Pv i σ H → J.go i H) (hst : ∀ σ H,Pv n σ H → J.stop n H)
  (hs : ∀ i x σ H H',i < n → Pv i σ H → J.yld i H x H' → g x σ H' fun σ2 H2 => tb { D with nx:=Pv (i + 1),ct:=Pv (i + 1),bk:=D.nx } σ2 H2) (hd : ∀ σ H,Pv n σ H → D.nx σ H) :
  ∃ W : Nat → Nat → St → Hp → Prop,(∃ m,W 0 m σ H) ∧ ∀ i m σ H,W i m σ H →
   (J.stop i H ∧ D.nx σ H) ∨ (J.go i H ∧ ∃ N : St → Hp → Prop,(∀ σ' H',N σ' H' → ∃ m',m' < m ∧ W (i + 1) m' σ' H') ∧ ∀ x H',J.yld i H x H' → g x σ H' fun σ2 H2 => tb { D with nx:=N,ct:=N,bk:=D.nx } σ2 H2):=by
 refine ⟨fun i m σ H => m = n - i ∧ i ≤ n ∧ Pv i σ H,⟨n,by simp,Nat.zero_le _,h0⟩,?_⟩
 rintro i m σ H ⟨rfl,hi,p⟩
 by_cases hlt : i < n
 ·exact .inr ⟨hgo i σ H hlt p,Pv (i + 1),fun σ' H' p' => ⟨n - (i + 1),by omega,rfl,hlt,p'⟩,fun x H' y => hs i x σ H H' hlt p y⟩
 ·have e : i = n:=by omega
  subst e
  exact .inl ⟨hst σ H p,hd σ H p⟩
end L2
end
section
set_option maxHeartbeats 3999000
namespace L2
open PySem PySem.Spec PyProof.Rows
section
variable {X : Cx} {pins : List (Addr × Obj)} {σ : St} {H : Hp} {s : Shared} {h' : Heap}
theorem Inv.turnedL {t' : Nat} {ch : List Addr} (I : Inv X pins σ H s) (k : ∀ b o,b ∉ ch → s.heap.get? b = some o → h'.get? b = some o) (hf : ∀ b ∈ ch,zaZ X pins H b)
  (th : ∀ b ∈ ch,∃ o,h'.get? b = some o) : Inv X pins σ H { s with heap:=h',toks:=t' }:=by
 have nit : ∀ b u,H b = some u → b ∉ ch:=fun b u e z => by rw [(hf b z).1] at e; cases e
 refine I.step (g':=s.gens) (d':=s.drawn) (ch:=ch) (fun b hb => ?_) (fun b o _ _ hc e _ => k b o hc e) (fun b o _ _ hc e _ => ⟨o.slots,k b o hc e⟩) (fun _ _ _ _ n => n)
  (fun b o hc e => ⟨o,k b o hc e⟩) (fun _ _ e => e) (fun _ _ _ e => e) (fun b ps e => ⟨#[],by rw [e]; simp⟩) (fun m hm => ?_) (fun b u e => ?_) I.bare
 ·obtain ⟨_,a1,_,a3,a4,a5⟩:=hf b hb
  exact ⟨a3,a1,a4,a5⟩
 ·obtain ⟨o,es,ep,ho,r⟩:=hm
  exact ⟨o,es,ep,k _ o (fun z => (hf _ z).2.1 rfl) ho,r⟩
 ·refine (I.hok b u e).stay (fun c v hc q => k c v ?_ q) (fun _ q => q) fun _ _ q => q
  rcases hc with z | z
  ·rw [z]; exact nit b u e
  ·exact nit c _ z
theorem Inv.turnedNew {t' : Nat} {ch : List Addr} {T : Addr} {o : HO} (I : Inv X pins σ H s) (k : ∀ b o,b ∉ ch → s.heap.get? b = some o → h'.get? b = some o) (hf : ∀ b ∈ ch,zaZ X pins H b)
  (th : ∀ b ∈ ch,∃ o,h'.get? b = some o) (hT : s.heap.objs.size ≤ T) (ok : zaj X.prog X.w (upd H T o) h' T o) : Inv X pins σ (upd H T o) { s with heap:=h',toks:=t' }:=by
 have I1 : Inv X pins σ H { s with heap:=h',toks:=t' }:=I.turnedL k hf th
 have hn : H T = none:=I.hok.fresh hT
 obtain ⟨_,a1,a2,a3,a4,a5⟩:=I.fpOk (H':=H) hT hn
 exact I1.track hn (Nat.le_trans I.sz hT) (Ne.symm a1) a4 a5 ok
end
def ziz (Sq : Hp → Addr → List V → Prop) (a : Addr) : It :=
 ⟨fun i H => ∃ xs x,Sq H a xs ∧ xs[i]? = some x,fun i H x H' => ∃ T v,H T = none ∧ x = .ref T ∧ H' = upd H T (.tup [.int i,v]) ∧ ∀ xs,Sq H a xs → xs[i]? = some v,fun i H => ∃ xs,Sq H a xs ∧ xs.length ≤ i⟩
theorem zbU {h : Heap} {T : Addr} {a b : Value} (e : h.get? T = some { cls:=.type "tuple",data:=.seq #[a,b] }) : IsTup h T ([a,b] : List Value).toArray:=⟨_,e,rfl,_,rfl⟩
theorem zaO : 2 ≤ sizeLine:=by rw [sizeLine_eq]; decide
theorem zeO {P : Program} {w : World} {K : PySem.W.Frag} {es : List Expr} {k : Nat} {pos : Pos} (a it e : Addr) (hei : e ≠ it) : Turn P w K (.Tuple es k pos) (ziz (SqL K) a) [e,it] e (fun i h => (∃ old,IsEnum h e it i old) ∧ h.IsListIter it a i) where
 mem:=by simp
 obj:=fun i h st b hb => by
  obtain ⟨⟨old,he⟩,o,ho,hc,hd⟩:=st
  rcases List.mem_cons.mp hb with z | z
  ·subst z
   exact ⟨_,he,fun v z => by cases z⟩
  ·have z : b = it:=by simpa using z
   subst z
   exact ⟨o,ho,fun v z => by rw [hd] at z; cases z⟩
 keep:=fun i h h' st kk => ⟨st.1.imp fun old he => kk e (by simp) _ he,st.2.at fun o eo => kk it (by simp) o eo⟩
 item:=by
  intro X hP hw hK hc i pins s σ H E I hf st hg
  subst hP hw hK
  obtain ⟨xs,x,hq,hx⟩:=hg
  obtain ⟨⟨old,he⟩,hit⟩:=st
  obtain ⟨its,rv,p,hz⟩:=I.list hq
  obtain ⟨u,hu,ru⟩:=rv.get hx
  have hes : e < s.heap.objs.size:=Heap.lt_size he
  have hits : it < s.heap.objs.size:=by obtain ⟨o,ho,_⟩:=hit; exact Heap.lt_size ho
  refine wpAny_pyNext_enum_item he hit p.isList (x:=u) (by simpa using hu) hei fun h' ho' hit' hT hsz kk => ?_
  have k1 : ∀ b o,b ∉ [e,it] → s.heap.get? b = some o → h'.get? b = some o:=fun b o hb eo => kk b o (fun z => hb (by simp [z])) (fun z => hb (by simp [z])) eo
  have th1 : ∀ b ∈ [e,it],∃ o,h'.get? b = some o:=fun b hb => by
   rcases List.mem_cons.mp hb with z | z
   ·subst z; exact ⟨_,ho'⟩
   ·have z : b = it:=by simpa using z
    subst z
    obtain ⟨o,eo,_⟩:=hit'
    exact ⟨o,eo⟩
  have I1 : Inv X pins σ (upd H s.heap.objs.size (.tup [.int i,x])) { s with heap:=h',toks:=s.toks + 1 } :=
   I.turnedNew k1 hf th1 (Nat.le_refl _) ⟨zaO,_,.cons ⟨s.toks,rfl⟩ (.cons ru .nil),zbU hT⟩
  refine ⟨_,rfl,wpAny_letOwnedTupleGo_enum ho' fun h'' he'' hs'' => ?_⟩
  have fr : ∀ b ∈ [e,it],upd H s.heap.objs.size (.tup [.int i,x]) b = none:=fun b hb => by
   have hlt : b < s.heap.objs.size:=by
    rcases List.mem_cons.mp hb with z | z
    ·subst z; exact hes
    ·have z : b = it:=by simpa using z
     subst z; exact hits
   rw [zo (Nat.ne_of_lt hlt)]
   exact (hf b hb).1
  have I2 : Inv X pins σ (upd H s.heap.objs.size (.tup [.int i,x])) { s with heap:=h'',toks:=s.toks + 1 } :=
   Inv.turnedL (s:={ s with heap:=h',toks:=s.toks + 1 }) (ch:=[e]) (t':=s.toks + 1) I1 (fun b o hb eo => hs''.extBut b o (by simpa using hb) eo) (fun b hb => by
    have z : b = e:=by simpa using hb
    subst z
    exact ⟨fr b (by simp),(hf b (by simp)).2⟩) (fun b hb => by
    have z : b = e:=by simpa using hb
    subst z
    exact ⟨_,he''⟩)
  refine ⟨.ref s.heap.objs.size,_,I2,rfl,⟨_,x,I.fresh,rfl,rfl,fun ys hy => by rw [I.list_inj hy hq]; exact hx⟩,⟨⟨_,by simpa using he''⟩,hit'.extBut hs''.extBut (Ne.symm hei)⟩,fr⟩
 done:=by
  intro X hP hw hK hc i pins s σ H E I hf st hg
  subst hP hw hK
  obtain ⟨xs,hq,hx⟩:=hg
  obtain ⟨⟨old,he⟩,hit⟩:=st
  obtain ⟨its,rv,p,hz⟩:=I.list hq
  have hl:=rv.length
  obtain ⟨f0,f1,f2,f3,f4,f5⟩:=hf it (by simp)
  exact wpAny_pyNext_enum_end (I.ok.hd hc) he hit p.isList (by simp; omega) fun h' eb => ⟨rfl,I.turned (t':=s.toks) (fun b o hb e => eb b o hb e) f0 f1 f3 f4 f5⟩
 self:=fun _ _ _ _ _ st h => by
  obtain ⟨⟨old,he⟩,_⟩:=st
  exact wpAny_pyIter_enum he h
def iEn (Sq : Hp → Addr → List V → Prop) (ta : TA) : TI:=fun σ H R => ta σ H fun vs H1 => ∃ a xs,vs = [.ref a] ∧ Sq H1 a xs ∧ R (ziz Sq a) H1
theorem zb1 {X : Cx} {es : List Expr} {k : Nat} {tpos p pos : Pos} {a : Expr} {ta : TA} (hg : Gl X "enumerate") (hm : X.mg "enumerate" = none) (ha : PA X [a] ta) (hs : starEach [a] X.env = [(false,eval a X.env)]:=by rfl) :
  PI X (.Tuple es k tpos) (.Call (.Name "enumerate" p) [a] [] pos) (iEn (SqL X.K) ta):=by
 intro pins s σ H R I h
 refine Call_ (zbd I hg hm boot_enumerate (PyProof.Rows.callWith_type1 (thn (ha pos pins s σ H _ I h) fun us s1 ⟨vs,H1,I1,r1,q1⟩ => ?_) hs rfl))
 obtain ⟨l,xs,e,hq,q⟩:=q1
 subst e
 cases r1 with
 | cons r rr =>
  cases rr
  cases r
  obtain ⟨its,rv,pl,hz⟩:=I1.list hq
  refine call_enumerate_list pl.isList fun h' he hi hsz kk => ?_
  have I2 : Inv X pins σ H1 { s1 with heap:=h' }:=I1.kept (t':=s1.toks) kk
  refine wpAny_pyIter_enum he ?_; refine ⟨_,[s1.heap.objs.size + 1,s1.heap.objs.size],_,ziz (SqL X.K) l,H1,rfl,I2,zeO l s1.heap.objs.size (s1.heap.objs.size + 1) (Nat.succ_ne_self _),⟨⟨_,he⟩,hi⟩,fun b hb => ?_,q⟩
  have hle : s1.heap.objs.size ≤ b:=by
   rcases List.mem_cons.mp hb with z | z
   ·rw [z]; exact Nat.le_succ _
   ·have z : b = s1.heap.objs.size:=by simpa using z
    rw [z]; exact Nat.le_refl _
  exact I1.fpOk hle (I1.hok.fresh hle)
def zfM (Sq1 Sq2 : Hp → Addr → List V → Prop) (a b : Addr) : It :=
 ⟨fun i H => ∃ xs ys x y,Sq1 H a xs ∧ Sq2 H b ys ∧ xs[i]? = some x ∧ ys[i]? = some y,
  fun i H x H' => ∃ T u v,H T = none ∧ x = .ref T ∧ H' = upd H T (.tup [u,v]) ∧ (∀ xs,Sq1 H a xs → xs[i]? = some u) ∧ ∀ ys,Sq2 H b ys → ys[i]? = some v,
  fun i H => ∃ xs ys,Sq1 H a xs ∧ Sq2 H b ys ∧ (xs.length ≤ i ∨ ys.length ≤ i)⟩
theorem zfN {P : Program} {w : World} {K : PySem.W.Frag} {es : List Expr} {k : Nat} {pos : Pos} (a b : Addr) (n : Nat) (ha : a < n) (hb : b < n) : Turn P w K (.Tuple es k pos) (zfM (SqL K) (SqL K) a b) [n + 4,n + 2,n + 3,n,n + 1] (n + 4)
  (fun i h => IsZip h (n + 4) (n + 2) (n + 3) .none ∧ IsPair h (n + 2) (.ref n) (.ref (n + 1)) ∧ (∃ u v,IsPair h (n + 3) u v) ∧ h.IsListIter n a i ∧ h.IsListIter (n + 1) b i) where
 mem:=by simp
 obj:=fun i h st c hc => by
  obtain ⟨h1,h2,⟨u,v,h3⟩,⟨o4,e4,_,d4⟩,⟨o5,e5,_,d5⟩⟩:=st
  simp only [List.mem_cons,List.not_mem_nil,or_false] at hc
  rcases hc with z | z | z | z | z <;> subst z
  ·exact ⟨_,h1,fun v z => by cases z⟩
  ·exact ⟨_,h2,fun v z => by cases z⟩
  ·exact ⟨_,h3,fun v z => by cases z⟩
  ·exact ⟨_,e4,fun v z => by rw [d4] at z; cases z⟩
  ·exact ⟨_,e5,fun v z => by rw [d5] at z; cases z⟩
 keep:=fun i h h' st kk => by
  obtain ⟨h1,h2,⟨u,v,h3⟩,h4,h5⟩:=st
  exact ⟨kk _ (by simp) _ h1,kk _ (by simp) _ h2,⟨u,v,kk _ (by simp) _ h3⟩,h4.at fun o eo => kk _ (by simp) o eo,h5.at fun o eo => kk _ (by simp) o eo⟩
 item:=by
  intro X hP hw hK hc i pins s σ H E I hf st hg
  subst hP hw hK
  obtain ⟨xs,ys,x,y,hq1,hq2,hx,hy⟩:=hg
  obtain ⟨h1,h2,⟨u0,v0,h3⟩,h4,h5⟩:=st
  obtain ⟨its1,rv1,p1,hz1⟩:=I.list hq1
  obtain ⟨its2,rv2,p2,hz2⟩:=I.list hq2
  obtain ⟨u,hu,ru⟩:=rv1.get hx
  obtain ⟨v,hv,rv⟩:=rv2.get hy
  have hzs : n + 4 < s.heap.objs.size:=Heap.lt_size h1
  refine wpAny_pyNext_zip_item (zipApart_new ha hb) h1 h2 h3 h4 h5 p1.isList p2.isList (x:=u) (y:=v) (by simpa using hu) (by simpa using hv) fun h' a1 a2 a3 a4 a5 a6 kk => ?_
  have k1 : ∀ c o,c ∉ [n + 4,n + 3,n,n + 1] → s.heap.get? c = some o → h'.get? c = some o:=fun c o hc' eo =>
   kk c o (fun z => hc' (by simp [z])) (fun z => hc' (by simp [z])) (fun z => hc' (by simp [z])) (fun z => hc' (by simp [z])) eo
  have sub : ∀ c ∈ [n + 4,n + 3,n,n + 1],c ∈ [n + 4,n + 2,n + 3,n,n + 1]:=fun c hc' => by
   simp only [List.mem_cons,List.not_mem_nil,or_false] at hc' ⊢
   rcases hc' with z | z | z | z <;> subst z <;> simp
  have th1 : ∀ c ∈ [n + 4,n + 3,n,n + 1],∃ o,h'.get? c = some o:=fun c hc' => by
   simp only [List.mem_cons,List.not_mem_nil,or_false] at hc'
   rcases hc' with z | z | z | z <;> subst z
   ·exact ⟨_,a1⟩
   ·exact ⟨_,a2⟩
   ·obtain ⟨o,e,_⟩:=a3; exact ⟨o,e⟩
   ·obtain ⟨o,e,_⟩:=a4; exact ⟨o,e⟩
  have I1 : Inv X pins σ (upd H s.heap.objs.size (.tup [x,y])) { s with heap:=h' } :=
   I.turnedNew (t':=s.toks) k1 (fun c hc' => hf c (sub c hc')) th1 (Nat.le_refl _) ⟨zaO,_,.cons ru (.cons rv .nil),zbU a5⟩
  refine ⟨_,rfl,wpAny_letOwnedTupleGo_zip a1 fun h'' hz'' hs'' => ?_⟩
  have fr : ∀ c ∈ [n + 4,n + 2,n + 3,n,n + 1],upd H s.heap.objs.size (.tup [x,y]) c = none:=fun c hc' => by
   have hlt : c < s.heap.objs.size:=by
    simp only [List.mem_cons,List.not_mem_nil,or_false] at hc'
    rcases hc' with z | z | z | z | z <;> subst z <;> omega
   rw [zo (Nat.ne_of_lt hlt)]
   exact (hf c hc').1
  have I2 : Inv X pins σ (upd H s.heap.objs.size (.tup [x,y])) { s with heap:=h'' } :=
   Inv.turnedL (s:={ s with heap:=h' }) (ch:=[n + 4]) (t':=s.toks) I1 (fun c o hc' eo => hs''.extBut c o (by simpa using hc') eo) (fun c hc' => by
    have z : c = n + 4:=by simpa using hc'
    subst z
    exact ⟨fr _ (by simp),(hf _ (by simp)).2⟩) (fun c hc' => by
    have z : c = n + 4:=by simpa using hc'
    subst z
    exact ⟨_,hz''⟩)
  refine ⟨.ref s.heap.objs.size,_,I2,rfl,⟨_,x,y,I.fresh,rfl,rfl,fun zs hz => by rw [I.list_inj hz hq1]; exact hx,fun zs hz => by rw [I.list_inj hz hq2]; exact hy⟩,
   ⟨hz'',hs''.extBut _ _ (zipApart_new ha hb).TIz (kk _ _ (zipApart_new ha hb).TIz (zipApart_new ha hb).TITO (zipApart_new ha hb).TIi1 (zipApart_new ha hb).TIi2 h2),⟨_,_,hs''.extBut _ _ (zipApart_new ha hb).TOz a2⟩,a3.extBut hs''.extBut (zipApart_new ha hb).i1z,a4.extBut hs''.extBut (zipApart_new ha hb).i2z⟩,fr⟩
 done:=by
  intro X hP hw hK hc i pins s σ H E I hf st hg
  subst hP hw hK
  obtain ⟨xs,ys,hq1,hq2,hx⟩:=hg
  obtain ⟨h1,h2,⟨u0,v0,h3⟩,h4,h5⟩:=st
  obtain ⟨its1,rv1,p1,hz1⟩:=I.list hq1
  obtain ⟨its2,rv2,p2,hz2⟩:=I.list hq2
  have hl1:=rv1.length
  have hl2:=rv2.length
  refine wpAny_pyNext_zip_end (I.ok.hd hc) (zipApart_new ha hb) h1 h2 h3 h4 h5 p1.isList p2.isList ?_ fun h' kk => ⟨rfl,?_⟩
  ·rcases hx with z | z
   ·exact .inl (by simp; omega)
   ·exact .inr (by simp; omega)
  ·have hth : ∀ c ∈ [n + 4,n + 3,n,n + 1],c ∈ [n + 4,n + 2,n + 3,n,n + 1]:=fun c hc' => by
    simp only [List.mem_cons,List.not_mem_nil,or_false] at hc' ⊢
    rcases hc' with z | z | z | z <;> subst z <;> simp
   refine I.step (g':=s.gens) (d':=s.drawn) (t':=s.toks) (ch:=[n + 4,n + 3,n,n + 1]) (fun c hc' => ?_) (fun c o _ _ hcc e _ => kk c o (fun z => hcc (by simp [z])) (fun z => hcc (by simp [z])) (fun z => hcc (by simp [z])) (fun z => hcc (by simp [z])) e)
    (fun c o _ _ hcc e _ => ⟨o.slots,kk c o (fun z => hcc (by simp [z])) (fun z => hcc (by simp [z])) (fun z => hcc (by simp [z])) (fun z => hcc (by simp [z])) e⟩) (fun _ _ _ _ n => n)
    (fun c o hcc e => ⟨o,kk c o (fun z => hcc (by simp [z])) (fun z => hcc (by simp [z])) (fun z => hcc (by simp [z])) (fun z => hcc (by simp [z])) e⟩) (fun _ _ e => e) (fun _ _ _ e => e) (fun c ps e => ⟨#[],by rw [e]; simp⟩) (fun m hm => ?_) (fun c u e => ?_) I.bare
   ·obtain ⟨_,a1,_,a3,a4,a5⟩:=hf c (hth c hc')
    exact ⟨a3,a1,a4,a5⟩
   ·obtain ⟨o,es',ep,ho,r⟩:=hm
    have ne : ∀ c ∈ [n + 4,n + 2,n + 3,n,n + 1],X.env.locals ≠ c:=fun c hc' => Ne.symm (hf c hc').2.1
    exact ⟨o,es',ep,kk _ o (ne _ (by simp)) (ne _ (by simp)) (ne _ (by simp)) (ne _ (by simp)) ho,r⟩
   ·have nit : ∀ d u',H d = some u' → ∀ c ∈ [n + 4,n + 2,n + 3,n,n + 1],d ≠ c:=fun d u' e' c hc' z => by rw [z,(hf c hc').1] at e'; cases e'
    refine (I.hok c u e).stay (fun d v' hd q => kk d v' ?_ ?_ ?_ ?_ q) (fun _ q => q) fun _ _ q => q
    all_goals
     rcases hd with z | z
     ·rw [z]; exact nit c u e _ (by simp)
     ·exact nit d _ z _ (by simp)
 self:=fun _ _ _ _ _ st h => wpAny_pyIter_zip st.1 h
def iZp (Sq1 Sq2 : Hp → Addr → List V → Prop) (ta : TA) : TI:=fun σ H R => ta σ H fun vs H1 => ∃ a b xs ys,vs = [.ref a,.ref b] ∧ Sq1 H1 a xs ∧ Sq2 H1 b ys ∧ R (zfM Sq1 Sq2 a b) H1
theorem zcu {X : Cx} {es : List Expr} {k : Nat} {tpos p pos : Pos} {a b : Expr} {ta : TA} (hg : Gl X "zip") (hm : X.mg "zip" = none) (ha : PA X [a,b] ta) (hs : starEach [a,b] X.env = [(false,eval a X.env),(false,eval b X.env)]:=by rfl) (hs2 : starEach [b] X.env = [(false,eval b X.env)]:=by rfl) :
  PI X (.Tuple es k tpos) (.Call (.Name "zip" p) [a,b] [] pos) (iZp (SqL X.K) (SqL X.K) ta):=by
 intro pins s σ H R I h
 refine Call_ (zbd I hg hm boot_zip (PyProof.Rows.callWith_type1 (thn (ha pos pins s σ H _ I h) fun us s1 ⟨vs,H1,I1,r1,q1⟩ => ?_) (by rw [hs,hs2]) (by rw [hs2]; rfl)))
 obtain ⟨l1,l2,xs,ys,e,hq1,hq2,q⟩:=q1
 subst e
 cases r1 with
 | cons r rr =>
  cases rr with
  | cons r' rr =>
   cases rr
   cases r
   cases r'
   obtain ⟨its1,rv1,pl1,hz1⟩:=I1.list hq1
   obtain ⟨its2,rv2,pl2,hz2⟩:=I1.list hq2
   have hlt1 : l1 < s1.heap.objs.size:=by obtain ⟨_,_,e,_⟩:=pl1; exact Heap.lt_size e
   have hlt2 : l2 < s1.heap.objs.size:=by obtain ⟨_,_,e,_⟩:=pl2; exact Heap.lt_size e
   refine call_zip_2 pl1.isList pl2.isList fun h' b1 b2 b3 b4 b5 b6 kk => ?_
   have I2 : Inv X pins σ H1 { s1 with heap:=h' }:=I1.kept (t':=s1.toks) kk
   refine wpAny_pyIter_zip b1 ?_
   refine ⟨_,_,_,zfM (SqL X.K) (SqL X.K) l1 l2,H1,rfl,I2,zfN l1 l2 s1.heap.objs.size hlt1 hlt2,⟨b1,b2,⟨_,_,b3⟩,b4,b5⟩,fun c hc => ?_,q⟩
   have hle : s1.heap.objs.size ≤ c:=by
    simp only [List.mem_cons,List.not_mem_nil,or_false] at hc
    rcases hc with z | z | z | z | z <;> subst z <;> omega
   exact I1.fpOk hle (I1.hok.fresh hle)
def zd7 (Sq : Hp → Addr → List V → Prop) (a : Addr) (n : Nat) : It :=
 ⟨fun i H => i < n ∧ ∃ xs,Sq H a xs ∧ xs.length = n,fun i H x H' => H' = H ∧ ∀ xs,Sq H a xs → xs[n - 1 - i]? = some x,fun i H => n ≤ i⟩
theorem zfO {P : Program} {w : World} {K : PySem.W.Frag} {tg : Expr} (a it : Addr) (n : Nat) : Turn P w K tg (zd7 (SqL K) a n) [it] it (fun i h => i ≤ n ∧ h.IsRevIter it a ((n : Int) - 1 - (i : Int))) where
 mem:=by simp
 obj:=fun i h st b hb => by
  have z : b = it:=by simpa using hb
  subst z
  obtain ⟨_,o,e,c,d⟩:=st
  exact ⟨o,e,fun v z => by rw [d] at z; cases z⟩
 keep:=fun i h h' st k => ⟨st.1,st.2.at fun o e => k it (by simp) o e⟩
 item:=by
  intro X hP hw hK hc i pins s σ H E I hf st hg
  subst hP hw hK
  obtain ⟨hin,xs,hq,hl⟩:=hg
  obtain ⟨its,rv,p,hz⟩:=I.list hq
  have hlen:=rv.length
  obtain ⟨x,hx⟩ : ∃ x,xs[n - 1 - i]? = some x:=⟨xs[n - 1 - i]'(by omega),by simp⟩
  obtain ⟨u,hu,ru⟩:=rv.get hx
  obtain ⟨f0,f1,f2,f3,f4,f5⟩:=hf it (by simp)
  have e : (n : Int) - 1 - (i : Int) = ((n - 1 - i : Nat) : Int):=by omega
  have hit:=st.2
  rw [e] at hit
  refine wpAny_pyNext_rev_item hit p.isList (x:=u) (by simpa using hu) fun h' st' sb => ?_
  have I1 : Inv X pins σ H { s with heap:=h' }:=I.turned (t':=s.toks) (fun b o hb e => (sb.2 b hb).trans e) f0 f1 f3 f4 f5
  have e2 : ((n - 1 - i : Nat) : Int) - 1 = (n : Int) - 1 - ((i + 1 : Nat) : Int):=by omega
  rw [e2] at st'
  obtain ⟨o,eo,c,d⟩:=id st'
  exact ⟨u,rfl,zd4 (s:={ s with heap:=h' }) eo c d (by decide) ⟨x,H,I1,ru,⟨rfl,fun ys hy => by rw [I.list_inj hy hq]; exact hx⟩,⟨hin,st'⟩,fun b hb => (hf b hb).1⟩⟩
 done:=by
  intro X hP hw hK hc i pins s σ H E I hf st hg
  subst hP hw hK
  obtain ⟨f0,f1,f2,f3,f4,f5⟩:=hf it (by simp)
  have hin : n ≤ i:=hg
  have e : (n : Int) - 1 - (i : Int) = -1:=by have:=st.1; omega
  have hit:=st.2
  rw [e] at hit
  exact wpAny_pyNext_rev_end (I.ok.hd hc) hit fun h' eb => ⟨rfl,I.turned (t':=s.toks) (fun b o hb e => eb b o hb e) f0 f1 f3 f4 f5⟩
 self:=fun _ _ _ _ _ st h => wpAny_pyIter_revIter st.2 h
end L2
end
section
set_option maxHeartbeats 3999000
namespace PySem
namespace F
theorem zdw : Manifest.owners.lookup (String.ofList ['d','e','s','r','e','v','e','r'].reverse) = some Manifest.sig_reversed:=by kernel_rfl
theorem slot_rvd_next : Slot "reversed" "__next__" "reversed.__next__" :=
 .of (owner:="reversed") (n:="__next__") (by rw [typeLookup_type,builtinLookup_eq_fast]; kernel_rfl) (by decide +kernel) (by decide +kernel) (by decide +kernel) (by first | exact .inl (by decide +kernel) | exact .inr (by decide +kernel)) (by rw [isSubtype_type]; kernel_rfl)
theorem entry_rvd_next : entryFor table "reversed.__next__" = some Builtin.«reversed.__next__»:=entryFor_of_tree (by kernel_rfl)
theorem args_rvd_next_1 (a : Value) : argsOk "reversed.__next__" ⟨[a],[]⟩:=by
 unfold argsOk; rw [signature?_of (id:="reversed.__next__") (n:=['_','_','t','x','e','n','_','_']) (o:=['d','e','s','r','e','v','e','r']) (by kernel_rfl) zdw]; kernel_rfl
theorem slot_rvd_iter : Slot "reversed" "__iter__" "reversed.__iter__" :=
 .of (owner:="reversed") (n:="__iter__") (by rw [typeLookup_type,builtinLookup_eq_fast]; kernel_rfl) (by decide +kernel) (by decide +kernel) (by decide +kernel) (by first | exact .inl (by decide +kernel) | exact .inr (by decide +kernel)) (by rw [isSubtype_type]; kernel_rfl)
theorem args_rvd_iter_1 (a : Value) : argsOk "reversed.__iter__" ⟨[a],[]⟩:=by
 unfold argsOk; rw [signature?_of (id:="reversed.__iter__") (n:=['_','_','r','e','t','i','_','_']) (o:=['d','e','s','r','e','v','e','r']) (by kernel_rfl) zdw]; kernel_rfl
theorem entry_rvd_iter : entryFor table "reversed.__iter__" = some Builtin.«dict_keyiterator.__iter__»:=entryFor_alias (id':="dict_keyiterator.__iter__") (by kernel_rfl) (by first | rfl | decide +kernel | (unfold String.splitOn; simp +decide [String.splitOnAux])) (by decide +kernel) (by kernel_rfl)
theorem zda : Slot "reversed" "__init__" "object.__init__":=.of (owner:="object") (n:="__init__") (by rw [typeLookup_type,builtinLookup_eq_fast]; kernel_rfl) (by decide +kernel) (by decide +kernel) (by decide +kernel) (by first | exact .inl (by decide +kernel) | exact .inr (by decide +kernel)) (by rw [isSubtype_type]; kernel_rfl)
theorem called_rvd : TypeCalled "reversed" "reversed.__new__" "object.__init__" :=
 ⟨by decide +kernel,by decide +kernel,⟨_,_,mro_reversed⟩,made_reversed,by decide +kernel,by rw [isSubtype_type]; kernel_rfl,zda⟩
theorem noRev_tuple : typeLookup (.type "tuple") "__reversed__" = pure none:=by rw [typeLookup_type,builtinLookup_eq_fast]; kernel_rfl
end F
def zdO (l : Addr) (i : Int) : Obj:={ cls:=.type "reversed",data:=.fields #[.ref l,rawInt i] }
def Heap.IsRvd (h : Heap) (a l : Addr) (i : Int) : Prop:=∃ o,h.get? a = some o ∧ o.cls = .type "reversed" ∧ o.data = .fields #[.ref l,rawInt i]
theorem Heap.IsRvd.typeIs {s : Shared} {a l : Addr} {i : Int} (x : s.heap.IsRvd a l i) : s.TypeIs (.ref a) "reversed":=let ⟨o,ho,hc,_⟩:=x; ⟨o,ho,hc⟩
theorem Heap.IsRvd.at {h h' : Heap} {a l : Addr} {i : Int} (x : h.IsRvd a l i) (e : ∀ o,h.get? a = some o → h'.get? a = some o) : h'.IsRvd a l i:=let ⟨o,ho,r⟩:=x; ⟨o,e _ ho,r⟩
open PyProof.Rows in
theorem zdb (l : Addr) (items : Array Value) :
  Meets (Builtin.«reversed.__new__» ⟨[.type "reversed",.ref l],[]⟩) (fun _ R s => IsTup s.heap l items ∧ (items.size : Int) < 2 ^ 63 ∧
   R (.ok (.ret (.ref s.heap.objs.size))) { s with heap:=s.heap.push (zdO l ((items.size : Int) - 1)),toks:=s.toks + 1 + 1 }) :=
 .of_wp fun prog w A R s h => by
  obtain ⟨hl,hsz,h⟩:=h
  unfold Builtin.«reversed.__new__»; refine wpAny_bind (wpAny_of_eq (newClass_reversed _) ?_)
  try dsimp only
  iterate 2 refine wpAny_bind (wpAny_of_eq (a:=()) (by first | rfl | kernel_rfl) ?_)
  try dsimp only
  refine wpAny_bind (wpAny_specialOf hl.typeIs F.noRev_tuple ?_)
  try dsimp only
  refine wpAny_bind (wpAny_bind (m:=isInstance (.ref l) (.type "dict")) (wpAny_isInstance hl.typeIs F.sub_tuple_dict ?_))
  simp only [Bool.false_eq_true,if_false]; refine wpAny_bind (m:=specialOf (.ref l) "__getitem__") (wpAny_specialOf hl.typeIs slot_tuple_getitem.lookup ?_)
  refine wpAny_pure ?_
  try dsimp only
  try simp only [Bool.not_true,Bool.false_eq_true,if_false]
  refine wpAny_bind (len_tuple hl hsz ?_)
  refine wpAny_bind (m:=asInt? _) (wpAny_of_eq (a:=some (items.size : Int)) rfl ?_)
  try dsimp only
  refine wpAny_bind (m:=Builtin.SmallTypes.newRecord _ _) ?_
  show wpAny _ _ (newObj (.type "reversed") (.fields #[.ref l,rawInt ((items.size : Int) - 1)]) none) _ _ _
  refine wpAny_newObj_type ?_
  exact wpAny_pure ⟨_,rfl,h⟩
section
variable {prog : Program} {w : World} {A : Around} {E : Value → Shared → Prop} {s : Shared}
open PyProof.Rows
theorem zcQ {l : Addr} {items : Array Value} {Q : Value → Shared → Prop} (hl : IsTup s.heap l items) (hsz : (items.size : Int) < 2 ^ 63)
  (h : Q (.ref s.heap.objs.size) { s with heap:=s.heap.push (zdO l ((items.size : Int) - 1)),toks:=s.toks + 1 + 1 }) : wpAny (model prog w) A (call (.type "reversed") [.ref l]) Q E s:=by
 refine callType_new F.called_rvd (by decide) (F.typeCall_reversed_1 _) (F.newCall_reversed_1 _) (fun obj => F.args_object_init_2 obj _) F.entry_reversed_new (zdb l items) ⟨hl,hsz,?_⟩; exact ⟨⟨_,Heap.get?_push_size _ rfl,rfl⟩,h⟩
theorem zbo {it l : Addr} {i : Nat} {items : Array Value} {x : Value} {Q : Option Value → Shared → Prop} (hit : s.heap.IsRvd it l (i : Int)) (hl : IsTup s.heap l items) (hx : items[i]? = some x) (hi : (i : Int) < 2 ^ 62)
  (hQ : ∀ h',h'.IsRvd it l ((i : Int) - 1) → Heap.SameBut it s.heap h' → Q (some x) { s with heap:=h',toks:=s.toks + 1 }) : wpAny (model prog w) A (pyNext (.ref it)) Q E s:=by
 obtain ⟨o,ho,hc,hd⟩:=id hit; unfold pyNext
 refine wpAny_bind (wpAny_attempt (wpAny_callSpecial?_slot (name:=Str.ofString "__next__") hit.typeIs F.slot_rvd_next
  (wpAny_call_entry F.slot_rvd_next hit.typeIs F.entry_rvd_next ?_ (F.args_rvd_next_1 _))))
 unfold Builtin.«reversed.__next__»
 refine wpAny_bind (wpAny_of_eq (a:=(Value.ref it,[])) rfl ?_); try dsimp only
 refine wpAny_bind (wpAny_field ho hd (x:=.ref l) rfl ?_); refine wpAny_bind (wpAny_field ho hd (x:=rawInt (i : Int)) rfl ?_)
 show wpAny _ _ (if (i : Int) < 0 then _ else _) _ _ s; rw [if_neg (by omega)]
 refine wpAny_bind (wpAny_specialOf hl.typeIs slot_tuple_getitem.lookup ?_)
 try simp only [Option.isNone_some,Bool.false_eq_true,if_false]
 refine wpAny_bind (wpAny_mkInt ?_); have hlt : i < items.size:=by
  obtain ⟨h1,_⟩:=Array.getElem?_eq_some_iff.mp hx
  exact h1
 refine wpAny_bind (wpAny_attempt (getItem_tuple (j:=i) hl (by omega) (by omega) (by rw [seqIndex_of (by omega) (by omega)]; simp) hx ?_))
 try dsimp only
 refine wpAny_bind (wpAny_field (s:={ s with toks:=s.toks + 1 }) ho hd (x:=rawInt (i : Int)) rfl ?_)
 show wpAny _ _ (setField (.ref it) 1 (rawInt ((i : Int) - 1)) >>= _) _ _ _
 refine wpAny_bind (wpAny_setField (s:={ s with toks:=s.toks + 1 }) ho hd (by simp) (wpAny_pure ⟨x,rfl,wpAny_pure (hQ _ ?_ (Heap.SameBut.update ..))⟩))
 exact ⟨_,Heap.get?_update_self _ ho (Obj.isFreed_of_fields (Obj.data_mapFields hd _)),(Obj.cls_mapFields ..).trans hc,by rw [Obj.data_mapFields hd]; simp⟩
theorem zbv {it l : Addr} {Q : Option Value → Shared → Prop} (hh : A.handled = none) (hit : s.heap.IsRvd it l (-1)) (hQ : ∀ h',Heap.ExtBut it s.heap h' → Q none { s with heap:=h' }) : wpAny (model prog w) A (pyNext (.ref it)) Q E s:=by
 obtain ⟨o,ho,hc,hd⟩:=id hit; unfold pyNext
 refine wpAny_bind (wpAny_attempt (wpAny_callSpecial?_slot (name:=Str.ofString "__next__") hit.typeIs F.slot_rvd_next
  (wpAny_call_entry F.slot_rvd_next hit.typeIs F.entry_rvd_next ?_ (F.args_rvd_next_1 _))))
 unfold Builtin.«reversed.__next__»
 refine wpAny_bind (wpAny_of_eq (a:=(Value.ref it,[])) rfl ?_); try dsimp only
 refine wpAny_bind (wpAny_field ho hd (x:=.ref l) rfl ?_); refine wpAny_bind (wpAny_field ho hd (x:=rawInt (-1)) rfl ?_)
 show wpAny _ _ (if (-1 : Int) < 0 then _ else _) _ _ s; rw [if_pos (by decide)]
 refine wpAny_bind (wpAny_rule ?_)
 refine wpAny_bind (wpAny_bind (m:=setField (.ref it) 1 (rawInt (-1))) (wpAny_setField ho hd (by simp) ?_))
 have hd2:=Obj.data_mapFields hd (·.setIfInBounds 1 (rawInt (-1)))
 have ho2:=Heap.get?_update_self (Obj.mapFields (·.setIfInBounds 1 (rawInt (-1)))) ho (Obj.isFreed_of_fields hd2)
 refine wpAny_setField ho2 hd2 (by simp) ?_
 try dsimp only
 refine wpAny_bind ?_; show wpAny _ _ (newExc (.type "StopIteration") [] >>= _) _ _ _
 refine wpAny_bind ?_
 simp only [newExc,newTuple]
 refine wpAny_bind (wpAny_newObj_type ?_ (by size_fits)); refine wpAny_bind (m:=firstArgMember _ _) (wpAny_of_eq (a:=Value.none) (by first | rfl | (simp only [firstArgMember]; rfl)) ?_)
 refine wpAny_newObj_type ?_ (by size_fits); simp only [raiseNew]
 refine wpAny_bind (wpAny_handled ?_); first | rw [show A.in1.handled = none from hh] | rw [hh]
 refine wpAny_bind (wpAny_pure (wpAny_throw ?_)); refine wpAny_bind (wpAny_isInstance (T:="StopIteration") (b:=true) ⟨_,Heap.get?_push_size _ rfl,rfl⟩ isSubtype_stop ?_)
 exact wpAny_pure (hQ _ ((((Heap.SameBut.update ..).extBut.trans (Heap.SameBut.update ..).extBut).push _).push _))
theorem zba {it l : Addr} {i : Int} {Q : Value → Shared → Prop} (hit : s.heap.IsRvd it l i) (h : Q (.ref it) s) : wpAny (model prog w) A (pyIter (.ref it)) Q E s:=by
 refine wpAny_pyIter_slot hit.typeIs F.slot_rvd_iter (wpAny_call_entry F.slot_rvd_iter hit.typeIs F.entry_rvd_iter ?_ (F.args_rvd_iter_1 _))
 show wpAny _ _ (ret (.ref it)) _ _ s; exact wpAny_pure ⟨_,rfl,"reversed",_,hit.typeIs,F.slot_rvd_next.lookup,h⟩
end
end PySem
namespace PySem
section
variable {prog : Program} {w : World} {A : Around} {E : Value → Shared → Prop} {s : Shared}
theorem zd8 {it t : Addr} {i : Nat} {items : Array Value} {x : Value} {Q : Value → Shared → Prop} (hit : s.heap.IsTupleIter it t i) (ht : s.heap.IsTuple t items) (hx : items[i]? = some x)
  (hQ : ∀ h',h'.IsTupleIter it t (i + 1) → Heap.SameBut it s.heap h' → Q x { s with heap:=h' }) : wpAny (model prog w) A (Builtin.SmallTypes.nextOf (.ref it)) Q E s:=by
 obtain ⟨o,ho,hc,hd⟩:=id hit; obtain ⟨ot,hot,_,nt,hdt⟩:=ht
 unfold Builtin.SmallTypes.nextOf; refine wpAny_bind (wpAny_callSpecial?_slot (name:=Str.ofString "__next__") hit.typeIs F.slot_tuple_iterator_next (wpAny_call_entry F.slot_tuple_iterator_next hit.typeIs F.entry_tuple_iterator_next ?_ (F.args_tuple_iterator_next_1 _)))
 show wpAny _ _ (field (.ref it) 0 >>= _) _ _ s; refine wpAny_bind (wpAny_field ho hd (x:=.ref t) rfl ?_); show wpAny _ _ (if (Value.ref t == Value.none) = true then _ else _) _ _ _; rw [if_neg (by exact Bool.false_ne_true)]
 refine wpAny_bind (wpAny_field ho hd (x:=.int _ 0) rfl ?_); refine wpAny_bind (m:=seqItems? _) (wpAny_seqItems hot hdt ?_); simp only [Int.toNat_natCast,hx]
 have hn:=Heap.get?_update_self (Obj.mapFields (·.setIfInBounds 1 (rawInt ((i + 1 : Nat) : Int)))) ho (Obj.isFreed_of_fields (Obj.data_mapFields hd _))
 refine wpAny_bind (wpAny_setField ho hd (by simp) (wpAny_pure ⟨x,rfl,wpAny_pure (hQ _ ⟨_,hn,(Obj.cls_mapFields ..).trans hc,?_⟩ (Heap.SameBut.update ..))⟩)); rw [Obj.data_mapFields hd]; simp [rawInt]
theorem zd9 {it t : Addr} {i : Nat} {items : Array Value} {Q : Value → Shared → Prop} (hh : A.handled = none) (hit : s.heap.IsTupleIter it t i) (ht : s.heap.IsTuple t items) (hx : items[i]? = none)
  (hE : ∀ h' e,Heap.ExtBut it s.heap h' → (∃ o,h'.get? e = some o ∧ o.cls = .type "StopIteration") → E (.ref e) { s with heap:=h' }) : wpAny (model prog w) A (Builtin.SmallTypes.nextOf (.ref it)) Q E s:=by
 obtain ⟨o,ho,hc,hd⟩:=id hit; obtain ⟨ot,hot,_,nt,hdt⟩:=ht
 unfold Builtin.SmallTypes.nextOf; refine wpAny_bind (wpAny_callSpecial?_slot (name:=Str.ofString "__next__") hit.typeIs F.slot_tuple_iterator_next (wpAny_call_entry F.slot_tuple_iterator_next hit.typeIs F.entry_tuple_iterator_next ?_ (F.args_tuple_iterator_next_1 _)))
 show wpAny _ _ (field (.ref it) 0 >>= _) _ _ s; refine wpAny_bind (wpAny_field ho hd (x:=.ref t) rfl ?_); show wpAny _ _ (if (Value.ref t == Value.none) = true then _ else _) _ _ _; rw [if_neg (by exact Bool.false_ne_true)]
 refine wpAny_bind (wpAny_field ho hd (x:=.int _ 0) rfl ?_); refine wpAny_bind (m:=seqItems? _) (wpAny_seqItems hot hdt ?_); simp only [Int.toNat_natCast,hx]
 refine wpAny_bind (wpAny_rule (wpAny_bind (wpAny_setField ho hd (by simp) ?_))); show wpAny _ _ (newExc (.type "StopIteration") [] >>= _) _ _ _; refine wpAny_bind ?_
 simp only [newExc,newTuple]; refine wpAny_bind (wpAny_newObj_type ?_ (by size_fits)); refine wpAny_bind (m:=firstArgMember _ _) (wpAny_of_eq (a:=Value.none) (by first | rfl | (simp only [firstArgMember]; rfl)) ?_)
 refine wpAny_newObj_type ?_ (by size_fits); simp only [raiseNew]; refine wpAny_bind (wpAny_handled ?_); first | rw [show A.in1.handled = none from hh] | rw [hh]
 refine wpAny_bind (wpAny_pure (wpAny_throw ?_)); exact hE _ _ (((Heap.SameBut.update ..).extBut.push _).push _) ⟨_,Heap.get?_push_size _ rfl,rfl⟩
end
theorem Draws.tuple {prog : Program} {w : World} {A : Around} (hh : A.handled = none) (it t : Addr) (hne : t ≠ it) (items : Array Value) : Draws prog w A it [it,t] items.size (fun i v => items[i]? = some v) (fun i h => h.IsTupleIter it t i ∧ h.IsTuple t items) where
 live:=fun i h st => st.1.imp fun o r => r.1
 frame:=fun i h h' st kk => ⟨st.1.at fun o => kk it (by simp) o,st.2.at fun o => kk t (by simp) o⟩
 item:=fun i s Q E hi st hQ => zd8 st.1 st.2 (x:=items[i]) (by simp [hi]) fun h' a b => hQ _ h' s.toks (by simp [hi]) ⟨a,st.2.extBut b.extBut hne⟩ b
 done:=fun s Q E st hE => zd9 hh st.1 st.2 (by simp) hE
def zbn (t : Addr) : Obj:={ cls:=.type "tuple_iterator",data:=.fields #[.ref t,.int 0 0] }
end PySem
namespace L2
open PySem PySem.Spec PyProof.Rows
theorem zfP {P : Program} {w : World} {K : PySem.W.Frag} {tg : Expr} (a it : Addr) (n : Nat) : Turn P w K tg (zd7 (SqT K) a n) [it] it (fun i h => i ≤ n ∧ h.IsRvd it a ((n : Int) - 1 - (i : Int))) where
 mem:=by simp
 obj:=fun i h st b hb => by
  have z : b = it:=by simpa using hb
  subst z
  obtain ⟨_,o,e,c,d⟩:=st
  exact ⟨o,e,fun v z => by rw [d] at z; cases z⟩
 keep:=fun i h h' st k => ⟨st.1,st.2.at fun o e => k it (by simp) o e⟩
 item:=by
  intro X hP hw hK hc i pins s σ H E I hf st hg
  subst hP hw hK
  obtain ⟨hin,xs,hq,hl⟩:=hg
  obtain ⟨its,rv,p,hz⟩:=I.tuple hq
  have hlen:=rv.length
  have hsl:=sizeLine_eq
  obtain ⟨x,hx⟩ : ∃ x,xs[n - 1 - i]? = some x:=⟨xs[n - 1 - i]'(by omega),by simp⟩
  obtain ⟨u,hu,ru⟩:=rv.get hx
  obtain ⟨f0,f1,f2,f3,f4,f5⟩:=hf it (by simp)
  have e : (n : Int) - 1 - (i : Int) = ((n - 1 - i : Nat) : Int):=by omega
  have hit:=st.2
  rw [e] at hit
  refine zbo hit p (x:=u) (by simpa using hu) (by omega) fun h' st' sb => ?_
  have I1 : Inv X pins σ H { s with heap:=h',toks:=s.toks + 1 }:=I.turned (t':=s.toks + 1) (fun b o hb e => (sb.2 b hb).trans e) f0 f1 f3 f4 f5
  have e2 : ((n - 1 - i : Nat) : Int) - 1 = (n : Int) - 1 - ((i + 1 : Nat) : Int):=by omega
  rw [e2] at st'
  obtain ⟨o,eo,c,d⟩:=id st'
  exact ⟨u,rfl,zd4 (s:={ s with heap:=h',toks:=s.toks + 1 }) eo c d (by decide) ⟨x,H,I1,ru,⟨rfl,fun ys hy => by rw [I.tuple_inj hy hq]; exact hx⟩,⟨hin,st'⟩,fun b hb => (hf b hb).1⟩⟩
 done:=by
  intro X hP hw hK hc i pins s σ H E I hf st hg
  subst hP hw hK
  obtain ⟨f0,f1,f2,f3,f4,f5⟩:=hf it (by simp)
  have hin : n ≤ i:=hg
  have e : (n : Int) - 1 - (i : Int) = -1:=by have:=st.1; omega
  have hit:=st.2
  rw [e] at hit
  exact zbv (I.ok.hd hc) hit fun h' eb => ⟨rfl,I.turned (t':=s.toks) (fun b o hb e => eb b o hb e) f0 f1 f3 f4 f5⟩
 self:=fun _ _ _ _ _ st h => zba st.2 h
theorem zdP {X : Cx} {tg : Expr} {pins : List (Addr × Obj)} {σ : St} {H1 : Hp} {s1 : Shared} {R : It → Hp → Prop} {l : Addr} {xs : List V} (I1 : Inv X pins σ H1 s1) (hq : SqT X.K H1 l xs) (q : R (zd7 (SqT X.K) l xs.length) H1) :
  wpAny (model X.prog X.w) X.A (call (.type "reversed") [.ref l]) (fun v s2 => wpAny (model X.prog X.w) X.A (pyIter v) (PIE X pins σ tg R) X.xe s2) X.xe s1:=by
 obtain ⟨its,rv,pl,hz⟩:=I1.tuple hq
 have hlen:=rv.length
 have hsl:=sizeLine_eq
 refine zcQ pl (by rw [List.size_toArray]; omega) ?_
 have I2 : Inv X pins σ H1 { s1 with heap:=s1.heap.push (zdO l ((its.toArray.size : Int) - 1)),toks:=s1.toks + 1 + 1 }:=I1.kept fun b o e => Heap.get?_push_of_some _ e
 have hr : (s1.heap.push (zdO l ((its.toArray.size : Int) - 1))).IsRvd s1.heap.objs.size l ((xs.length : Int) - 1 - ((0 : Nat) : Int)):=by
  refine ⟨_,Heap.get?_push_size _ rfl,rfl,?_⟩
  have e1 : (its.toArray.size : Int) - 1 = (xs.length : Int) - 1 - ((0 : Nat) : Int):=by rw [List.size_toArray,hlen]; omega
  show Data.fields #[.ref l,rawInt ((its.toArray.size : Int) - 1)] = _
  rw [e1]
 refine zba hr ?_
 refine ⟨_,[s1.heap.objs.size],_,zd7 (SqT X.K) l xs.length,H1,rfl,I2,zfP l s1.heap.objs.size xs.length,⟨Nat.zero_le _,hr⟩,fun b hb => ?_,q⟩
 have z : b = s1.heap.objs.size:=by simpa using hb
 subst z
 exact I1.fpOk (Nat.le_refl _) (I1.hok.fresh (Nat.le_refl _))
theorem zea {X : Cx} {tg : Expr} {pins : List (Addr × Obj)} {σ : St} {H1 : Hp} {s1 : Shared} {R : It → Hp → Prop} {l : Addr} {xs : List V} (I1 : Inv X pins σ H1 s1) (hq : SqL X.K H1 l xs) (q : R (zd7 (SqL X.K) l xs.length) H1) :
  wpAny (model X.prog X.w) X.A (call (.type "reversed") [.ref l]) (fun v s2 => wpAny (model X.prog X.w) X.A (pyIter v) (PIE X pins σ tg R) X.xe s2) X.xe s1:=by
 obtain ⟨its,rv,pl,hz⟩:=I1.list hq
 have hlen:=rv.length
 refine call_reversed_list pl.isList ?_
 have I2 : Inv X pins σ H1 { s1 with heap:=s1.heap.push (revObj l ((its.toArray.size : Int) - 1)) }:=I1.kept (t':=s1.toks) fun b o e => Heap.get?_push_of_some _ e
 have hr : (s1.heap.push (revObj l ((its.toArray.size : Int) - 1))).IsRevIter s1.heap.objs.size l ((xs.length : Int) - 1 - ((0 : Nat) : Int)):=by
  refine ⟨_,Heap.get?_push_size _ rfl,rfl,?_⟩
  have e1 : (its.toArray.size : Int) - 1 = (xs.length : Int) - 1 - ((0 : Nat) : Int):=by rw [List.size_toArray,hlen]; omega
  show Data.fields #[.ref l,rawInt ((its.toArray.size : Int) - 1)] = _
  rw [e1]
 refine wpAny_pyIter_revIter hr ?_
 refine ⟨_,[s1.heap.objs.size],_,zd7 (SqL X.K) l xs.length,H1,rfl,I2,zfO l s1.heap.objs.size xs.length,⟨Nat.zero_le _,hr⟩,fun b hb => ?_,q⟩
 have z : b = s1.heap.objs.size:=by simpa using hb
 subst z
 exact I1.fpOk (Nat.le_refl _) (I1.hok.fresh (Nat.le_refl _))
def zjT (K : PySem.W.Frag) (ta : TA) : TI:=fun σ H R => ta σ H fun vs H1 => ∃ a xs,vs = [.ref a] ∧ ((SqL K H1 a xs ∧ R (zd7 (SqL K) a xs.length) H1) ∨ (SqT K H1 a xs ∧ R (zd7 (SqT K) a xs.length) H1))
theorem ziA {X : Cx} {tg : Expr} {p pos : Pos} {a : Expr} {ta : TA} (hg : Gl X "reversed") (hm : X.mg "reversed" = none) (ha : PA X [a] ta) (hs : starEach [a] X.env = [(false,eval a X.env)]:=by rfl) :
  PI X tg (.Call (.Name "reversed" p) [a] [] pos) (zjT X.K ta):=by
 intro pins s σ H R I h
 refine Call_ (zbd I hg hm boot_reversed (PyProof.Rows.callWith_type1 (thn (ha pos pins s σ H _ I h) fun us s1 ⟨vs,H1,I1,r1,q1⟩ => ?_) hs rfl))
 obtain ⟨l,xs,e,hq⟩:=q1
 subst e
 cases r1 with
 | cons r rr =>
  cases rr
  cases r
  rcases hq with ⟨hq,q⟩ | ⟨hq,q⟩
  ·exact zea I1 hq q
  ·exact zdP I1 hq q
end L2
end
section
set_option maxHeartbeats 3999000
namespace L2
open PySem PySem.Spec PyProof.Rows
inductive EqD (K : PySem.W.Frag) (H : Hp) : Nat → V → V → Bool → Prop where
 | flat {d : Nat} {x y : V} (hx : zbt x = true) (hy : zbt y = true) : EqD K H d x y (eqV x y)
 | same {d : Nat} {a : Addr} : EqD K H d (.ref a) (.ref a) true
 | lists {d : Nat} {a b : Addr} {xs ys : List V} {e : Nat → Bool} (hne : a ≠ b) (ha : SqL K H a xs) (hb : SqL K H b ys) (hl : xs.length = ys.length)
   (he : ∀ (j : Nat) x y,xs[j]? = some x → ys[j]? = some y → EqD K H d x y (e j)) : EqD K H (d + 1) (.ref a) (.ref b) ((List.range xs.length).all e)
 | lens {d : Nat} {a b : Addr} {xs ys : List V} (hne : a ≠ b) (ha : SqL K H a xs) (hb : SqL K H b ys) (hl : xs.length ≠ ys.length) : EqD K H (d + 1) (.ref a) (.ref b) false
 | tups {d : Nat} {a b : Addr} {xs ys : List V} {e : Nat → Bool} (hne : a ≠ b) (ha : SqT K H a xs) (hb : SqT K H b ys)
   (he : ∀ (j : Nat) x y,xs[j]? = some x → ys[j]? = some y → EqD K H d x y (e j)) : EqD K H (d + 1) (.ref a) (.ref b) ((List.range (min xs.length ys.length)).all e && xs.length == ys.length)
theorem zC.getE {xs : List V} {us : List Value} (r : zC xs us) {j : Nat} (h : j < us.toArray.size) : ∃ x,xs[j]? = some x ∧ RelV x us.toArray[j]:=by
 have hl:=r.length
 have hj : j < xs.length:=by rw [hl]; simpa using h
 obtain ⟨u,hu,ru⟩:=r.get (i:=j) (x:=xs[j]) (by simp)
 refine ⟨xs[j],by simp,?_⟩
 have : us.toArray[j] = u:=by
  have h2 : j < us.length:=by simpa using h
  rw [List.getElem?_eq_getElem h2] at hu
  simpa using Option.some.inj hu
 rw [this]
 exact ru
theorem EqD.at {X : Cx} {pins : List (Addr × Obj)} {σ : St} {H : Hp} {s : Shared} (I : Inv X pins σ H s) {d : Nat} {x y : V} {b : Bool} (h : EqD X.K H d x y b) :
  ∀ (A : Around) (u v : Value),RelV x u → RelV y v → A.units + d < cLine → SeqAt.EqAt A s u v b:=by
 induction h with
 | flat hx hy => exact fun A u v rx ry _ => zgn rx ry hx hy
 | same => intro A u v rx ry _; cases rx; cases ry; exact SeqAt.EqAt.same _
 | lists hne ha hb hl he ih =>
  intro A u v rx ry hu
  cases rx; cases ry
  obtain ⟨is1,r1,p1,_⟩:=I.list ha
  obtain ⟨is2,r2,p2,_⟩:=I.list hb
  have l1:=r1.length
  have l2:=r2.length
  refine SeqAt.EqAt.of_refs hne ?_
  have q:=SeqAt.RcAt.lists (A:=A) p1.isList p2.isList (by simp only [List.size_toArray]; omega) (by omega) fun j h1 h2 => by
   obtain ⟨x,hx,rx⟩:=r1.getE h1
   obtain ⟨y,hy,ry⟩:=r2.getE h2
   exact ih j x y hx hy A.in1 _ _ rx ry (by simp only [Around.in1_units]; omega)
  rw [List.size_toArray,← l1] at q
  exact q
 | lens hne ha hb hl =>
  intro A u v rx ry hu
  cases rx; cases ry
  obtain ⟨is1,r1,p1,_⟩:=I.list ha
  obtain ⟨is2,r2,p2,_⟩:=I.list hb
  have l1:=r1.length
  have l2:=r2.length
  exact SeqAt.EqAt.of_refs hne (SeqAt.RcAt.lists_lengths p1.isList p2.isList (by simp only [List.size_toArray,bne_iff_ne]; omega) (by omega))
 | tups hne ha hb he ih =>
  intro A u v rx ry hu
  cases rx; cases ry
  obtain ⟨is1,r1,p1,_⟩:=I.tuple ha
  obtain ⟨is2,r2,p2,_⟩:=I.tuple hb
  have l1:=r1.length
  have l2:=r2.length
  refine SeqAt.EqAt.of_refs hne ?_
  have q:=SeqAt.RcAt.tuples (A:=A) (s:=s) p1 p2 (by omega) fun j h1 h2 => by
   obtain ⟨x,hx,rx⟩:=r1.getE h1
   obtain ⟨y,hy,ry⟩:=r2.getE h2
   exact ih j x y hx hy A.in1 _ _ rx ry (by simp only [Around.in1_units]; omega)
  rw [List.size_toArray,List.size_toArray,← l1,← l2] at q
  exact q
def ziB (K : PySem.W.Frag) (neg : Bool) : R2:=fun x y H Q => ∃ a b xs ys,x = .ref a ∧ y = .ref b ∧ ((SqL K H a xs ∧ SqL K H b ys) ∨ (SqT K H a xs ∧ SqT K H b ys)) ∧
 ((xs.length ≠ ys.length ∧ (∀ (j : Nat) x y,xs[j]? = some x → ys[j]? = some y → ∃ c,EqD K H 8 x y c) ∧ Q (.bl neg) H) ∨
  (xs.length = ys.length ∧ ∃ e : Nat → Bool,(∀ (j : Nat) x y,xs[j]? = some x → ys[j]? = some y → EqD K H 8 x y (e j)) ∧ Q (.bl (if neg then !(List.range xs.length).all e else (List.range xs.length).all e)) H))
theorem ziC {X : Cx} (hu : X.A.units + 20 < cLine) : OpR X (compareOp .Eq) (ziB X.K false):=by
 intro pins s σ H x y v u Q I rx ry h
 obtain ⟨a,b,xs,ys,rfl,rfl,hk,h⟩:=h
 cases rx; cases ry
 rcases hk with ⟨ha,hb⟩ | ⟨ha,hb⟩
 ·obtain ⟨is1,r1,p1,_⟩:=I.list ha
  obtain ⟨is2,r2,p2,_⟩:=I.list hb
  have l1:=r1.length
  have l2:=r2.length
  rcases h with ⟨hl,_,q⟩ | ⟨hl,e,he,q⟩
  ·exact SeqAt.RcAt.lists_lengths p1.isList p2.isList (by simp only [List.size_toArray,bne_iff_ne]; omega) (by omega) _ _ _ _ ⟨.bl false,H,I,rfl,q⟩
  ·refine SeqAt.RcAt.lists p1.isList p2.isList (e:=e) (by simp only [List.size_toArray]; omega) (by omega) (fun j h1 h2 => ?_) _ _ _ _ ⟨.bl _,H,I,rfl,?_⟩
   ·obtain ⟨x,hx,rx⟩:=r1.getE h1
    obtain ⟨y,hy,ry⟩:=r2.getE h2
    exact (he j x y hx hy).at I _ _ _ rx ry (by simp only [Around.in1_units]; omega)
   ·rw [List.size_toArray,← l1]
    exact q
 ·obtain ⟨is1,r1,p1,_⟩:=I.tuple ha
  obtain ⟨is2,r2,p2,_⟩:=I.tuple hb
  have l1:=r1.length
  have l2:=r2.length
  rcases h with ⟨hl,he,q⟩ | ⟨hl,e,he,q⟩
  ·have he' : ∀ j : Nat,∃ c : Bool,∀ x y,xs[j]? = some x → ys[j]? = some y → EqD X.K H 8 x y c:=fun j => by
    cases hx : xs[j]? with
    | none => exact ⟨true,fun x y z => by cases z⟩
    | some x =>
     cases hy : ys[j]? with
     | none => exact ⟨true,fun x y _ z => by cases z⟩
     | some y =>
      obtain ⟨c,hc⟩:=he j x y hx hy
      exact ⟨c,fun x' y' z1 z2 => by cases z1; cases z2; exact hc⟩
   obtain ⟨e,he''⟩:=Classical.axiomOfChoice he'
   refine SeqAt.RcAt.tuples (s:=s) p1 p2 (e:=e) (by omega) (fun j h1 h2 => ?_) _ _ _ _ ⟨.bl _,H,I,rfl,?_⟩
   ·obtain ⟨x,hx,rx⟩:=r1.getE h1
    obtain ⟨y,hy,ry⟩:=r2.getE h2
    exact (he'' j x y hx hy).at I _ _ _ rx ry (by simp only [Around.in1_units]; omega)
   ·have hb' : (is1.toArray.size == is2.toArray.size) = false:=by
     rw [List.size_toArray,List.size_toArray]; exact beq_eq_false_iff_ne.mpr (by omega)
    rw [hb',Bool.and_false]
    exact q
  ·refine SeqAt.RcAt.tuples (s:=s) p1 p2 (e:=e) (by omega) (fun j h1 h2 => ?_) _ _ _ _ ⟨.bl _,H,I,rfl,?_⟩
   ·obtain ⟨x,hx,rx⟩:=r1.getE h1
    obtain ⟨y,hy,ry⟩:=r2.getE h2
    exact (he j x y hx hy).at I _ _ _ rx ry (by simp only [Around.in1_units]; omega)
   ·have hb' : (is1.toArray.size == is2.toArray.size) = true:=by
     rw [List.size_toArray,List.size_toArray]; exact beq_iff_eq.mpr (by omega)
    have hmin : min is1.toArray.size is2.toArray.size = xs.length:=by rw [List.size_toArray,List.size_toArray]; omega
    rw [hb',Bool.and_true,hmin]
    exact q
theorem zeP {X : Cx} (hu : X.A.units + 20 < cLine) : OpR X (compareOp .NotEq) (ziB X.K true):=by
 intro pins s σ H x y v u Q I rx ry h
 obtain ⟨a,b,xs,ys,rfl,rfl,hk,h⟩:=h
 cases rx; cases ry
 rcases hk with ⟨ha,hb⟩ | ⟨ha,hb⟩
 ·obtain ⟨is1,r1,p1,_⟩:=I.list ha
  obtain ⟨is2,r2,p2,_⟩:=I.list hb
  have l1:=r1.length
  have l2:=r2.length
  rcases h with ⟨hl,_,q⟩ | ⟨hl,e,he,q⟩
  ·exact SeqAt.RcNeAt.lists_lengths p1.isList p2.isList (by simp only [List.size_toArray,bne_iff_ne]; omega) (by omega) _ _ _ _ ⟨.bl true,H,I,rfl,q⟩
  ·refine SeqAt.RcNeAt.lists p1.isList p2.isList (e:=e) (by simp only [List.size_toArray]; omega) (by omega) (fun j h1 h2 => ?_) _ _ _ _ ⟨.bl _,H,I,rfl,?_⟩
   ·obtain ⟨x,hx,rx⟩:=r1.getE h1
    obtain ⟨y,hy,ry⟩:=r2.getE h2
    exact (he j x y hx hy).at I _ _ _ rx ry (by simp only [Around.in1_units]; omega)
   ·rw [List.size_toArray,← l1]
    exact q
 ·obtain ⟨is1,r1,p1,_⟩:=I.tuple ha
  obtain ⟨is2,r2,p2,_⟩:=I.tuple hb
  have l1:=r1.length
  have l2:=r2.length
  rcases h with ⟨hl,he,q⟩ | ⟨hl,e,he,q⟩
  ·have he' : ∀ j : Nat,∃ c : Bool,∀ x y,xs[j]? = some x → ys[j]? = some y → EqD X.K H 8 x y c:=fun j => by
    cases hx : xs[j]? with
    | none => exact ⟨true,fun x y z => by cases z⟩
    | some x =>
     cases hy : ys[j]? with
     | none => exact ⟨true,fun x y _ z => by cases z⟩
     | some y =>
      obtain ⟨c,hc⟩:=he j x y hx hy
      exact ⟨c,fun x' y' z1 z2 => by cases z1; cases z2; exact hc⟩
   obtain ⟨e,he''⟩:=Classical.axiomOfChoice he'
   refine SeqAt.RcNeAt.tuples (s:=s) p1 p2 (e:=e) (by omega) (fun j h1 h2 => ?_) _ _ _ _ ⟨.bl _,H,I,rfl,?_⟩
   ·obtain ⟨x,hx,rx⟩:=r1.getE h1
    obtain ⟨y,hy,ry⟩:=r2.getE h2
    exact (he'' j x y hx hy).at I _ _ _ rx ry (by simp only [Around.in1_units]; omega)
   ·have hb' : (is1.toArray.size == is2.toArray.size) = false:=by
     rw [List.size_toArray,List.size_toArray]; exact beq_eq_false_iff_ne.mpr (by omega)
    rw [hb',Bool.and_false]
    exact q
  ·refine SeqAt.RcNeAt.tuples (s:=s) p1 p2 (e:=e) (by omega) (fun j h1 h2 => ?_) _ _ _ _ ⟨.bl _,H,I,rfl,?_⟩
   ·obtain ⟨x,hx,rx⟩:=r1.getE h1
    obtain ⟨y,hy,ry⟩:=r2.getE h2
    exact (he j x y hx hy).at I _ _ _ rx ry (by simp only [Around.in1_units]; omega)
   ·have hb' : (is1.toArray.size == is2.toArray.size) = true:=by
     rw [List.size_toArray,List.size_toArray]; exact beq_iff_eq.mpr (by omega)
    have hmin : min is1.toArray.size is2.toArray.size = xs.length:=by rw [List.size_toArray,List.size_toArray]; omega
    rw [hb',Bool.and_true,hmin]
    exact q
theorem zaP {X : Cx} : zbs X (.builtin "isinstance") (fun xs H Q => ∃ x t n b,xs = [x,.ty n] ∧ TyOf X.K H x t ∧ PySem.W.kitOne X.K t (.type n) = some b ∧ Q (.bl b) H):=by
 intro pins s σ H xs us Q I r h
 obtain ⟨x,t,n,b,rfl,ty,hk,q⟩:=h
 obtain ⟨u,u',rfl,rx,r2⟩:=vals2 r
 cases r2
 exact zfG I rx ty hk fun tk => ⟨.bl b,H,I.tok tk,rfl,q⟩
theorem zeb {X : Cx} : zbs X (.type "range") (fun xs H Q => ∃ j : Int,xs = [.int j] ∧ ∀ l,H l = none → Q (.ref l) (upd H l (.rng 0 j))):=by
 intro pins s σ H xs us Q I r h
 obtain ⟨j,rfl,q⟩:=h
 obtain ⟨u,rfl,t,rfl⟩:=vals1 r
 refine call_range_1 ?_
 exact ⟨.ref s.heap.objs.size,_,I.laid (o:=.rng 0 j) (fun b o e => Heap.get?_push_of_some _ e) (Nat.le_refl _) ⟨_,_,_,Heap.get?_push_size _ rfl⟩,rfl,q _ I.fresh⟩
def za6 (lo : Int) (n : Nat) : List Int:=(List.range n).map fun (i : Nat) => lo + (i : Int)
theorem zbS (lo : Int) (n : Nat) : (za6 lo n).length = n:=by simp [za6]
theorem zdc {acc : Array Value} {lo : Int} {n : Nat} (h : ItemsOf (fun i v => ∃ t,v = .int (lo + (i : Nat) * 1) t) acc n) : zC ((za6 lo n).map V.int) acc.toList:=by
 obtain ⟨hsz,hv⟩:=h
 have go : ∀ (us : List Value) (k : Nat),(∀ (j : Nat) v,us[j]? = some v → ∃ t,v = .int (lo + ((k + j : Nat) : Int)) t) → zC (((List.range us.length).map fun (i : Nat) => V.int (lo + ((k + i : Nat) : Int)))) us:=by
  intro us
  induction us with
  | nil => intro k _; exact .nil
  | cons u us ih =>
   intro k hu
   rw [List.length_cons,List.range_succ_eq_map,List.map_cons,List.map_map]
   refine .cons ?_ ?_
   ·obtain ⟨t,e⟩:=hu 0 u rfl
    exact ⟨t,e⟩
   ·have:=ih (k + 1) fun j v e => by
     obtain ⟨t,z⟩:=hu (j + 1) v (by simpa using e)
     exact ⟨t,by rw [z]; congr 1; omega⟩
    have e2 : (fun (i : Nat) => V.int (lo + ((k + 1 + i : Nat) : Int))) = ((fun (i : Nat) => V.int (lo + ((k + i : Nat) : Int))) ∘ Nat.succ):=by
     funext i
     show V.int _ = V.int _
     congr 2
     show ((k + 1 + i : Nat) : Int) = ((k + (i + 1) : Nat) : Int)
     omega
    rw [← e2]
    exact this
 have h1:=go acc.toList 0 fun j v e => by
  obtain ⟨t,z⟩:=hv j v (by simpa using e)
  exact ⟨t,by rw [z]; simp⟩
 have e1 : acc.toList.length = n:=by simpa using hsz
 rw [e1] at h1
 unfold za6
 rw [List.map_map]
 have e2 : (V.int ∘ fun (i : Nat) => lo + (i : Int)) = fun (i : Nat) => V.int (lo + ((0 + i : Nat) : Int)):=by
  funext i
  show V.int (lo + (i : Int)) = V.int (lo + ((0 + i : Nat) : Int))
  rw [Nat.zero_add]
 rw [e2]
 exact h1
theorem zdd {X : Cx} (hc : X.calm = true) : zbs X (.type "list") (fun xs H Q => ∃ p hi,xs = [.ref p] ∧ H p = some (.rng 0 hi) ∧ 0 ≤ hi ∧ hi ≤ 1000 ∧ ∀ l,H l = none → Q (.ref l) (upd H l (.lst ((za6 0 hi.toNat).map V.int)))):=by
 intro pins s σ H xs us Q I r h
 obtain ⟨p,hi,rfl,hp,h0,h1,q⟩:=h
 obtain ⟨u,rfl,rx⟩:=vals1 r
 cases rx
 obtain ⟨t,u',v,e⟩:=(show zaj X.prog X.w H s.heap p (.rng 0 hi) from I.hok p _ hp)
 have hsl:=sizeLine_eq
 refine call_list_range (n:=hi.toNat) (I.ok.hd hc) (show IsRange s.heap p 0 hi 1 t u' v from e) (small_one (by omega) (by omega) (by omega) (by omega)) (by rw [rangeSize_one]; split <;> omega) (by omega) fun h' tk acc' c' kk ho hacc => ?_
 have hv:=zdc (lo:=0) (n:=hi.toNat) hacc
 refine ⟨.ref s.heap.objs.size,_,I.laid kk (Nat.le_refl _) ?_,rfl,q _ I.fresh⟩
 exact ⟨by rw [List.length_map,zbS]; omega,acc'.toList,c',hv,by simpa using ho⟩
end L2
namespace L2
open PySem PySem.Spec PyProof.Rows
def zjU (K : PySem.W.Frag) (tl : TE) : TI:=fun σ H R => tl σ H fun x H1 => ∃ a,x = .ref a ∧ (((∃ xs,SqL K H1 a xs) ∧ R (Itl K a) H1) ∨ ((∃ xs,SqT K H1 a xs) ∧ R (Itt K a) H1))
theorem ziD {X : Cx} {tg l : Expr} {tl : TE} (hl : PE X l tl) : PI X tg l (zjU X.K tl):=by
 intro pins s σ H R I h
 refine thn (hl pins s σ H _ I h) fun v s1 ⟨x,H1,I1,r1,q1⟩ => ?_
 obtain ⟨a,e,q⟩:=q1
 subst e
 cases r1
 rcases q with ⟨⟨xs,hq⟩,q⟩ | ⟨⟨xs,hq⟩,q⟩
 ·obtain ⟨its,rv,p,hz⟩:=I1.list hq
  refine wpAny_pyIter_list p.isList ?_
  refine ⟨s1.heap.objs.size,[s1.heap.objs.size],_,_,H1,rfl,I1.kept (t':=s1.toks) fun b o e => Heap.get?_push_of_some _ e,zdl a _,⟨_,Heap.get?_push_size _ rfl,rfl,rfl⟩,fun b hb => ?_,q⟩
  have e : b = s1.heap.objs.size:=by simpa using hb
  subst e
  exact I1.fpOk (Nat.le_refl _) (I1.hok.fresh (Nat.le_refl _))
 ·obtain ⟨its,rv,p,hz⟩:=I1.tuple hq
  refine wpAny_pyIter_tuple (show s1.heap.IsTuple a its.toArray from p) ?_
  refine ⟨s1.heap.objs.size,[s1.heap.objs.size],_,_,H1,rfl,I1.kept (t':=s1.toks) fun b o e => Heap.get?_push_of_some _ e,zcG a _,⟨_,Heap.get?_push_size _ rfl,rfl,rfl⟩,fun b hb => ?_,q⟩
  have e : b = s1.heap.objs.size:=by simpa using hb
  subst e
  exact I1.fpOk (Nat.le_refl _) (I1.hok.fresh (Nat.le_refl _))
end L2
namespace L2
open PySem PySem.Spec PyProof.Rows
def intsOf : List Expr → Option (List Int)
 | [] => some []
 | .Constant (.int i) _ _ :: r => (intsOf r).map (i :: ·)
 | _ => none
def zdx (ns : List Int) : TA:=fun _ H Q => Q (ns.map V.int) H
theorem zgt {X : Cx} : ∀ (es : List Expr) (ns : List Int),intsOf es = some ns → PA X es (zdx ns):=by
 intro es
 induction es with
 | nil =>
  intro ns h
  have e : ns = []:=(Option.some.inj h).symm
  subst e
  exact ze
 | cons e r ih =>
  intro ns h
  unfold intsOf at h
  split at h
  ·rename_i heq
   cases heq
  ·rename_i i j p r' heq
   injection heq with e1 e2
   subst e1 e2
   cases hr : intsOf r with
   | none => rw [hr] at h; cases h
   | some ms =>
    rw [hr] at h
    have e : i :: ms = ns:=Option.some.inj h
    subst e
    exact za zf (ih ms hr)
  ·cases h
theorem zhu {X : Cx} {es : List Expr} {ns : List Int} (h : intsOf es = some ns) : PA X es (zdx ns):=zgt es ns h
end L2
namespace L2
open PySem PySem.Spec PyProof.Rows
theorem zbT {X : Cx} {i : Int} {j : Nat} {p : Pos} {es : List Expr} {t : TA} (hr : PA X es t) : PA X (.Constant (.int i) j p :: es) (zh2 (tC (.int i)) t):=za zf hr
end L2
namespace L2
open PySem PySem.Spec PyProof.Rows
theorem zgu {X : Cx} {i : Nat} {x : Str} {pos' pos2 spos : Pos} {rest : List Stmt} {u : TS} {es : List Expr} {ns : List Int} (h : intsOf es = some ns) (hN : X.N.Nodup) (hi : X.N[i]? = some x) (hx : Loc X.env.scope x)
  (hf : X.fn x = true ∨ X.env.scope.names.lookup x = some .local) (hr : PSs X rest u) : PSs X (.Assign [.Name x pos'] (.List es pos2) spos :: rest) (zi5 (zgb (zho (zdx ns)) (zbr i)) u):=by
 have h1 : PE X (.List es pos2) (zho (zdx ns)):=@zU X es (zdx ns) pos2 (@zhu X es ns h)
 have h2 : PS X (.Assign [.Name x pos'] (.List es pos2) spos) (zgb (zho (zdx ns)) (zbr i)):=zm hN hi hx h1 (by rfl) hf
 exact zc h2 hr
end L2
namespace L2
open PySem PySem.Spec PyProof.Rows
section
variable {X : Cx} {K : PySem.W.Frag}
theorem zbw (hK : X.K = K) : IxR X (zjl K):=by subst hK; exact zq
theorem zec (hK : X.K = K) : SlR X (zjn K):=by subst hK; exact zb0
def zjp (K : PySem.W.Frag) : List V → Hp → VK → Prop:=fun xs H Q => ∃ p ys,xs = [.ref p] ∧ (SqL K H p ys ∨ SqT K H p ys) ∧ Q (.int ys.length) H
theorem zde (hK : X.K = K) : zbs X (.builtin "len") (zjp K):=by subst hK; exact zr
theorem zbF {es : List Expr} {k : Nat} {t : TGs} {n : Nat} {pos : Pos} (hK : X.K = K) (hc : X.calm = true) (h : PGs X es t)
  (hn : (assignEach es X.env).length = n:=by rfl) (hst : (assignEach es X.env).findIdx? (·.1) = none:=by rfl) : PG X (.Tuple es k pos) (zhi K n t):=by subst hK; exact zau hc h hn hst
theorem ziE {o e : Expr} {es : List Expr} {to : TE} {t : TA} {name : Str} {apos cpos : Pos} {T id : String} {r : V → List V → Hp → VK → Prop} (hK : X.K = K) (pa : PlainAttrs T) (slot : Slot T name id) (hty : typeOf (.builtin id) = pure (.type "method_descriptor")) (hm : MtR X id r) (ho : PE X o to) (ha : PA X (e :: es) t)
  (hbase : attributeBase o name X.env (eval o X.env) = eval o X.env:=by rfl)
  (hfew : ((backTo cpos (starEach (e :: es) X.env)).all (fun x => !x.1) && (backToKw cpos (keywordEach [] X.env)).all (fun x => x.1.isSome)
   && decide ((e :: es).length + ([] : List Keyword).length + (if ([] : List Keyword).isEmpty then 0 else 1) < 30)) = true:=by rfl)
  (hline : (apos.endLine == cpos.line) = true:=by rfl) (hs : starEach (e :: es) X.env = (false,eval e X.env) :: starEach es X.env:=by rfl) (hplain : (backTo cpos (starEach es X.env)).any (·.1) = false:=by rfl) :
  PE X (.Call (.Attribute o name apos) (e :: es) [] cpos) (tBM K T r to t):=by subst hK; exact zcN pa slot hty hm ho ha hbase hfew hline hs hplain
end
end L2
namespace L2
end L2
end
section
namespace My
def Cg (p a b : Int) : Prop:=∃ k,a = b + p * k
theorem Cg.refl (p a : Int) : Cg p a a:=⟨0,by grind⟩
theorem Cg.symm {p a b : Int} (h : Cg p a b) : Cg p b a:=by obtain ⟨k,e⟩:=h; exact ⟨-k,by grind⟩
theorem Cg.trans {p a b c : Int} (h : Cg p a b) (h' : Cg p b c) : Cg p a c:=by
 obtain ⟨k,e⟩:=h; obtain ⟨l,e'⟩:=h'; exact ⟨k + l,by grind⟩
theorem Cg.add {p a b c d : Int} (h : Cg p a b) (h' : Cg p c d) : Cg p (a + c) (b + d):=by
 obtain ⟨k,e⟩:=h; obtain ⟨l,e'⟩:=h'; exact ⟨k + l,by grind⟩
theorem Cg.sub {p a b c d : Int} (h : Cg p a b) (h' : Cg p c d) : Cg p (a - c) (b - d):=by
 obtain ⟨k,e⟩:=h; obtain ⟨l,e'⟩:=h'; exact ⟨k - l,by grind⟩
theorem Cg.mul {p a b c d : Int} (h : Cg p a b) (h' : Cg p c d) : Cg p (a * c) (b * d):=by
 obtain ⟨k,e⟩:=h; obtain ⟨l,e'⟩:=h'
 exact ⟨k * d + b * l + p * k * l,by subst e e'; grind⟩
theorem Cg.of_eq {p a b : Int} (h : a = b) : Cg p a b:=h ▸ Cg.refl p a
theorem Cg.emod (p a : Int) : Cg p (a % p) a:=⟨-(a / p),by have:=Int.emod_add_mul_ediv a p; grind⟩
theorem Cg.mod_eq {p a b : Int} (h : Cg p a b) : a % p = b % p:=by
 obtain ⟨k,e⟩:=h; rw [e,Int.add_mul_emod_self_left]
theorem Cg.of_mod {p a b : Int} (h : a % p = b % p) : Cg p a b:=(Cg.emod p a).symm.trans (h ▸ Cg.emod p b)
theorem Cg.eq {p a b : Int} (h : Cg p a b) (ha : 0 ≤ a) (ha' : a < p) (hb : 0 ≤ b) (hb' : b < p) : a = b:=by
 have:=h.mod_eq
 rwa [Int.emod_eq_of_lt ha ha',Int.emod_eq_of_lt hb hb'] at this
def zn (p x : Int) : List Int → Int
 | [] => 0
 | c :: r => (c + x * zn p x r) % p
theorem zad {p x : Int} (hp : 0 < p) : ∀ l,0 ≤ zn p x l
 | [] => Int.le_refl 0
 | _ :: _ => Int.emod_nonneg _ (by omega)
theorem zae {p x : Int} (hp : 0 < p) : ∀ l,zn p x l < p
 | [] => hp
 | _ :: _ => Int.emod_lt_of_pos _ hp
theorem zN (p x c : Int) (r : List Int) : Cg p (zn p x (c :: r)) (c + x * zn p x r):=Cg.emod _ _
theorem zeQ {p x : Int} (m : Nat) : zn p x (List.replicate m 0) = 0:=by
 induction m with
 | zero => rfl
 | succ m ih => rw [List.replicate_succ]; show (0 + x * zn p x (List.replicate m 0)) % p = 0; rw [ih]; simp
theorem zed {p x : Int} (m : Nat) : ∀ l,zn p x (l ++ List.replicate m 0) = zn p x l
 | [] => zeQ m
 | c :: r => by show (c + x * zn p x (r ++ List.replicate m 0)) % p = (c + x * zn p x r) % p; rw [zed m r]
def lv (p x : Int) : Int → Int → List Int → Int
 | total,_,[] => total
 | total,power,c :: r => lv p x ((total + c * power) % p) (power * x % p) r
theorem zh4 {p x : Int} : ∀ (l : List Int) (total power : Int),Cg p (lv p x total power l) (total + power * zn p x l)
 | [],total,power => Cg.of_eq (by show total = total + power * 0; grind)
 | c :: r,total,power => by
  have h1:=zh4 (p:=p) (x:=x) r ((total + c * power) % p) (power * x % p)
  refine h1.trans ?_
  have h2 : Cg p ((total + c * power) % p + power * x % p * zn p x r) (total + c * power + power * x * zn p x r):=(Cg.emod p _).add ((Cg.emod p (power * x)).mul (Cg.refl p _))
  refine h2.trans ?_
  have h3 : Cg p (total + power * (c + x * zn p x r)) (total + power * zn p x (c :: r)):=(Cg.refl p _).add ((Cg.refl p _).mul (zN p x c r).symm)
  refine (Cg.of_eq ?_).trans h3
  grind
theorem zgv {p x : Int} (hp : 0 < p) : ∀ (l : List Int) (total power : Int),0 ≤ total → total < p → 0 ≤ lv p x total power l ∧ lv p x total power l < p
 | [],total,power,h1,h2 => ⟨h1,h2⟩
 | c :: r,total,power,h1,h2 => zgv hp r _ _ (Int.emod_nonneg _ (by omega)) (Int.emod_lt_of_pos _ hp)
theorem zfh {p x : Int} (hp : 0 < p) (l : List Int) : lv p x 0 1 l = zn p x l:=by
 obtain ⟨a,b⟩:=zgv (x:=x) hp l 0 1 (Int.le_refl _) hp
 exact ((zh4 l 0 1).trans (Cg.of_eq (by grind))).eq a b (zad hp l) (zae hp l)
def zk : List Int:=[5,7,11,13,17,19,23,29,31,37,41,43,47,53,59,61,67,71,73,79,83,89,97]
def zbG (p : Int) : Nat → Int → Int → Int → Int
 | 0,prod,_,_ => prod
 | n + 1,prod,sq,left => if 0 < left then zbG p n (if left % 2 = 1 then prod * sq % p else prod) (sq * sq % p) (left / 2) else prod
def inv (p h : Int) : Int:=zbG p 7 1 (h % p) (p - 2)
def zjV : Bool:=zk.all fun p => (List.range p.toNat).all fun h => h == 0 || (inv p h * h) % p == 1
theorem zfQ : zjV = true:=by decide +kernel
theorem zp {p : Int} (hp : p ∈ zk) : 5 ≤ p ∧ p ≤ 97:=by
 have : zk.all (fun p => decide (5 ≤ p ∧ p ≤ 97)) = true:=by decide +kernel
 have:=List.all_eq_true.mp this p hp
 simpa using this
theorem zcR {p h : Int} (hp : p ∈ zk) (h0 : 0 < h) (h1 : h < p) : Cg p (inv p h * h) 1:=by
 have e:=List.all_eq_true.mp (List.all_eq_true.mp zfQ p hp) h.toNat (List.mem_range.mpr (by omega))
 have hh : ((h.toNat : Nat) : Int) = h:=by omega
 have : h.toNat ≠ 0:=by omega
 simp only [Bool.or_eq_true,beq_iff_eq,hh,this,false_or] at e
 have hr:=zp hp
 exact Cg.of_mod (by rw [e,Int.emod_eq_of_lt (by omega) (by omega)])
theorem zee {p a b : Int} (hp : p ∈ zk) (h : Cg p (a * b) 0) : Cg p a 0 ∨ Cg p b 0:=by
 have hr:=zp hp
 by_cases ha : a % p = 0
 ·exact .inl (Cg.of_mod (by rw [ha]; simp))
 ·right
  have h0 : 0 < a % p:=by have:=Int.emod_nonneg a (show p ≠ 0 by omega); omega
  have hi:=zcR hp h0 (Int.emod_lt_of_pos a (by omega))
  have h1 : Cg p (inv p (a % p) * (a * b)) 0:=((Cg.refl p _).mul h).trans (Cg.of_eq (by grind))
  have h2 : Cg p (inv p (a % p) * (a % p) * b) (1 * b):=hi.mul (Cg.refl p b)
  have h3 : Cg p (inv p (a % p) * (a * b)) (inv p (a % p) * (a % p) * b):=by
   have:=((Cg.refl p (inv p (a % p))).mul (Cg.emod p a).symm).mul (Cg.refl p b)
   exact (Cg.of_eq (by grind)).trans this
  exact ((Cg.of_eq (by grind)).trans (h2.symm.trans (h3.symm.trans h1)))
def trF (p r : Int) (high low : Int) : Int:=(high - r * low) % p
def zb2 (p r : Int) (v : List Int) : List Int:=List.zipWith (trF p r) (0 :: v) (v ++ [0])
theorem zh5 {p r z : Int} : ∀ (v : List Int) (h : Int),Cg p (zn p z (List.zipWith (trF p r) (h :: v) (v ++ [0]))) (h + (z - r) * zn p z v)
 | [],h => by
  show Cg p ((trF p r h 0 + z * 0) % p) (h + (z - r) * 0)
  refine (Cg.emod p _).trans ?_
  have : Cg p (trF p r h 0) (h - r * 0):=Cg.emod p _
  exact (this.add (Cg.refl p (z * 0))).trans (Cg.of_eq (by grind))
 | c :: w,h => by
  show Cg p ((trF p r h c + z * zn p z (List.zipWith (trF p r) (c :: w) (w ++ [0]))) % p) (h + (z - r) * zn p z (c :: w))
  have ih:=zh5 (p:=p) (r:=r) (z:=z) w c
  have h1 : Cg p (trF p r h c) (h - r * c):=Cg.emod p _
  refine (Cg.emod p _).trans ((h1.add ((Cg.refl p z).mul ih)).trans ?_)
  have h2 : Cg p (h + (z - r) * (c + z * zn p z w)) (h + (z - r) * zn p z (c :: w)):=(Cg.refl p h).add ((Cg.refl p _).mul (zN p z c w).symm)
  exact (Cg.of_eq (by grind)).trans h2
theorem zhv {p r z : Int} (v : List Int) : Cg p (zn p z (zb2 p r v)) ((z - r) * zn p z v):=(zh5 v 0).trans (Cg.of_eq (by grind))
theorem zdy (p r : Int) (v : List Int) : (zb2 p r v).length = v.length + 1:=by simp [zb2]
theorem zb3 {α β γ : Type} {f : α → β → γ} : ∀ {as : List α} {bs : List β} {c : γ},c ∈ List.zipWith f as bs → ∃ a b,c = f a b
 | [],_,c,h => by simp at h
 | _ :: _,[],c,h => by simp at h
 | a :: as,b :: bs,c,h => by
  rcases List.mem_cons.mp h with e | e
  ·exact ⟨a,b,e⟩
  ·exact zb3 e
theorem ziF {p r : Int} (hp : 0 < p) (v : List Int) : ∀ c ∈ zb2 p r v,0 ≤ c ∧ c < p:=by
 intro c hc
 obtain ⟨a,b,e⟩:=zb3 hc
 rw [e]; exact ⟨Int.emod_nonneg _ (by omega),Int.emod_lt_of_pos _ hp⟩
def ad (p f : Int) : List Int → List Int → List Int
 | c :: cs,v :: vs => (c + f * v) % p :: ad p f cs vs
 | cs,[] => cs
 | [],_ :: _ => []
theorem zdz (p f : Int) : ∀ (cs vs : List Int),(ad p f cs vs).length = cs.length
 | _ :: cs,_ :: vs => by show (ad p f cs vs).length + 1 = _; rw [zdz p f cs vs]; rfl
 | [],[] => rfl
 | _ :: _,[] => rfl
 | [],_ :: _ => rfl
theorem zgw {p f : Int} (hp : 0 < p) : ∀ (cs vs : List Int),(∀ c ∈ cs,0 ≤ c ∧ c < p) → ∀ c ∈ ad p f cs vs,0 ≤ c ∧ c < p
 | c :: cs,v :: vs,h,d,hd => by
  rcases List.mem_cons.mp hd with e | e
  ·rw [e]; exact ⟨Int.emod_nonneg _ (by omega),Int.emod_lt_of_pos _ hp⟩
  ·exact zgw hp cs vs (fun c hc => h c (List.mem_cons_of_mem _ hc)) d e
 | [],[],h,d,hd => h d hd
 | _ :: _,[],h,d,hd => h d hd
 | [],_ :: _,h,d,hd => by cases hd
theorem zfi {p f z : Int} : ∀ (cs vs : List Int),vs.length ≤ cs.length → Cg p (zn p z (ad p f cs vs)) (zn p z cs + f * zn p z vs)
 | c :: cs,v :: vs,h => by
  have ih:=zfi (p:=p) (f:=f) (z:=z) cs vs (by simpa using h)
  show Cg p (((c + f * v) % p + z * zn p z (ad p f cs vs)) % p) (zn p z (c :: cs) + f * zn p z (v :: vs))
  refine (Cg.emod p _).trans (((Cg.emod p (c + f * v)).add ((Cg.refl p z).mul ih)).trans ?_)
  have h2 : Cg p ((c + z * zn p z cs) + f * (v + z * zn p z vs)) (zn p z (c :: cs) + f * zn p z (v :: vs)):=(zN p z c cs).symm.add ((Cg.refl p f).mul (zN p z v vs).symm)
  exact (Cg.of_eq (by grind)).trans h2
 | [],[],_ => Cg.of_eq (by show (0 : Int) = 0 + f * 0; grind)
 | c :: cs,[],_ => Cg.of_eq (by show zn p z (c :: cs) = zn p z (c :: cs) + f * 0; grind)
 | [],_ :: _,h => by simp at h
def zbx (p : Int) (s : List Int × List Int) (q : Int × Int) : List Int × List Int :=
 (ad p ((q.2 - zn p q.1 s.1) * inv p (zn p q.1 s.2) % p) s.1 s.2,zb2 p q.1 s.2)
def zjq (p : Int) (n : Nat) (pts : List (Int × Int)) : List Int × List Int:=pts.foldl (zbx p) (List.replicate n 0,[1])
def thr (p : Int) (pts : List (Int × Int)) : List Int:=(zjq p pts.length pts).1
def zby (z : Int) : List (Int × Int) → Int
 | [] => 1
 | q :: r => (z - q.1) * zby z r
theorem zcS (z : Int) (q : Int × Int) : ∀ l,zby z (l ++ [q]) = zby z l * (z - q.1)
 | [] => by show (z - q.1) * 1 = 1 * (z - q.1); grind
 | a :: l => by show (z - a.1) * zby z (l ++ [q]) = (z - a.1) * zby z l * (z - q.1); rw [zcS z q l]; grind
theorem zcT {z : Int} : ∀ {l : List (Int × Int)},(∃ q ∈ l,q.1 = z) → zby z l = 0
 | [],h => by obtain ⟨q,hq,_⟩:=h; cases hq
 | a :: l,h => by
  show (z - a.1) * zby z l = 0
  obtain ⟨q,hq,e⟩:=h
  rcases List.mem_cons.mp hq with hq | hq
  ·subst hq; rw [e]; simp
  ·rw [zcT ⟨q,hq,e⟩]; simp
theorem zef {p z : Int} (hp : p ∈ zk) (hz : 0 ≤ z) (hz' : z < p) : ∀ {l : List (Int × Int)},(∀ q ∈ l,0 ≤ q.1 ∧ q.1 < p ∧ q.1 ≠ z) → ¬ Cg p (zby z l) 0
 | [],_,h => by
  have hr:=zp hp
  have:=h.mod_eq
  have e1 : (zby z [] : Int) = 1:=rfl
  rw [e1,Int.emod_eq_of_lt (by omega) (by omega)] at this
  simp at this
 | a :: l,hl,h => by
  rcases zee hp (show Cg p ((z - a.1) * zby z l) 0 from h) with h | h
  ·obtain ⟨h1,h2,h3⟩:=hl a List.mem_cons_self
   have : Cg p z a.1:=by
    have:=h.add (Cg.refl p a.1)
    exact (Cg.of_eq (by grind)).trans (this.trans (Cg.of_eq (by grind)))
   exact h3 (this.eq hz hz' h1 h2).symm
  ·exact zef hp hz hz' (fun q hq => hl q (List.mem_cons_of_mem _ hq)) h
structure Nw (p : Int) (n : Nat) (done : List (Int × Int)) (s : List Int × List Int) : Prop where
 lc : s.1.length = n
 lv : s.2.length = done.length + 1
 rc : ∀ c ∈ s.1,0 ≤ c ∧ c < p
 rv : ∀ c ∈ s.2,0 ≤ c ∧ c < p
 van : ∀ z,Cg p (zn p z s.2) (zby z done)
 hit : ∀ q ∈ done,zn p q.1 s.1 = q.2
theorem zeg {p : Int} (hp : p ∈ zk) (n : Nat) : Nw p n [] (List.replicate n 0,[1]):=by
 have hr:=zp hp
 refine ⟨by simp,rfl,fun c hc => ?_,fun c hc => ?_,fun z => ?_,fun q hq => by cases hq⟩
 ·obtain ⟨_,e⟩:=List.mem_replicate.mp hc
  omega
 ·have : c = 1:=by simpa using hc
  omega
 ·show Cg p ((1 + z * 0) % p) 1
  exact (Cg.emod p _).trans (Cg.of_eq (by grind))
theorem zfj {p : Int} {n : Nat} {done : List (Int × Int)} {s : List Int × List Int} (hp : p ∈ zk) (h : Nw p n done s) {q : Int × Int} (q0 : 0 ≤ q.1) (q1 : q.1 < p) (hd : ∀ a ∈ done,0 ≤ a.1 ∧ a.1 < p ∧ a.1 ≠ q.1) :
  0 < zn p q.1 s.2 ∧ zn p q.1 s.2 < p:=by
 have hr:=zp hp
 refine ⟨?_,zae (by omega) _⟩
 have h0:=zad (x:=q.1) (show 0 < p by omega) s.2
 by_cases e : zn p q.1 s.2 = 0
 ·exact absurd ((h.van q.1).symm.trans (Cg.of_eq e)) (zef hp q0 q1 hd)
 ·omega
theorem zfR {p : Int} {n : Nat} {done : List (Int × Int)} {s : List Int × List Int} (hp : p ∈ zk) (h : Nw p n done s) {q : Int × Int} (q0 : 0 ≤ q.1) (q1 : q.1 < p) (hd : ∀ a ∈ done,0 ≤ a.1 ∧ a.1 < p ∧ a.1 ≠ q.1) :
  Cg p ((q.2 - zn p q.1 s.1) * inv p (zn p q.1 s.2) % p * zn p q.1 s.2) (q.2 - zn p q.1 s.1):=by
 obtain ⟨h0,h1⟩:=zfj hp h q0 q1 hd
 have hi:=zcR hp h0 h1
 refine ((Cg.emod p _).mul (Cg.refl p _)).trans ?_
 have:=(Cg.refl p (q.2 - zn p q.1 s.1)).mul hi
 exact (Cg.of_eq (by grind)).trans (this.trans (Cg.of_eq (by grind)))
theorem zfk {p : Int} {n : Nat} {done : List (Int × Int)} {s : List Int × List Int} (hp : p ∈ zk) (h : Nw p n done s) {q : Int × Int} (hn : done.length < n) (q0 : 0 ≤ q.1) (q1 : q.1 < p) (q2 : 0 ≤ q.2) (q3 : q.2 < p)
  (hd : ∀ a ∈ done,0 ≤ a.1 ∧ a.1 < p ∧ a.1 ≠ q.1 ∧ 0 ≤ a.2 ∧ a.2 < p) : Nw p n (done ++ [q]) (zbx p s q):=by
 have hr:=zp hp
 have hd' : ∀ a ∈ done,0 ≤ a.1 ∧ a.1 < p ∧ a.1 ≠ q.1:=fun a ha => ⟨(hd a ha).1,(hd a ha).2.1,(hd a ha).2.2.1⟩
 have hlv:=h.lv
 have hlc:=h.lc
 have hle : s.2.length ≤ s.1.length:=by omega
 refine ⟨by show (ad _ _ _ _).length = n; rw [zdz,h.lc],by show (zb2 _ _ _).length = _; rw [zdy,h.lv,List.length_append,List.length_singleton],zgw (by omega) _ _ h.rc,ziF (by omega) _,fun z => ?_,fun a ha => ?_⟩
 ·rw [zcS]
  exact (zhv s.2).trans (((Cg.refl p _).mul (h.van z)).trans (Cg.of_eq (by grind)))
 ·have hv:=zfi (p:=p) (f:=(q.2 - zn p q.1 s.1) * inv p (zn p q.1 s.2) % p) (z:=a.1) s.1 s.2 hle; rcases List.mem_append.mp ha with ha | ha
  ·obtain ⟨b0,b1,b2,b3,b4⟩:=hd a ha
   have hz : Cg p (zn p a.1 s.2) 0:=(h.van a.1).trans (Cg.of_eq (zcT ⟨a,ha,rfl⟩))
   have h2 : Cg p (zn p a.1 (ad p ((q.2 - zn p q.1 s.1) * inv p (zn p q.1 s.2) % p) s.1 s.2)) (zn p a.1 s.1):=hv.trans (((Cg.refl p (zn p a.1 s.1)).add ((Cg.refl p _).mul hz)).trans (Cg.of_eq (by rw [Int.mul_zero,Int.add_zero])))
   rw [h.hit a ha] at h2
   exact h2.eq (zad (by omega) _) (zae (by omega) _) b3 b4
  ·have e : a = q:=by simpa using ha
   subst e
   have h2 : Cg p (zn p a.1 (ad p ((a.2 - zn p a.1 s.1) * inv p (zn p a.1 s.2) % p) s.1 s.2)) a.2:=hv.trans (((Cg.refl p (zn p a.1 s.1)).add (zfR hp h q0 q1 hd')).trans (Cg.of_eq (by omega)))
   exact h2.eq (zad (by omega) _) (zae (by omega) _) q2 q3
structure Pts (p : Int) (pts : List (Int × Int)) : Prop where
 nd : (pts.map (·.1)).Nodup
 rg : ∀ q ∈ pts,0 ≤ q.1 ∧ q.1 < p ∧ 0 ≤ q.2 ∧ q.2 < p
theorem Pts.apart {p : Int} {done rest : List (Int × Int)} {q : Int × Int} (h : Pts p (done ++ q :: rest)) : ∀ a ∈ done,0 ≤ a.1 ∧ a.1 < p ∧ a.1 ≠ q.1 ∧ 0 ≤ a.2 ∧ a.2 < p:=fun a ha => by
 obtain ⟨r1,r2,r3,r4⟩:=h.rg a (List.mem_append_left _ ha)
 refine ⟨r1,r2,fun e => ?_,r3,r4⟩
 have nd:=h.nd
 rw [List.map_append,List.nodup_append] at nd
 exact nd.2.2 a.1 (List.mem_map.mpr ⟨a,ha,rfl⟩) q.1 (by simp) e
theorem zgx {p : Int} (hp : p ∈ zk) {n : Nat} : ∀ (rest done : List (Int × Int)) (s : List Int × List Int),Pts p (done ++ rest) → (done ++ rest).length = n → Nw p n done s → Nw p n (done ++ rest) (rest.foldl (zbx p) s)
 | [],done,s,_,_,h => by rw [List.append_nil]; exact h
 | q :: rest,done,s,hP,hn,h => by
  have hn' : done.length < n:=by rw [← hn]; simp
  obtain ⟨a,b,c,d⟩:=hP.rg q (by simp)
  have hs:=zfk hp h (q:=q) hn' a b c d hP.apart
  have e : done ++ q :: rest = (done ++ [q]) ++ rest:=by simp
  rw [e] at hP hn ⊢
  exact zgx hp rest (done ++ [q]) _ hP hn hs
theorem zdQ {p : Int} (hp : p ∈ zk) {pts : List (Int × Int)} (hP : Pts p pts) : (thr p pts).length = pts.length ∧ (∀ c ∈ thr p pts,0 ≤ c ∧ c < p) ∧ ∀ q ∈ pts,zn p q.1 (thr p pts) = q.2:=by
 have h:=zgx hp (n:=pts.length) pts [] _ (by simpa using hP) (by simp) (zeg hp pts.length)
 exact ⟨h.lc,h.rc,h.hit⟩
end My
end
section
set_option maxHeartbeats 3999000
namespace My
open PySem L2 PyProof.Rows
section
variable {K : PySem.W.Frag}
theorem zgy {ns : List Int} {k : Int} (h0 : 0 ≤ k) (h1 : k < ns.length) : ∃ c : Int,ns[k.toNat]? = some c ∧ atI (ns.map V.int) k = some (.int c):=by
 have hlt : k.toNat < ns.length:=by omega
 have e : atI (ns.map V.int) ((k.toNat : Nat) : Int) = some (.int ns[k.toNat]):=zS (by simp [List.getElem?_map,List.getElem?_eq_getElem hlt])
 have hk : ((k.toNat : Nat) : Int) = k:=by omega
 rw [hk] at e
 exact ⟨ns[k.toNat],by simp,e⟩
theorem zcv {ns : List Int} {k : Int} (h0 : 0 ≤ k) (h1 : k < ns.length) : ∃ c : Int,atI (ns.map V.int) k = some (.int c):=let ⟨c,_,e⟩:=zgy h0 h1; ⟨c,e⟩
theorem zd {H : Hp} {a : Addr} {o : HO} (h : H a = none) : zx H (upd H a o):=fun b u e => by rw [zo (zD e h)]; exact e
theorem zX {H H' : Hp} {a : Addr} {o : HO} (s : zx H H') (h : H a = none) : zx H (upd H' a o):=fun b u e => by rw [zo (zD e h)]; exact s b u e
theorem zV {n : Nat} (h : n ≤ 10000) : n < sizeLine:=by rw [sizeLine_eq]; omega
def zfS (K : PySem.W.Frag) : Sp:=fun vs H Q _ => ∃ (a : Addr) (ns : List Int) (k : Int),vs = [.ref a,.int k] ∧ SqL K H a (ns.map V.int) ∧ ns.length ≤ 63 ∧ 0 ≤ k ∧ k ≤ 1000 ∧ ∀ c : Int,Q (.int c) H
def zfl (many : Nat) (base : Int) (ds : List Int) : Prop:=ds.length = many ∧ ∀ d ∈ ds,0 ≤ d ∧ d < base
def zeR (K : PySem.W.Frag) : Sp:=fun vs H Q _ => ∃ (a : Addr) (ns : List Int) (k many base : Int),vs = [.ref a,.int k,.int many,.int base] ∧ SqL K H a (ns.map V.int) ∧ ns.length ≤ 63 ∧ 0 ≤ k ∧ k ≤ 1000 ∧ 0 ≤ many ∧ many ≤ 1000 ∧ 0 < base ∧ base < 1073741824 ∧
 ∀ (l : Addr) (ds : List Int) (H' : Hp),H l = none → zx H H' → zfl many.toNat base ds → H' l = some (.lst (ds.map V.int)) → Q (.ref l) H'
abbrev zhw : List V:=[.int 2147483647,.int 2147483629,.int 2147483587,.int 2147483579,.int 2147483563,.int 2147483549,.int 2147483543,.int 2147483497]
theorem zhx {m : Int} (h0 : 0 ≤ m) (h1 : m < 8) : ∃ q : Int,atI zhw m = some (.int q) ∧ 0 < q ∧ q < 2147483648:=by
 have : m = 0 ∨ m = 1 ∨ m = 2 ∨ m = 3 ∨ m = 4 ∨ m = 5 ∨ m = 6 ∨ m = 7:=by omega
 rcases this with e | e | e | e | e | e | e | e <;> subst e <;> exact ⟨_,rfl,by decide,by decide⟩
theorem zcU (j : Int) : ∃ q : Int,atI zhw (j % 8) = some (.int q) ∧ 0 < q ∧ q < 2147483648:=zhx (Int.emod_nonneg _ (by decide)) (Int.emod_lt_of_pos _ (by decide))
theorem gY {i : Nat} {x : V} {σ : L2.St} {H : Hp} {A B : L2.St → Hp → Prop} (h : A (σ.set i (some x)) H) : zbr i x σ H (fun σ2 H2 => ziy σ2 H2 fun b H3 => if b = true then A σ2 H3 else B σ2 H3):=by
 show (if true = true then A (σ.set i (some x)) H else B (σ.set i (some x)) H)
 rw [if_pos rfl]
 exact h
structure CodeOk (mk mn p k : Int) (pl : List Int) : Prop where
 pr : p ∈ zk
 k1 : 1 ≤ k
 kk : k ≤ mk
 kl : k ≤ pl.length
 ln : (pl.length : Int) ≤ mn
 nd : pl.Nodup
 rg : ∀ x ∈ pl,0 ≤ x ∧ x < p
def zfT (K : PySem.W.Frag) : Sp:=fun vs H Q _ => ∃ (a : Addr) (ns : List Int) (at' mk mn : Int),vs = [.ref a,.int at',.int mk,.int mn] ∧ SqL K H a (ns.map V.int) ∧ ns.length ≤ 63 ∧ 0 ≤ at' ∧ at' ≤ 1000 ∧ 1 ≤ mk ∧ mk ≤ 5 ∧ mk ≤ mn ∧ mn ≤ 16 ∧
 ∀ (c tt : Addr) (p k : Int) (pl : List Int) (H' : Hp),H c = none → zx H H' → CodeOk mk mn p k pl → H' c = some (.tup [.int p,.int k,.ref tt]) → H' tt = some (.tup (pl.map V.int)) → Q (.ref c) H'
theorem ziG {x y m : Int} (h0 : 0 ≤ m) (h1 : m < 2) : ∃ z : Int,atI [V.int x,V.int y] m = some (.int z) ∧ (z = x ∨ z = y):=by
 have : m = 0 ∨ m = 1:=by omega
 rcases this with e | e <;> subst e
 ·exact ⟨x,rfl,.inl rfl⟩
 ·exact ⟨y,rfl,.inr rfl⟩
theorem zgz {ns : List Int} {k : Int} (h0 : 0 ≤ k) (h1 : k < ns.length) : ∃ c : Int,c ∈ ns ∧ atI (ns.map V.int) k = some (.int c):=by
 obtain ⟨c,e,h⟩:=zgy h0 h1
 exact ⟨c,List.mem_of_getElem? e,h⟩
theorem zdA {α β : Type} (f : α → β) : ∀ (l : List α) (k : Nat),(l.map f).eraseIdx k = (l.eraseIdx k).map f
 | [],_ => rfl
 | _ :: _,0 => rfl
 | a :: l,k + 1 => by show f a :: (l.map f).eraseIdx k = f a :: (l.eraseIdx k).map f; rw [zdA f l k]
theorem zcV {α : Type} : ∀ {l : List α} {k : Nat} {x : α},l[k]? = some x → (x :: l.eraseIdx k).Perm l
 | [],_,_,h => by simp at h
 | a :: l,0,x,h => by
  have e : a = x:=by simpa using h
  subst e
  exact List.Perm.refl _
 | a :: l,k + 1,x,h => by
  have ih:=zcV (l:=l) (k:=k) (x:=x) (by simpa using h)
  exact (List.Perm.swap a x _).trans (ih.cons a)
theorem zhy {p : Int} {xs ls : List Int} {k : Nat} {x : Int} (h : ls[k]? = some x) (nd : (xs ++ ls).Nodup) (rg : ∀ y ∈ xs ++ ls,0 ≤ y ∧ y < p) : ((xs ++ [x]) ++ ls.eraseIdx k).Nodup ∧ ∀ y ∈ (xs ++ [x]) ++ ls.eraseIdx k,0 ≤ y ∧ y < p:=by
 have hp : ((xs ++ [x]) ++ ls.eraseIdx k).Perm (xs ++ ls):=by
  rw [List.append_assoc]
  exact (zcV h).append_left xs
 exact ⟨hp.nodup_iff.mpr nd,fun y hy => rg y (hp.mem_iff.mp hy)⟩
theorem zfU (p : Int) : (za6 0 p.toNat).Nodup ∧ ∀ y ∈ za6 0 p.toNat,0 ≤ y ∧ y < p:=by
 unfold za6
 constructor
 ·rw [List.nodup_iff_pairwise_ne,List.pairwise_map]
  exact (List.nodup_iff_pairwise_ne.mp (List.nodup_range (n:=p.toNat))).imp fun {a b} hab => by omega
 ·intro y hy
  obtain ⟨i,hi,e⟩:=List.mem_map.mp hy
  have:=List.mem_range.mp hi
  omega
def zck (K : PySem.W.Frag) : Sp:=fun vs H Q _ => ∃ (p x : Int) (a : Addr) (cs : List Int),vs = [.int p,.ref a,.int x] ∧ (SqL K H a (cs.map V.int) ∨ SqT K H a (cs.map V.int)) ∧ 0 < p ∧ p ≤ 97 ∧ 0 ≤ x ∧ x < p ∧ Q (.int (zn p x cs)) H
def zeS (K : PySem.W.Frag) : Sp:=zck K
theorem zdB {cs : List Int} {i : Nat} {c : Int} (hi : i < cs.length) (h : cs[cs.length - 1 - i]? = some c) : cs.drop (cs.length - (i + 1)) = c :: cs.drop (cs.length - i):=by
 have e : cs.length - (i + 1) = cs.length - 1 - i:=by omega
 have hlt : cs.length - 1 - i < cs.length:=by omega
 rw [e,List.drop_eq_getElem_cons hlt]
 have : cs[cs.length - 1 - i] = c:=by
  rw [List.getElem?_eq_getElem hlt] at h
  exact Option.some.inj h
 rw [this]
 congr 2
 omega
theorem zW {cs : List Int} {j : Nat} {x : V} (h : (cs.map V.int)[j]? = some x) : ∃ c,x = .int c ∧ cs[j]? = some c:=by
 rw [List.getElem?_map] at h
 cases e : cs[j]? with
 | none => rw [e] at h; cases h
 | some c => rw [e] at h; exact ⟨c,(Option.some.inj h).symm,rfl⟩
def zeT (K : PySem.W.Frag) : Sp:=fun vs H Q _ => ∃ i : Int,vs = [.int i] ∧ Q (.bl true) H
theorem zfm {p x total power c : Int} {cs : List Int} {i : Nat} (h : cs[i]? = some c) : lv p x total power (cs.drop i) = lv p x ((total + c * power) % p) (power * x % p) (cs.drop (i + 1)):=by
 obtain ⟨hlt,e⟩:=List.getElem?_eq_some_iff.mp h
 rw [List.drop_eq_getElem_cons hlt,e]
 rfl
def zeU (K : PySem.W.Frag) : Sp:=fun vs H Q _ => ∃ (p h : Int),vs = [.int p,.int h] ∧ p ∈ zk ∧ 0 ≤ h ∧ h < p ∧ Q (.int (inv p h)) H
def ziH (σ : L2.St) : Nat:=match (σ[4]? : Option (Option V)) with
 | some (some (V.int l)) => l.toNat
 | _ => 0
theorem zdR {p prod sq left : Int} {n : Nat} (h0 : 0 < left) (h1 : left < 2 ^ (n + 1)) : zbG p (n + 1) prod sq left = zbG p n (if left % 2 = 1 then prod * sq % p else prod) (sq * sq % p) (left / 2):=by
 show (if 0 < left then _ else _) = _
 rw [if_pos h0]
theorem zeh {p prod sq : Int} : ∀ n,zbG p n prod sq 0 = prod
 | 0 => rfl
 | n + 1 => by show (if (0 : Int) < 0 then _ else prod) = prod; rw [if_neg (by decide)]
theorem gY2 {K : PySem.W.Frag} {i j : Nat} {T : Addr} {x y : V} {σ : L2.St} {H : Hp} {A B : L2.St → Hp → Prop} (hT : SqT K H T [x,y]) (h : A ((σ.set i (some x)).set j (some y)) H) :
  zhi K 2 (ze7 (zbr i) (ze7 (zbr j) zij)) (.ref T) σ H (fun σ2 H2 => ziy σ2 H2 fun b H3 => if b = true then A σ2 H3 else B σ2 H3):=by
 refine ⟨T,_,rfl,hT,rfl,x,_,rfl,y,_,rfl,rfl,?_⟩
 show (if true = true then A ((σ.set i (some x)).set j (some y)) H else B ((σ.set i (some x)).set j (some y)) H)
 rw [if_pos rfl]
 exact h
theorem zei {f : Int → Int → Int} {as bs : List Int} {i : Nat} {x y : Int} (hx : as[i]? = some x) (hy : bs[i]? = some y) : (List.zipWith f as bs).take (i + 1) = (List.zipWith f as bs).take i ++ [f x y]:=by
 have e : (List.zipWith f as bs)[i]? = some (f x y):=by rw [List.getElem?_zipWith,hx,hy]
 rw [List.take_add_one,e,Option.toList]
def zdf (K : PySem.W.Frag) : Sp:=fun vs H Q _ => ∃ (p r : Int) (a : Addr) (cs : List Int),vs = [.int p,.ref a,.int r] ∧ H a = some (.lst (cs.map V.int)) ∧ cs.length ≤ 1000 ∧ 0 < p ∧ 0 ≤ r ∧ r ≤ 97 ∧
 ∀ (l : Addr) (H' : Hp),H l = none → zx H H' → H' l = some (.lst ((zb2 p r cs).map V.int)) → Q (.ref l) H'
def zh6 (K : PySem.W.Frag) (H : Hp) (a : Addr) (pts : List (Int × Int)) : Prop:=∃ bs : List Addr,SqL K H a (bs.map V.ref) ∧ bs.length = pts.length ∧ ∀ (i : Nat) (b : Addr) (q : Int × Int),bs[i]? = some b → pts[i]? = some q → H b = some (.tup [.int q.1,.int q.2])
theorem zb4 (n : Nat) : (List.replicate n [V.int 0]).flatten = (List.replicate n (0 : Int)).map V.int:=by
 induction n with
 | zero => rfl
 | succ n ih => rw [List.replicate_succ,List.flatten_cons,ih,List.replicate_succ]; rfl
theorem zcw {n j : Nat} (h : j < n) : ixN n (j : Int) = some j:=by
 unfold ixN
 rw [if_pos (by omega),if_pos (by omega)]
 rfl
theorem zas {bs : List Addr} {i : Nat} {x : V} (h : (bs.map V.ref)[i]? = some x) : ∃ b,x = .ref b ∧ bs[i]? = some b:=by
 rw [List.getElem?_map] at h
 cases e : bs[i]? with
 | none => rw [e] at h; cases h
 | some b => rw [e] at h; exact ⟨b,(Option.some.inj h).symm,rfl⟩
theorem take_snoc {α : Type} {l : List α} {i : Nat} {x : α} (h : l[i]? = some x) : l.take (i + 1) = l.take i ++ [x]:=by
 rw [List.take_add_one,h,Option.toList]
theorem zeV {α : Type} {l : List α} {i : Nat} {x : α} (h : l[i]? = some x) : l = l.take i ++ x :: l.drop (i + 1):=by
 obtain ⟨hi,e⟩:=List.getElem?_eq_some_iff.mp h; have:=List.take_append_drop i l
 rw [List.drop_eq_getElem_cons hi,e] at this
 exact this.symm
theorem zgA {f : Int → Int → Int} {as bs : List Int} {n : Nat} (h1 : n ≤ as.length) (h2 : n ≤ bs.length) (h3 : as.length ≤ n ∨ bs.length ≤ n) : (List.zipWith f as bs).length = n:=by
 rw [List.length_zipWith]
 omega
theorem zcb {a b : Addr} {as bs : List Int} {n : Nat} {f : Int → Int → Int} {g : TG} {ts : TT} {te : TE} {σ0 : L2.St} {Q : VK} {H : Hp} (ha : H a = some (.lst (as.map V.int))) (hb : H b = some (.lst (bs.map V.int))) (h1 : n ≤ as.length) (h2 : n ≤ bs.length) (h3 : as.length ≤ n ∨ bs.length ≤ n) (hn : n ≤ 10000)
  (hs : ∀ (i : Nat) (x y : Int) (H1 : Hp) (T : Addr) (R : VK) (B : L2.St → Hp → Prop),as[i]? = some x → bs[i]? = some y → zx H H1 → H1 T = none → R (.int (f x y)) (upd H1 T (.tup [.int x,.int y])) → g (.ref T) σ0 (upd H1 T (.tup [.int x,.int y])) fun σ2 H2 => ts σ2 H2 fun b H3 => if b = true then te σ2 H3 R else B σ2 H3)
  (hd : ∀ D H1,zx H H1 → H1 D = none → Q (.ref D) (upd H1 D (.lst ((List.zipWith f as bs).map V.int)))) : cGo g ts te σ0 (zfM (SqL K) (SqL K) a b) Q H:=by
 have hl:=zgA (f:=f) h1 h2 h3
 refine z0 (n:=n) (fun i ys H' => ys = ((List.zipWith f as bs).take i).map V.int ∧ zx H H') ⟨by simp,fun _ _ e => e⟩ ?_ ?_ ?_ ?_
 ·rintro i ys H3 hi ⟨_,s3⟩
  obtain ⟨x,hx⟩ : ∃ x,as[i]? = some x:=⟨as[i]'(by omega),by simp⟩
  obtain ⟨y,hy⟩ : ∃ y,bs[i]? = some y:=⟨bs[i]'(by omega),by simp⟩
  exact ⟨_,_,.int x,.int y,SqL.of (s3 _ _ ha),SqL.of (s3 _ _ hb),by rw [List.getElem?_map,hx]; rfl,by rw [List.getElem?_map,hy]; rfl⟩
 ·rintro ys H3 ⟨_,s3⟩
  exact ⟨_,_,SqL.of (s3 _ _ ha),SqL.of (s3 _ _ hb),by rw [List.length_map,List.length_map]; exact h3⟩
 ·rintro i x ys H3 H4 hi ⟨rfl,s3⟩ ⟨T,u,v,hT,rfl,rfl,hu,hv⟩
  obtain ⟨x,rfl,hx⟩:=zW (hu _ (SqL.of (s3 _ _ ha)))
  obtain ⟨y,rfl,hy⟩:=zW (hv _ (SqL.of (s3 _ _ hb)))
  refine hs i x y H3 T _ _ hx hy s3 hT ⟨zV ?_,?_,s3.trans (zd hT)⟩
  ·rw [List.length_map]
   exact Nat.le_trans (List.length_take_le _ _) (by omega)
  ·rw [zei hx hy,List.map_append]
   rfl
 ·rintro ys H3 D ⟨rfl,s3⟩ hD
  rw [List.take_of_length_le (by omega)]
  exact hd D H3 s3 hD
theorem zbH {a : Addr} {xs fs : List V} {g : TG} {ts : TT} {te : TE} {σ0 : L2.St} {Q : VK} {H : Hp} (ha : SqL K H a xs) (hl : fs.length = xs.length) (hn : xs.length ≤ 10000)
  (hs : ∀ (i : Nat) (x y : V) (R : VK) (B : L2.St → Hp → Prop),xs[i]? = some x → fs[i]? = some y → R y H → g x σ0 H fun σ2 H2 => ts σ2 H2 fun b H3 => if b = true then te σ2 H3 R else B σ2 H3)
  (hd : ∀ D,H D = none → Q (.ref D) (upd H D (.lst fs))) : cGo g ts te σ0 (Itl K a) Q H:=by
 refine z0 (n:=xs.length) (fun i ys H' => ys = fs.take i ∧ H' = H) ⟨by simp,rfl⟩ ?_ ?_ ?_ ?_
 ·rintro i ys H3 hi ⟨_,rfl⟩
  exact ⟨_,xs[i],ha,by simp⟩
 ·rintro ys H3 ⟨_,rfl⟩
  exact ⟨_,ha,Nat.le_refl _⟩
 ·rintro i x ys H3 H4 hi ⟨rfl,rfl⟩ ⟨rfl,hx⟩
  have hy : fs[i]? = some fs[i]:=by simp
  refine hs i x fs[i] _ _ (hx _ ha) hy ⟨zV (Nat.le_trans (List.length_take_le _ _) (by omega)),?_,rfl⟩
  rw [take_snoc hy]
 ·rintro ys H3 D ⟨rfl,rfl⟩ hD
  rw [List.take_of_length_le (by omega)]
  exact hd D hD
theorem zej (ds : List Int) (lo hi : Option Int) : ∃ ms : List Int,zaE (ds.map V.int) lo hi = ms.map V.int ∧ ms.length ≤ ds.length:=by
 refine ⟨(ds.drop (HT.sIx (ds.map V.int).length 0 lo)).take (HT.sIx (ds.map V.int).length (ds.map V.int).length hi - HT.sIx (ds.map V.int).length 0 lo),?_,?_⟩
 ·unfold zaE; rw [List.map_take,List.map_drop]
 ·rw [List.length_take,List.length_drop]
  omega
theorem zek {ms : List Int} {f : Int → V} {i : Nat} {x y : V} (hx : (ms.map V.int)[i]? = some x) (hy : (ms.map f)[i]? = some y) : ∃ c,ms[i]? = some c ∧ x = .int c ∧ y = f c:=by
 obtain ⟨c,rfl,hc⟩:=zW hx
 rw [List.getElem?_map,hc] at hy
 exact ⟨c,hc,rfl,(Option.some.inj hy).symm⟩
def zdS (K : PySem.W.Frag) : Sp:=fun vs H Q _ => ∃ (a : Addr) (ns : List Int),vs = [.ref a] ∧ SqL K H a (ns.map V.int) ∧ ns.length ≤ 63 ∧ ∀ H',Q (.bl true) H'
end
end My
end
section
set_option maxHeartbeats 3999000
namespace PySem
abbrev IsZ (h : Heap) (z TI TO : Addr) (f0 f1 : Value) : Prop:=h.get? z = some { cls:=.type "zip",dict:=none,data:=.fields #[f0,f1,.bool false,.ref TI,.ref TO],slots:=#[] }
def ZF (f0 f1 : Value) : Prop:=(f0 = .none ∨ ∃ a t,f0 = .int a t) ∧ ∃ b,f1 = .bool b
structure Zap (z TI TO i1 i2 : Addr) (fp1 fp2 : List Addr) : Prop where
 zTI : TI ≠ z
 zTO : TO ≠ z
 z1 : i1 ≠ z
 z2 : i2 ≠ z
 TT : TI ≠ TO
 T1 : TI ≠ i1
 T2 : TI ≠ i2
 O1 : TO ≠ i1
 O2 : TO ≠ i2
 ii : i1 ≠ i2
 a1 : z ∉ fp1
 a2 : TO ∉ fp1
 a3 : i2 ∉ fp1
 b1 : z ∉ fp2
 b2 : TO ∉ fp2
 b3 : i1 ∉ fp2
section
variable {prog : Program} {w : World} {A : Around} {E : Value → Shared → Prop} {s : Shared}
theorem zfV {a : Addr} {Q : Option Obj → Shared → Prop} (h : Q (s.heap.get? a) s) : wpAny (model prog w) A (loadIfAlive a) Q E s:=fun _ _ _ => h
theorem zgB {z TI TO : Addr} {f0 f1 : Value} {Q : Bool → Shared → Prop} (hz : IsZ s.heap z TI TO f0 f1) (hf : ZF f0 f1) (h1 : Q true s)
  (h2 : ∀ h',IsZ h' z TI TO f0 (.bool true) → Heap.SameBut z s.heap h' → Q false { s with heap:=h' }) : wpAny (model prog w) A (Builtin.SmallTypes.ownedTupleIsFree (.ref z)) Q E s:=by
 obtain ⟨hf,b,rfl⟩:=hf
 unfold Builtin.SmallTypes.ownedTupleIsFree; rcases hf with rfl | ⟨a,t,rfl⟩
 ·exact wpAny_bind (wpAny_field hz rfl (x:=.none) rfl (wpAny_pure h1))
 ·refine wpAny_bind (wpAny_field hz rfl (x:=.int a t) rfl ?_)
  refine wpAny_bind (zfV ?_)
  cases s.heap.get? a.toNat with
  | none => exact wpAny_pure h1
  | some o =>
   refine wpAny_bind (wpAny_field hz rfl (x:=.bool b) rfl ?_)
   cases b with
   | true => exact wpAny_pure (h2 s.heap hz ⟨rfl,fun _ _ => rfl⟩)
   | false => exact wpAny_bind (wpAny_setField_rec hz (by simp) fun h' a' b' => wpAny_pure (h2 h' a' b'))
theorem zhz {z TI TO i1 i2 : Addr} {fp1 fp2 : List Addr} {n1 n2 k1 k2 : Nat} {P1 P2 : Nat → Value → Prop} {S1 S2 : Nat → Heap → Prop} {f0 f1 a b : Value} {Q : Value → Shared → Prop} (D1 : Draws prog w A i1 fp1 n1 P1 S1) (D2 : Draws prog w A i2 fp2 n2 P2 S2) (Z : Zap z TI TO i1 i2 fp1 fp2)
  (hz : IsZ s.heap z TI TO f0 f1) (hf : ZF f0 f1) (hTI : IsPair s.heap TI (.ref i1) (.ref i2)) (hTO : IsPair s.heap TO a b) (st1 : S1 k1 s.heap) (st2 : S2 k2 s.heap) (l1 : k1 < n1) (l2 : k2 < n2)
  (hQ : ∀ x y h' tk g0 g1 a' b',P1 k1 x → P2 k2 y → IsZ h' z TI TO g0 g1 → ZF g0 g1 → IsPair h' TI (.ref i1) (.ref i2) → IsPair h' TO a' b' → S1 (k1 + 1) h' → S2 (k2 + 1) h' → IsPair h' s.heap.objs.size x y → h'.objs.size = s.heap.objs.size + 1 →
   (∀ c o,c ≠ z → c ≠ TO → c ≠ i1 → c ≠ i2 → s.heap.get? c = some o → h'.get? c = some o) → Q (.ref s.heap.objs.size) { s with heap:=h',toks:=tk }) : wpAny (model prog w) A (Builtin.«zip.__next__» ⟨[.ref z],[]⟩) (fun fin s' => ∃ v,fin = .done (.ret v) ∧ Q v s') E s:=by
 obtain ⟨hp,g,d,tk0,os⟩:=s
 show wpAny _ _ (field (.ref z) 2 >>= _) _ _ _; refine wpAny_bind (wpAny_field hz rfl (x:=.bool false) rfl ?_); show wpAny _ _ (field (.ref z) 3 >>= _) _ _ _
 refine wpAny_bind (wpAny_field hz rfl (x:=.ref TI) rfl ?_); refine wpAny_bind (wpAny_seqItems hTI rfl ?_)
 show wpAny _ _ (Builtin.SmallTypes.ownedTupleIsFree (.ref z) >>= _) _ _ _; refine wpAny_bind (zgB hz hf ?_ fun h0 hz0 hs0 => ?_)
 ·simp only [if_true]
  refine wpAny_bind (wpAny_rule (wpAny_bind (wpAny_field hz rfl (x:=.ref TO) rfl ?_)))
  refine wpAny_bind (wpAny_setField_rec hz (by simp) fun ha hza hsa => ?_)
  replace hza : IsZ ha z TI TO .ellipsis f1:=hza
  replace hsa : Heap.SameBut z hp ha:=hsa
  refine wpAny_bind ?_
  simp only [List.zipIdx_cons,List.zipIdx_nil,List.forIn_cons,List.forIn_nil]; refine wpAny_bind (wpAny_bind (wpAny_onRaise ?_)); show wpAny _ _ (Builtin.SmallTypes.nextOf (.ref i1) >>= _) _ _ _
  refine wpAny_bind (D1.item k1 _ _ _ l1 (D1.frame _ _ _ st1 fun c hc o e => hsa.extBut c o (fun q => Z.a1 (q ▸ hc)) e) fun x hb tkb px stb hsb => wpAny_pure ?_)
  replace hsb : Heap.SameBut i1 ha hb:=hsb
  have hTOb : IsPair hb TO a b:=hsb.extBut _ _ Z.O1 (hsa.extBut _ _ Z.zTO hTO)
  refine wpAny_bind (wpAny_seqItems hTOb rfl (wpAny_bind (wpAny_updateSeq_pair hTOb fun hc hTOc hsc => ?_)))
  replace hTOc : IsPair hc TO x b:=hTOc
  replace hsc : Heap.SameBut TO hb hc:=hsc
  refine wpAny_bind (wpAny_letGo (wpAny_pure (wpAny_bind (wpAny_bind (wpAny_onRaise ?_))))); show wpAny _ _ (Builtin.SmallTypes.nextOf (.ref i2) >>= _) _ _ _
  refine wpAny_bind (D2.item k2 _ _ _ l2 (D2.frame _ _ _ st2 fun c hcf o e => hsc.extBut c o (fun q => Z.b2 (q ▸ hcf)) (hsb.extBut c o (fun q => Z.b3 (q ▸ hcf)) (hsa.extBut c o (fun q => Z.b1 (q ▸ hcf)) e))) fun y hd tkd py std hsd => wpAny_pure ?_)
  replace hsd : Heap.SameBut i2 hc hd:=hsd
  have hTOd : IsPair hd TO x b:=hsd.extBut _ _ Z.O2 hTOc
  refine wpAny_bind (wpAny_seqItems hTOd rfl (wpAny_bind (wpAny_updateSeq_pair hTOd fun he hTOe hse => ?_)))
  replace hTOe : IsPair he TO x y:=hTOe
  replace hse : Heap.SameBut TO hd he:=hse
  refine wpAny_bind (wpAny_letGo (wpAny_pure (wpAny_pure ?_))); refine wpAny_bind (wpAny_seqItems hTOe rfl (wpAny_bind (wpAny_newTuple ?_)))
  have hsz : he.objs.size = hp.objs.size:=by rw [hse.1,hsd.1,hsc.1,hsb.1,hsa.1]
  have hze : IsZ he z TI TO .ellipsis f1:=hse.extBut _ _ Z.zTO.symm (hsd.extBut _ _ Z.z2.symm (hsc.extBut _ _ Z.zTO.symm (hsb.extBut _ _ Z.z1.symm hza)))
  have kk : ∀ c o,c ≠ z → c ≠ TO → c ≠ i1 → c ≠ i2 → hp.get? c = some o → he.get? c = some o:=fun c o c1 c2 c3 c4 e => hse.extBut _ _ c2 (hsd.extBut _ _ c4 (hsc.extBut _ _ c2 (hsb.extBut _ _ c3 (hsa.extBut _ _ c1 e))))
  have st1e : S1 (k1 + 1) he:=D1.frame _ _ _ stb fun c hcf o e => hse.extBut c o (fun q => Z.a2 (q ▸ hcf)) (hsd.extBut c o (fun q => Z.a3 (q ▸ hcf)) (hsc.extBut c o (fun q => Z.a2 (q ▸ hcf)) e))
  have st2e : S2 (k2 + 1) he:=D2.frame _ _ _ std fun c hcf o e => hse.extBut c o (fun q => Z.b2 (q ▸ hcf)) e
  have zlt : z < he.objs.size:=Heap.lt_size hze
  show wpAny _ _ (Builtin.SmallTypes.ownedTupleHandOut (.ref z) (.ref he.objs.size) >>= _) _ _ _
  refine wpAny_bind ?_
  unfold Builtin.SmallTypes.ownedTupleHandOut; have hzf : IsZ (he.push { cls:=.type "tuple",data:=.seq #[x,y] }) z TI TO .ellipsis f1:=Heap.get?_push_of_some _ hze
  refine wpAny_bind (wpAny_setField_rec hzf (by simp) fun h7 hz7 hs7 => ?_)
  replace hz7 : IsZ h7 z TI TO (rawInt he.objs.size) f1:=hz7
  refine wpAny_setField_rec hz7 (by simp) fun h8 hz8 hs8 => wpAny_pure ⟨_,rfl,?_⟩
  replace hz8 : IsZ h8 z TI TO (rawInt he.objs.size) (.bool false):=hz8
  have up : ∀ c o,c ≠ z → he.get? c = some o → h8.get? c = some o:=fun c o c1 e => hs8.extBut _ _ c1 (hs7.extBut _ _ c1 (Heap.get?_push_of_some _ e))
  have hT8 : IsPair h8 he.objs.size x y:=hs8.extBut _ _ (Nat.ne_of_gt zlt) (hs7.extBut _ _ (Nat.ne_of_gt zlt) (Heap.get?_push_size _ rfl))
  have hs8' : h8.objs.size = he.objs.size + 1:=by rw [hs8.1,hs7.1,Heap.size_push]
  show Q (.ref he.objs.size) _
  rw [hsz] at hz8 hT8 hs8' ⊢
  exact hQ x y h8 tkd _ _ _ _ px py hz8 ⟨.inr ⟨_,_,rfl⟩,_,rfl⟩ (up _ _ Z.zTI (kk _ _ Z.zTI Z.TT Z.T1 Z.T2 hTI)) (up _ _ Z.zTO hTOe) (D1.frame _ _ _ st1e fun c hcf o e => up c o (fun q => Z.a1 (q ▸ hcf)) e) (D2.frame _ _ _ st2e fun c hcf o e => up c o (fun q => Z.b1 (q ▸ hcf)) e) hT8 hs8' fun c o c1 c2 c3 c4 e => up c o c1 (kk c o c1 c2 c3 c4 e)
 ·simp only [Bool.false_eq_true,if_false]; replace hs0 : Heap.SameBut z hp h0:=hs0
  rw [show (#[Value.ref i1,Value.ref i2] : Array Value) = [Value.ref i1,Value.ref i2].toArray from rfl]
  simp only [List.forIn_toArray,List.forIn_cons,List.forIn_nil]
  refine wpAny_bind (wpAny_bind (wpAny_bind (wpAny_holding ?_))); show wpAny _ _ (Builtin.SmallTypes.nextOf (.ref i1) >>= _) _ _ _
  refine wpAny_bind (D1.item k1 _ _ _ l1 (D1.frame _ _ _ st1 fun c hc o e => hs0.extBut c o (fun q => Z.a1 (q ▸ hc)) e) fun x hb tkb px stb hsb => wpAny_pure (wpAny_pure ?_))
  replace hsb : Heap.SameBut i1 h0 hb:=hsb
  refine wpAny_bind (wpAny_bind (wpAny_holding ?_)); show wpAny _ _ (Builtin.SmallTypes.nextOf (.ref i2) >>= _) _ _ _
  refine wpAny_bind (D2.item k2 _ _ _ l2 (D2.frame _ _ _ st2 fun c hcf o e => hsb.extBut c o (fun q => Z.b3 (q ▸ hcf)) (hs0.extBut c o (fun q => Z.b1 (q ▸ hcf)) e)) fun y hd tkd py std hsd => wpAny_pure (wpAny_pure (wpAny_pure ?_)))
  replace hsd : Heap.SameBut i2 hb hd:=hsd
  show wpAny _ _ (newTuple [x,y] >>= _) _ _ _
  refine wpAny_bind (wpAny_newTuple (wpAny_pure ⟨_,rfl,?_⟩))
  have hsz : hd.objs.size = hp.objs.size:=by rw [hsd.1,hsb.1,hs0.1]
  have kk : ∀ c o,c ≠ z → c ≠ TO → c ≠ i1 → c ≠ i2 → hp.get? c = some o → hd.get? c = some o:=fun c o c1 c2 c3 c4 e => hsd.extBut _ _ c4 (hsb.extBut _ _ c3 (hs0.extBut _ _ c1 e))
  have hzd : IsZ hd z TI TO f0 (.bool true):=hsd.extBut _ _ Z.z2.symm (hsb.extBut _ _ Z.z1.symm hz0)
  have hTOd : IsPair hd TO a b:=hsd.extBut _ _ Z.O2 (hsb.extBut _ _ Z.O1 (hs0.extBut _ _ Z.zTO hTO))
  have st1d : S1 (k1 + 1) hd:=D1.frame _ _ _ stb fun c hcf o e => hsd.extBut c o (fun q => Z.a3 (q ▸ hcf)) e
  have up : ∀ c o,hd.get? c = some o → (hd.push { cls:=.type "tuple",data:=.seq #[x,y] }).get? c = some o:=fun c o e => Heap.get?_push_of_some _ e
  have hT8 : IsPair (hd.push { cls:=.type "tuple",data:=.seq #[x,y] }) hd.objs.size x y:=Heap.get?_push_size _ rfl
  have hs8' : (hd.push { cls:=.type "tuple",data:=.seq #[x,y] }).objs.size = hd.objs.size + 1:=Heap.size_push ..
  show Q (.ref hd.objs.size) _
  rw [hsz] at hT8 hs8' ⊢
  exact hQ x y _ tkd _ _ _ _ px py (up _ _ hzd) ⟨hf.1,_,rfl⟩ (up _ _ (kk _ _ Z.zTI Z.TT Z.T1 Z.T2 hTI)) (up _ _ hTOd) (D1.frame _ _ _ st1d fun c _ o e => up c o e) (D2.frame _ _ _ std fun c _ o e => up c o e) hT8 hs8' fun c o c1 c2 c3 c4 e => up c o (kk c o c1 c2 c3 c4 e)
theorem ziI {z TI TO i1 i2 : Addr} {fp1 fp2 : List Addr} {n1 n2 k1 k2 : Nat} {P1 P2 : Nat → Value → Prop} {S1 S2 : Nat → Heap → Prop} {f0 f1 a b : Value} {Q : Fin → Shared → Prop} (D1 : Draws prog w A i1 fp1 n1 P1 S1) (D2 : Draws prog w A i2 fp2 n2 P2 S2) (Z : Zap z TI TO i1 i2 fp1 fp2)
  (hz : IsZ s.heap z TI TO f0 f1) (hf : ZF f0 f1) (hTI : IsPair s.heap TI (.ref i1) (.ref i2)) (hTO : IsPair s.heap TO a b) (st1 : S1 k1 s.heap) (st2 : S2 k2 s.heap) (l1 : k1 = n1 ∨ (k1 < n1 ∧ k2 = n2))
  (hE : ∀ h' tk e,(∀ c o,c ≠ z → c ≠ TO → c ≠ i1 → c ≠ i2 → s.heap.get? c = some o → h'.get? c = some o) → (∃ o,h'.get? e = some o ∧ o.cls = .type "StopIteration") → E (.ref e) { s with heap:=h',toks:=tk }) : wpAny (model prog w) A (Builtin.«zip.__next__» ⟨[.ref z],[]⟩) Q E s:=by
 obtain ⟨hp,g,d,tk0,os⟩:=s
 have nz : ∀ {h : Heap} {e : Addr} {o : Obj} {x y : Value},IsZ h z TI TO x y → h.get? e = some o → o.cls = .type "StopIteration" → e ≠ z:=fun h1 h2 h3 q => by subst q; rw [h1] at h2; cases h2; simp at h3
 show wpAny _ _ (field (.ref z) 2 >>= _) _ _ _; refine wpAny_bind (wpAny_field hz rfl (x:=.bool false) rfl ?_); show wpAny _ _ (field (.ref z) 3 >>= _) _ _ _
 refine wpAny_bind (wpAny_field hz rfl (x:=.ref TI) rfl ?_); refine wpAny_bind (wpAny_seqItems hTI rfl ?_)
 show wpAny _ _ (Builtin.SmallTypes.ownedTupleIsFree (.ref z) >>= _) _ _ _; refine wpAny_bind (zgB hz hf ?_ fun h0 hz0 hs0 => ?_)
 ·simp only [if_true]
  refine wpAny_bind (wpAny_rule (wpAny_bind (wpAny_field hz rfl (x:=.ref TO) rfl ?_)))
  refine wpAny_bind (wpAny_setField_rec hz (by simp) fun ha hza hsa => ?_)
  replace hza : IsZ ha z TI TO .ellipsis f1:=hza
  replace hsa : Heap.SameBut z hp ha:=hsa
  refine wpAny_bind ?_
  simp only [List.zipIdx_cons,List.zipIdx_nil,List.forIn_cons,List.forIn_nil]; refine wpAny_bind (wpAny_bind (wpAny_onRaise ?_)); show wpAny _ _ (Builtin.SmallTypes.nextOf (.ref i1) >>= _) _ _ _
  have st1a : S1 k1 ha:=D1.frame _ _ _ st1 fun c hc o e => hsa.extBut c o (fun q => Z.a1 (q ▸ hc)) e
  rcases l1 with rfl | ⟨l1,rfl⟩
  ·refine wpAny_bind (D1.done _ _ _ st1a fun hb e hsb ⟨oe,hoe,hce⟩ => ?_)
   have hzb : IsZ hb z TI TO .ellipsis f1:=hsb _ _ Z.z1.symm hza
   exact wpAny_setField_rec hzb (by simp) fun h3 _ hs3 => hE h3 tk0 e (fun c o c1 _ c3 _ x => hs3.extBut _ _ c1 (hsb _ _ c3 (hsa.extBut _ _ c1 x))) ⟨oe,hs3.extBut _ _ (nz hzb hoe hce) hoe,hce⟩
  ·refine wpAny_bind (D1.item k1 _ _ _ l1 st1a fun x hb tkb px stb hsb => wpAny_pure ?_)
   replace hsb : Heap.SameBut i1 ha hb:=hsb
   have hTOb : IsPair hb TO a b:=hsb.extBut _ _ Z.O1 (hsa.extBut _ _ Z.zTO hTO)
   refine wpAny_bind (wpAny_seqItems hTOb rfl (wpAny_bind (wpAny_updateSeq_pair hTOb fun hc hTOc hsc => ?_)))
   replace hsc : Heap.SameBut TO hb hc:=hsc
   refine wpAny_bind (wpAny_letGo (wpAny_pure (wpAny_bind (wpAny_bind (wpAny_onRaise ?_))))); show wpAny _ _ (Builtin.SmallTypes.nextOf (.ref i2) >>= _) _ _ _
   refine wpAny_bind (D2.done _ _ _ (D2.frame _ _ _ st2 fun c hcf o e => hsc.extBut c o (fun q => Z.b2 (q ▸ hcf)) (hsb.extBut c o (fun q => Z.b3 (q ▸ hcf)) (hsa.extBut c o (fun q => Z.b1 (q ▸ hcf)) e))) fun hd e hsd ⟨oe,hoe,hce⟩ => ?_)
   have hzd : IsZ hd z TI TO .ellipsis f1:=hsd _ _ Z.z2.symm (hsc.extBut _ _ Z.zTO.symm (hsb.extBut _ _ Z.z1.symm hza))
   exact wpAny_setField_rec hzd (by simp) fun h3 _ hs3 => hE h3 tkb e (fun c o c1 c2 c3 c4 x => hs3.extBut _ _ c1 (hsd _ _ c4 (hsc.extBut _ _ c2 (hsb.extBut _ _ c3 (hsa.extBut _ _ c1 x))))) ⟨oe,hs3.extBut _ _ (nz hzd hoe hce) hoe,hce⟩
 ·simp only [Bool.false_eq_true,if_false]; replace hs0 : Heap.SameBut z hp h0:=hs0
  rw [show (#[Value.ref i1,Value.ref i2] : Array Value) = [Value.ref i1,Value.ref i2].toArray from rfl]
  simp only [List.forIn_toArray,List.forIn_cons,List.forIn_nil]
  refine wpAny_bind (wpAny_bind (wpAny_bind (wpAny_holding ?_))); show wpAny _ _ (Builtin.SmallTypes.nextOf (.ref i1) >>= _) _ _ _
  have st1a : S1 k1 h0:=D1.frame _ _ _ st1 fun c hc o e => hs0.extBut c o (fun q => Z.a1 (q ▸ hc)) e
  rcases l1 with rfl | ⟨l1,rfl⟩
  ·exact wpAny_bind (D1.done _ _ _ st1a fun hb e hsb he => hE hb tk0 e (fun c o c1 _ c3 _ x => hsb _ _ c3 (hs0.extBut _ _ c1 x)) he)
  ·refine wpAny_bind (D1.item k1 _ _ _ l1 st1a fun x hb tkb px stb hsb => wpAny_pure (wpAny_pure ?_))
   replace hsb : Heap.SameBut i1 h0 hb:=hsb
   refine wpAny_bind (wpAny_bind (wpAny_holding ?_)); show wpAny _ _ (Builtin.SmallTypes.nextOf (.ref i2) >>= _) _ _ _
   exact wpAny_bind (D2.done _ _ _ (D2.frame _ _ _ st2 fun c hcf o e => hsb.extBut c o (fun q => Z.b3 (q ▸ hcf)) (hs0.extBut c o (fun q => Z.b1 (q ▸ hcf)) e)) fun hd e hsd he => hE hd tkb e (fun c o c1 _ c3 c4 x => hsd _ _ c4 (hsb.extBut _ _ c3 (hs0.extBut _ _ c1 x))) he)
end
end PySem
namespace PySem
def zh7 (l : Addr) : Obj:={ cls:=.type "list_iterator",data:=.fields #[.ref l,.int 0 0] }
def zdT (x y : Value) : Obj:={ cls:=.type "tuple",data:=.seq #[x,y] }
def zjr (a b : Addr) : Obj:={ cls:=.type "zip",data:=.fields #[.none,.bool false,.bool false,.ref a,.ref b] }
abbrev zt2 (h : Heap) (l1 l2 : Addr) : Heap:=(h.push (zbn l1)).push (zh7 l2)
abbrev zt4 (h : Heap) (l1 l2 : Addr) : Heap:=((zt2 h l1 l2).push (zdT (.ref h.objs.size) (.ref (h.push (zbn l1)).objs.size))).push (zdT .none .none)
abbrev zt5 (h : Heap) (l1 l2 : Addr) : Heap:=(zt4 h l1 l2).push (zjr (zt2 h l1 l2).objs.size ((zt2 h l1 l2).push (zdT (.ref h.objs.size) (.ref (h.push (zbn l1)).objs.size))).objs.size)
theorem zel (l1 l2 : Addr) (xs ys : Array Value) : Meets (Builtin.«zip.__new__» ⟨[.type "zip",.ref l1,.ref l2],[]⟩) (fun _ R s => s.heap.IsTuple l1 xs ∧ s.heap.IsList l2 ys ∧ R (.ok (.ret (.ref (zt4 s.heap l1 l2).objs.size))) { s with heap:=zt5 s.heap l1 l2 }) :=
 .of_wp fun prog w A R s h => by
  obtain ⟨hp,g,d,tk,os⟩:=s; obtain ⟨hl1,hl2,h⟩:=h; have hsub:=sub_zip
  have hL1 : Heap.IsTuple (Shared.heap ⟨hp,g,d,tk,os⟩) l1 xs:=hl1
  have hL2 : Heap.IsList (Shared.heap ⟨hp.push { cls:=.type "tuple_iterator",data:=.fields #[.ref l1,.int 0 0] },g,d,tk,os⟩) l2 ys:=Heap.IsList.push hl2 _
  wp_walk using wpAny_pyIter_tuple hL1,wpAny_pyIter_list hL2
  exact ⟨_,rfl,h⟩
section
variable {prog : Program} {w : World} {A : Around} {E : Value → Shared → Prop} {s : Shared}
theorem zeW {l1 l2 : Addr} {xs ys : Array Value} {Q : Value → Shared → Prop} (hl1 : s.heap.IsTuple l1 xs) (hl2 : s.heap.IsList l2 ys)
  (h : ∀ h' n,n = s.heap.objs.size → IsZ h' (n + 4) (n + 2) (n + 3) .none (.bool false) → IsPair h' (n + 2) (.ref n) (.ref (n + 1)) → IsPair h' (n + 3) .none .none → h'.IsTupleIter n l1 0 → h'.IsListIter (n + 1) l2 0 → h'.objs.size = n + 5 →
   (∀ c o,s.heap.get? c = some o → h'.get? c = some o) → Q (.ref (n + 4)) { s with heap:=h' }) : wpAny (model prog w) A (call (.type "zip") [.ref l1,.ref l2]) Q E s:=by
 refine callType_new F.called_zip (by decide) (F.typeCall_zip_2 _ _) (F.newCall_zip_2 _ _) (fun obj => F.args_object_init_3 obj _ _) F.entry_zip_new (zel l1 l2 xs ys) ⟨hl1,hl2,?_⟩
 have z1 : (s.heap.push (zbn l1)).objs.size = s.heap.objs.size + 1:=Heap.size_push ..
 have z2 : (zt2 s.heap l1 l2).objs.size = s.heap.objs.size + 2:=by rw [Heap.size_push,z1]
 have z3 : ((zt2 s.heap l1 l2).push (zdT (.ref s.heap.objs.size) (.ref (s.heap.push (zbn l1)).objs.size))).objs.size = s.heap.objs.size + 3:=by rw [Heap.size_push,z2]
 have z4 : (zt4 s.heap l1 l2).objs.size = s.heap.objs.size + 4:=by rw [Heap.size_push,z3]
 have g5:=Heap.get?_push_size (zt4 s.heap l1 l2) (o:=zjr (zt2 s.heap l1 l2).objs.size ((zt2 s.heap l1 l2).push (zdT (.ref s.heap.objs.size) (.ref (s.heap.push (zbn l1)).objs.size))).objs.size) rfl
 have g4 : (zt5 s.heap l1 l2).get? _ = some _:=Heap.get?_push_of_some _ (Heap.get?_push_size ((zt2 s.heap l1 l2).push (zdT (.ref s.heap.objs.size) (.ref (s.heap.push (zbn l1)).objs.size))) (o:=zdT .none .none) rfl)
 have g3 : (zt5 s.heap l1 l2).get? _ = some _:=Heap.get?_push_of_some _ (Heap.get?_push_of_some _ (Heap.get?_push_size (zt2 s.heap l1 l2) (o:=zdT (.ref s.heap.objs.size) (.ref (s.heap.push (zbn l1)).objs.size)) rfl))
 have g2 : (zt5 s.heap l1 l2).get? _ = some _:=Heap.get?_push_of_some _ (Heap.get?_push_of_some _ (Heap.get?_push_of_some _ (Heap.get?_push_size (s.heap.push (zbn l1)) (o:=zh7 l2) rfl)))
 have g1 : (zt5 s.heap l1 l2).get? s.heap.objs.size = some (zbn l1):=Heap.get?_push_of_some _ (Heap.get?_push_of_some _ (Heap.get?_push_of_some _ (Heap.get?_push_of_some _ (Heap.get?_push_size _ rfl))))
 have z5 : (zt5 s.heap l1 l2).objs.size = s.heap.objs.size + 5:=by rw [Heap.size_push,z4]
 have k5 : ∀ c o,s.heap.get? c = some o → (zt5 s.heap l1 l2).get? c = some o:=fun c o x => Heap.get?_push_of_some _ (Heap.get?_push_of_some _ (Heap.get?_push_of_some _ (Heap.get?_push_of_some _ (Heap.get?_push_of_some _ x))))
 show _ ∧ _
 rw [z4] at g5 ⊢
 rw [z3] at g4
 rw [z2] at g3
 rw [z1] at g2
 refine ⟨⟨_,g5,rfl⟩,h _ _ rfl ?_ ?_ g4 ⟨_,g1,rfl,rfl⟩ ⟨_,g2,rfl,rfl⟩ z5 k5⟩
 ·have : IsZ (zt5 s.heap l1 l2) (s.heap.objs.size + 4) (zt2 s.heap l1 l2).objs.size ((zt2 s.heap l1 l2).push (zdT (.ref s.heap.objs.size) (.ref (s.heap.push (zbn l1)).objs.size))).objs.size .none (.bool false):=g5
  rw [z2,z3] at this
  exact this
 ·have : IsPair (zt5 s.heap l1 l2) (s.heap.objs.size + 2) (.ref s.heap.objs.size) (.ref (s.heap.push (zbn l1)).objs.size):=g3
  rw [z1] at this
  exact this
end
end PySem
end
section
set_option maxHeartbeats 3999000
namespace L2
open PySem PySem.Spec PyProof.Rows
theorem nq {x y : Nat} (h : x ≠ y) : @Ne Addr x y:=h
theorem nl {x y : Nat} (h : x < y) : @LT.lt Nat _ x y:=h
theorem nm2 {c x y : Nat} (h1 : c ≠ x) (h2 : c ≠ y) : ¬ @Membership.mem Addr (List Addr) _ [x,y] c:=fun h => by
 rcases List.mem_cons.mp h with e | e
 ·exact h1 e
 ·exact h2 (List.mem_singleton.mp e)
theorem zfn {n a b : Nat} (ha : a < n) (hb : b < n) : Zap (n + 4) (n + 2) (n + 3) n (n + 1) [n,a] [n + 1,b] :=
 ⟨nq (by omega),nq (by omega),nq (by omega),nq (by omega),nq (by omega),nq (by omega),nq (by omega),nq (by omega),nq (by omega),nq (by omega),nm2 (by omega) (by omega),nm2 (by omega) (by omega),nm2 (by omega) (by omega),nm2 (by omega) (by omega),nm2 (by omega) (by omega),nm2 (by omega) (by omega)⟩
end L2
end
section
set_option maxHeartbeats 3999000
namespace L2
open PySem PySem.Spec PyProof.Rows
end L2
end
section
set_option maxHeartbeats 3999000
namespace My
open PySem L2 PyProof.Rows
section
variable {K : PySem.W.Frag}
def zbj (H : Hp) (c tt : Addr) (p k : Int) (pl : List Int) : Prop:=H c = some (.tup [.int p,.int k,.ref tt]) ∧ H tt = some (.tup (pl.map V.int))
theorem zbj.same {H H' : Hp} {c tt : Addr} {p k : Int} {pl : List Int} (s : zx H H') (h : zbj H c tt p k pl) : zbj H' c tt p k pl:=⟨s _ _ h.1,s _ _ h.2⟩
def enc : Option Int → V
 | none => .non
 | some i => .int i
theorem zcx {rw : List (Option Int)} {j : Nat} {x : V} (h : (rw.map enc)[j]? = some x) : ∃ o,x = enc o ∧ rw[j]? = some o:=by
 rw [List.getElem?_map] at h
 cases e : rw[j]? with
 | none => rw [e] at h; cases h
 | some c => rw [e] at h; exact ⟨c,(Option.some.inj h).symm,rfl⟩
end
end My
end
section
set_option maxHeartbeats 3999000
namespace My
open PySem L2 PyProof.Rows
section
variable {K : PySem.W.Frag}
end
end My
end
section
set_option maxHeartbeats 3998000
namespace PySem
section
variable {prog : Program} {w : World} {A : Around} {E : Value → Shared → Prop} {s : Shared}
theorem zhA {z TI TO i1 i2 : Addr} {fp1 fp2 : List Addr} {n1 n2 k1 k2 : Nat} {P1 P2 : Nat → Value → Prop} {S1 S2 : Nat → Heap → Prop} {f0 f1 a b : Value} {Q : Option Value → Shared → Prop} (D1 : Draws prog w A.in1 i1 fp1 n1 P1 S1) (D2 : Draws prog w A.in1 i2 fp2 n2 P2 S2) (Z : Zap z TI TO i1 i2 fp1 fp2)
  (hz : IsZ s.heap z TI TO f0 f1) (hf : ZF f0 f1) (hTI : IsPair s.heap TI (.ref i1) (.ref i2)) (hTO : IsPair s.heap TO a b) (st1 : S1 k1 s.heap) (st2 : S2 k2 s.heap) (l1 : k1 < n1) (l2 : k2 < n2)
  (hQ : ∀ x y h' tk g0 g1 a' b',P1 k1 x → P2 k2 y → IsZ h' z TI TO g0 g1 → ZF g0 g1 → IsPair h' TI (.ref i1) (.ref i2) → IsPair h' TO a' b' → S1 (k1 + 1) h' → S2 (k2 + 1) h' → IsPair h' s.heap.objs.size x y → h'.objs.size = s.heap.objs.size + 1 →
   (∀ c o,c ≠ z → c ≠ TO → c ≠ i1 → c ≠ i2 → s.heap.get? c = some o → h'.get? c = some o) → Q (some (.ref s.heap.objs.size)) { s with heap:=h',toks:=tk }) : wpAny (model prog w) A (pyNext (.ref z)) Q E s:=by
 have hTz : s.TypeIs (.ref z) "zip":=⟨_,hz,rfl⟩
 unfold pyNext
 refine wpAny_bind (wpAny_attempt (wpAny_callSpecial?_slot (name:=Str.ofString "__next__") hTz F.slot_zip_next (wpAny_call_entry F.slot_zip_next hTz F.entry_zip_next ?_ (F.args_zip_next_1 _))))
 exact zhz D1 D2 Z hz hf hTI hTO st1 st2 l1 l2 fun x y h1 tk g0 g1 a' b' px py hz1 hf1 hTI1 hTO1 st1' st2' hp1 hsz1 kk => wpAny_pure (hQ x y h1 tk g0 g1 a' b' px py hz1 hf1 hTI1 hTO1 st1' st2' hp1 hsz1 kk)
theorem ziJ {z TI TO i1 i2 : Addr} {fp1 fp2 : List Addr} {n1 n2 k1 k2 : Nat} {P1 P2 : Nat → Value → Prop} {S1 S2 : Nat → Heap → Prop} {f0 f1 a b : Value} {Q : Option Value → Shared → Prop} (D1 : Draws prog w A.in1 i1 fp1 n1 P1 S1) (D2 : Draws prog w A.in1 i2 fp2 n2 P2 S2) (Z : Zap z TI TO i1 i2 fp1 fp2)
  (hz : IsZ s.heap z TI TO f0 f1) (hf : ZF f0 f1) (hTI : IsPair s.heap TI (.ref i1) (.ref i2)) (hTO : IsPair s.heap TO a b) (st1 : S1 k1 s.heap) (st2 : S2 k2 s.heap) (l1 : k1 = n1 ∨ (k1 < n1 ∧ k2 = n2))
  (hQ : ∀ h' tk,(∀ c o,c ≠ z → c ≠ TO → c ≠ i1 → c ≠ i2 → s.heap.get? c = some o → h'.get? c = some o) → Q none { s with heap:=h',toks:=tk }) : wpAny (model prog w) A (pyNext (.ref z)) Q E s:=by
 have hTz : s.TypeIs (.ref z) "zip":=⟨_,hz,rfl⟩
 unfold pyNext
 refine wpAny_bind (wpAny_attempt (wpAny_callSpecial?_slot (name:=Str.ofString "__next__") hTz F.slot_zip_next (wpAny_call_entry F.slot_zip_next hTz F.entry_zip_next ?_ (F.args_zip_next_1 _))))
 refine ziI D1 D2 Z hz hf hTI hTO st1 st2 l1 fun h' tk x kk ⟨o,ho,hc⟩ => ?_
 exact wpAny_bind (wpAny_isInstance (T:="StopIteration") (b:=true) ⟨o,ho,hc⟩ isSubtype_stop (wpAny_pure (hQ h' tk kk)))
theorem zfo {z TI TO : Addr} {f0 f1 : Value} {Q : Value → Shared → Prop} (hz : IsZ s.heap z TI TO f0 f1) (h : Q (.ref z) s) : wpAny (model prog w) A (pyIter (.ref z)) Q E s:=by
 have hT : s.TypeIs (.ref z) "zip":=⟨_,hz,rfl⟩; refine wpAny_pyIter_slot hT F.slot_zip_iter (wpAny_call_entry F.slot_zip_iter hT F.entry_zip_iter ?_ (F.args_zip_iter_1 _))
 show wpAny _ _ (ret (.ref z)) _ _ s; exact wpAny_pure ⟨_,rfl,"zip",_,hT,F.slot_zip_next.lookup,h⟩
theorem zjs {elts : List Expr} {x1} {pos : Pos} {z TI TO T : Addr} {f0 f1 : Value} {Q : Unit → Shared → Prop} (hz : IsZ s.heap z TI TO f0 f1) (hf : ZF f0 f1)
  (hQ : ∀ h' g0,IsZ h' z TI TO g0 f1 → ZF g0 f1 → Heap.SameBut z s.heap h' → Q () { s with heap:=h' }) : wpAny (model prog w) A (letOwnedTupleGo (.Tuple elts x1 pos) (.ref z) (.ref T)) Q E s:=by
 unfold letOwnedTupleGo; refine wpAny_bind (wpAny_load hz ?_)
 show wpAny _ _ (if _ then _ else _) Q E s
 split
 ·refine wpAny_bind (wpAny_rule ?_); show wpAny _ _ (setField (.ref z) 0 .none) Q E s
  exact wpAny_setField_rec hz (by simp) fun h' hz' hs' => hQ h' .none hz' ⟨.inl rfl,hf.2⟩ hs'
 ·exact wpAny_pure (hQ s.heap f0 hz hf ⟨rfl,fun _ _ => rfl⟩)
end
end PySem
namespace L2
open PySem PySem.Spec PyProof.Rows
def ziK (Sq1 Sq2 : Hp → Addr → List V → Prop) (a b : Addr) : It :=
 ⟨(zfM Sq1 Sq2 a b).go,(zfM Sq1 Sq2 a b).yld,fun i H => ∃ xs ys,Sq1 H a xs ∧ Sq2 H b ys ∧ (xs.length = i ∨ (i < xs.length ∧ ys.length = i))⟩
abbrev zdg (n : Nat) : List Addr:=[n + 4,n + 2,n + 3,n,n + 1]
abbrev zjt (n a b : Nat) (i : Nat) (h : Heap) : Prop:=(∃ f0 f1,IsZ h (n + 4) (n + 2) (n + 3) f0 f1 ∧ ZF f0 f1) ∧ IsPair h (n + 2) (.ref n) (.ref (n + 1)) ∧ (∃ u v,IsPair h (n + 3) u v) ∧ h.IsTupleIter n a i ∧ h.IsListIter (n + 1) b i
theorem zgC {P : Program} {w : World} {K : PySem.W.Frag} {es : List Expr} {k : Nat} {pos : Pos} (a b n : Nat) (ha : a < n) (hb : b < n) : Turn P w K (.Tuple es k pos) (ziK (SqT K) (SqL K) a b) (zdg n) (n + 4) (zjt n a b) where
 mem:=by simp
 obj:=fun i h st c hc => by
  obtain ⟨⟨f0,f1,h1,_⟩,h2,⟨u,v,h3⟩,⟨o4,e4,_,d4⟩,⟨o5,e5,_,d5⟩⟩:=st
  simp only [zdg,List.mem_cons,List.not_mem_nil,or_false] at hc
  rcases hc with z | z | z | z | z <;> subst z
  ·exact ⟨_,h1,fun v z => by cases z⟩
  ·exact ⟨_,h2,fun v z => by cases z⟩
  ·exact ⟨_,h3,fun v z => by cases z⟩
  ·exact ⟨_,e4,fun v z => by rw [d4] at z; cases z⟩
  ·exact ⟨_,e5,fun v z => by rw [d5] at z; cases z⟩
 keep:=fun i h h' st kk => by
  obtain ⟨⟨f0,f1,h1,hf⟩,h2,⟨u,v,h3⟩,h4,h5⟩:=st
  exact ⟨⟨f0,f1,kk _ (by simp) _ h1,hf⟩,kk _ (by simp) _ h2,⟨u,v,kk _ (by simp) _ h3⟩,h4.at fun o eo => kk _ (by simp) o eo,h5.at fun o eo => kk _ (by simp) o eo⟩
 item:=by
  intro X hP hw hK hc i pins s σ H E I hf st hg
  subst hP hw hK
  obtain ⟨xs,ys,x,y,hq1,hq2,hx,hy⟩:=hg
  obtain ⟨⟨f0,f1,h1,hzf⟩,h2,⟨u0,v0,h3⟩,h4,h5⟩:=st
  obtain ⟨its1,rv1,p1,hz1⟩:=I.tuple hq1
  obtain ⟨its2,rv2,p2,hz2⟩:=I.list hq2
  obtain ⟨u,hu,ru⟩:=rv1.get hx
  obtain ⟨v,hv,rv⟩:=rv2.get hy
  have hes : n + 4 < s.heap.objs.size:=Heap.lt_size h1
  have hh : X.A.in1.handled = none:=by simp [I.ok.hd hc]
  have hlt1 : i < its1.toArray.size:=by have:=(List.getElem?_eq_some_iff.mp hu).1; simpa using this
  have hlt2 : i < its2.toArray.size:=by have:=(List.getElem?_eq_some_iff.mp hv).1; simpa using this
  refine zhA (Draws.tuple hh n a (nq (by omega)) its1.toArray) (Draws.list hh (n + 1) b (nq (by omega)) its2.toArray) (zfn ha hb) h1 hzf h2 h3 ⟨h4,(show s.heap.IsTuple a its1.toArray from p1)⟩ ⟨h5,p2.isList⟩ hlt1 hlt2
   fun x' y' h' tk g0 g1 a' b' px py ez ezf e2 e3 t4 t5 pp hsz kk => ?_
  have eu : x' = u:=by
   have e1 : its1[i]? = some x':=by simpa using px
   rw [hu] at e1; exact (Option.some.inj e1).symm
  have ev : y' = v:=by
   have e1 : its2[i]? = some y':=by simpa using py
   rw [hv] at e1; exact (Option.some.inj e1).symm
  subst eu ev
  have ch : ∀ c ∈ [n + 4,n + 3,n,n + 1],c ∈ zdg n:=fun c hc' => by
   simp only [zdg,List.mem_cons,List.not_mem_nil,or_false] at hc' ⊢
   rcases hc' with z | z | z | z <;> subst z <;> simp
  have k1 : ∀ c o,c ∉ [n + 4,n + 3,n,n + 1] → s.heap.get? c = some o → h'.get? c = some o:=fun c o hc' eo => by
   simp only [List.mem_cons,List.not_mem_nil,or_false,not_or] at hc'
   exact kk c o hc'.1 hc'.2.1 hc'.2.2.1 hc'.2.2.2 eo
  have th1 : ∀ c ∈ [n + 4,n + 3,n,n + 1],∃ o,h'.get? c = some o:=fun c hc' => by
   simp only [List.mem_cons,List.not_mem_nil,or_false] at hc'
   rcases hc' with z | z | z | z <;> subst z
   ·exact ⟨_,ez⟩
   ·exact ⟨_,e3⟩
   ·obtain ⟨o,e,_⟩:=t4.1; exact ⟨o,e⟩
   ·obtain ⟨o,e,_⟩:=t5.1; exact ⟨o,e⟩
  have I1 : Inv X pins σ (upd H s.heap.objs.size (.tup [x,y])) { s with heap:=h',toks:=tk } :=
   I.turnedNew k1 (fun c hc' => hf c (ch c hc')) th1 (Nat.le_refl _) ⟨zaO,_,.cons ru (.cons rv .nil),zbU pp⟩
  refine ⟨_,rfl,zjs (s:={ s with heap:=h',toks:=tk }) ez ezf fun h'' g2 hz'' hzf'' hs'' => ?_⟩
  have fr : ∀ c ∈ zdg n,upd H s.heap.objs.size (.tup [x,y]) c = none:=fun c hc' => by
   have hlt : c < s.heap.objs.size:=by
    simp only [zdg,List.mem_cons,List.not_mem_nil,or_false] at hc'
    rcases hc' with z | z | z | z | z <;> subst z <;> exact nl (by omega)
   rw [zo (Nat.ne_of_lt hlt)]
   exact (hf c hc').1
  have I2 : Inv X pins σ (upd H s.heap.objs.size (.tup [x,y])) { s with heap:=h'',toks:=tk } :=
   Inv.turnedL (s:={ s with heap:=h',toks:=tk }) (ch:=[n + 4]) (t':=tk) I1 (fun c o hc' eo => hs''.extBut c o (by simpa using hc') eo) (fun c hc' => by
    have z : c = n + 4:=by simpa using hc'
    subst z
    exact ⟨fr _ (by simp),(hf _ (by simp)).2⟩) (fun c hc' => by
    have z : c = n + 4:=by simpa using hc'
    subst z
    exact ⟨_,hz''⟩)
  have up : ∀ c o,c ≠ n + 4 → h'.get? c = some o → h''.get? c = some o:=fun c o hc' e => hs''.extBut c o hc' e
  exact ⟨.ref s.heap.objs.size,_,I2,rfl,⟨_,x,y,I.fresh,rfl,rfl,fun zs hz => by rw [I.tuple_inj hz hq1]; exact hx,fun zs hz => by rw [I.list_inj hz hq2]; exact hy⟩,
   ⟨⟨g2,g1,hz'',hzf''⟩,up _ _ (nq (by omega)) e2,⟨_,_,up _ _ (nq (by omega)) e3⟩,t4.1.at fun o e => up _ o (nq (by omega)) e,t5.1.at fun o e => up _ o (nq (by omega)) e⟩,fr⟩
 done:=by
  intro X hP hw hK hc i pins s σ H E I hf st hg
  subst hP hw hK
  obtain ⟨xs,ys,hq1,hq2,hx⟩:=hg
  obtain ⟨⟨f0,f1,h1,hzf⟩,h2,⟨u0,v0,h3⟩,h4,h5⟩:=st
  obtain ⟨its1,rv1,p1,hz1⟩:=I.tuple hq1
  obtain ⟨its2,rv2,p2,hz2⟩:=I.list hq2
  have hh : X.A.in1.handled = none:=by simp [I.ok.hd hc]
  have hl1:=rv1.length
  have hl2:=rv2.length
  refine ziJ (Draws.tuple hh n a (nq (by omega)) its1.toArray) (Draws.list hh (n + 1) b (nq (by omega)) its2.toArray) (zfn ha hb) h1 hzf h2 h3 ⟨h4,(show s.heap.IsTuple a its1.toArray from p1)⟩ ⟨h5,p2.isList⟩ (by rw [List.size_toArray,List.size_toArray]; omega) fun h' tk kk => ⟨rfl,?_⟩
  have sub : ∀ c ∈ [n + 4,n + 3,n,n + 1],c ∈ zdg n:=fun c hc' => by
   simp only [zdg,List.mem_cons,List.not_mem_nil,or_false] at hc' ⊢
   rcases hc' with z | z | z | z <;> subst z <;> simp
  have k1 : ∀ c o,c ∉ [n + 4,n + 3,n,n + 1] → s.heap.get? c = some o → h'.get? c = some o:=fun c o hc' e => by
   simp only [List.mem_cons,List.not_mem_nil,or_false,not_or] at hc'
   exact kk c o hc'.1 hc'.2.1 hc'.2.2.1 hc'.2.2.2 e
  have nit : ∀ d u',H d = some u' → d ∉ [n + 4,n + 3,n,n + 1]:=fun d u' e' hd => by rw [(hf d (sub d hd)).1] at e'; cases e'
  refine I.step (g':=s.gens) (d':=s.drawn) (t':=tk) (ch:=[n + 4,n + 3,n,n + 1]) (fun c hc' => ?_) (fun c o _ _ hcc e _ => k1 c o hcc e) (fun c o _ _ hcc e _ => ⟨o.slots,k1 c o hcc e⟩) (fun _ _ _ _ n => n)
   (fun c o hcc e => ⟨o,k1 c o hcc e⟩) (fun _ _ e => e) (fun _ _ _ e => e) (fun c ps e => ⟨#[],by rw [e]; simp⟩) (fun m hm => ?_) (fun c u e => ?_) I.bare
  ·obtain ⟨_,a1,_,a3,a4,a5⟩:=hf c (sub c hc')
   exact ⟨a3,a1,a4,a5⟩
  ·obtain ⟨o,es',ep,ho,r⟩:=hm
   exact ⟨o,es',ep,k1 _ o (fun z => (hf _ (sub _ z)).2.1 rfl) ho,r⟩
  ·refine (I.hok c u e).stay (fun d v' hd q => k1 d v' ?_ q) (fun _ q => q) fun _ _ q => q
   rcases hd with z | z
   ·rw [z]; exact nit c u e
   ·exact nit d _ z
 self:=fun _ _ _ _ _ st h => by
  obtain ⟨⟨f0,f1,hz,_⟩,_⟩:=st
  exact zfo hz h
def iZq (Sq1 Sq2 : Hp → Addr → List V → Prop) (ta : TA) : TI:=fun σ H R => ta σ H fun vs H1 => ∃ a b xs ys,vs = [.ref a,.ref b] ∧ Sq1 H1 a xs ∧ Sq2 H1 b ys ∧ R (ziK Sq1 Sq2 a b) H1
theorem zgD {X : Cx} {es : List Expr} {k : Nat} {tpos p pos : Pos} {a b : Expr} {ta : TA} (hg : Gl X "zip") (hm : X.mg "zip" = none) (ha : PA X [a,b] ta) (hs : starEach [a,b] X.env = [(false,eval a X.env),(false,eval b X.env)]:=by rfl) (hs2 : starEach [b] X.env = [(false,eval b X.env)]:=by rfl) :
  PI X (.Tuple es k tpos) (.Call (.Name "zip" p) [a,b] [] pos) (iZq (SqT X.K) (SqL X.K) ta):=by
 intro pins s σ H R I h
 refine Call_ (zbd I hg hm boot_zip (PyProof.Rows.callWith_type1 (thn (ha pos pins s σ H _ I h) fun us s1 ⟨vs,H1,I1,r1,q1⟩ => ?_) (by rw [hs,hs2]) (by rw [hs2]; rfl)))
 obtain ⟨l1,l2,xs,ys,e,hq1,hq2,q⟩:=q1
 subst e
 cases r1 with
 | cons r rr =>
  cases rr with
  | cons r' rr =>
   cases rr
   cases r
   cases r'
   obtain ⟨its1,rv1,pl1,hz1⟩:=I1.tuple hq1
   obtain ⟨its2,rv2,pl2,hz2⟩:=I1.list hq2
   have hlt1 : l1 < s1.heap.objs.size:=by obtain ⟨_,e,_⟩:=pl1; exact Heap.lt_size e
   have hlt2 : l2 < s1.heap.objs.size:=by obtain ⟨_,_,e,_⟩:=pl2; exact Heap.lt_size e
   refine zeW (show s1.heap.IsTuple l1 its1.toArray from pl1) pl2.isList fun h' n hn b1 b2 b3 b4 b5 b6 kk => ?_
   have I2 : Inv X pins σ H1 { s1 with heap:=h' }:=I1.kept (t':=s1.toks) kk
   refine zfo b1 ?_
   refine ⟨_,zdg n,zjt n l1 l2,ziK (SqT X.K) (SqL X.K) l1 l2,H1,rfl,I2,zgC l1 l2 n (by rw [hn]; exact hlt1) (by rw [hn]; exact hlt2),⟨⟨_,_,b1,.inl rfl,_,rfl⟩,b2,⟨_,_,b3⟩,b4,b5⟩,fun c hc => ?_,q⟩
   have hle : s1.heap.objs.size ≤ c:=by
    simp only [zdg,List.mem_cons,List.not_mem_nil,or_false] at hc
    rw [← hn]
    rcases hc with z | z | z | z | z <;> subst z
    all_goals first | exact Nat.le_add_right _ _ | exact Nat.le_refl _
   exact I1.fpOk hle (I1.hok.fresh hle)
end L2
end
section
set_option maxHeartbeats 3999000
namespace L2
open PySem PySem.Spec PyProof.Rows
end L2
end
section
set_option maxHeartbeats 3999000
namespace L2
open PySem PySem.Spec PyProof.Rows
section
variable {prog : Program} {w : World} {A : Around} {h : Heap} {g : Array GenState} {d : Drawn} {tk : Nat} {os : OsState} {K : PySem.W.Frag} {x C : Addr} {E : Value → Shared → Prop}
end
end L2
end
section
set_option maxHeartbeats 3999000
namespace L2
open PySem PySem.Spec PyProof.Rows
end L2
end
section
set_option maxHeartbeats 3999000
namespace L2
open PySem PySem.Spec PyProof.Rows
end L2
end
section
set_option maxHeartbeats 3999000
namespace L2
open PySem PySem.Spec PyProof.Rows
section
variable {P : Program} {w : World} {outer : List Env} {H H' : Hp} {h h' B : Heap} {e C : Addr}
end
section
variable {X : Cx} {σ : St} {H : Hp} {s : Shared} {pins : List (Addr × Obj)}
end
section
variable {P : Program} {w : World} {K : PySem.W.Frag} {mg : Str → Option Value} {base : Heap} {N : List Str} {qual : Str} {scope : Scope} {f : Addr} {cd : Value} {A : Around} {outer : List Env} {s₀ : Shared} {H₀ : Hp} {E : XK}
end
section
variable {X : Cx} {x : Str} {C : Addr} {e : Expr} {te : TE} {np cpos pos : Pos} {E : XK}
end
end L2
end
section
set_option maxHeartbeats 3999000
namespace L2
open PySem PySem.Spec PyProof.Rows
section
variable {X : Cx} {pins : List (Addr × Obj)} {σ : St} {CX : CXT} {k : Nat} {f C : Addr} {fd : FuncData} {ps : List Str} {sp : Sp} {dvs : List V} {ds : List Value} {E : XK} {x m : Str} {p pos apos : Pos} {e o : Expr} {es : List Expr} {ta te : TE} {t : TA}
end
section
variable {X : Cx} {σ : St} {H : Hp} {s : Shared} {pins : List (Addr × Obj)}
end
section
variable {X : Cx} {pins : List (Addr × Obj)} {σ : St} {H : Hp} {s : Shared} {e : Addr}
end
end L2
end
section
set_option maxHeartbeats 3999000
namespace L2
open PySem PySem.Spec PyProof.Rows
section
variable {X : Cx} {x n : Str} {S : Addr} {i : Nat} {body suite : List Stmt} {b₀ : Stmt} {tb : XK → TS} {th : TS} {np hpos pos : Pos}
end
end L2
end
section
set_option maxHeartbeats 3999000
namespace L2
open PySem PySem.Spec PyProof.Rows
section
variable {P : Program} {w : World} {K : PySem.W.Frag} {mg : Str → Option Value} {base : Heap}
end
section
variable {X : Cx} {k : Nat} {f : Addr} {fd : FuncData} {ps : List Str} {sp : Sp} {x : Str} {p pos : Pos} {e : Expr} {es : List Expr} {t : TA}
end
end L2
end
section
set_option maxHeartbeats 3999000
namespace L2
open PySem PySem.Spec PyProof.Rows
section
variable {X : Cx}
end
section
variable {X : Cx} {tg : Expr}
end
end L2
end
section
set_option maxHeartbeats 3999000
namespace L2
open PySem PySem.Spec PyProof.Rows
section
variable {κ : Type} [DecidableEq κ]
end
section
variable {P : Program} {w : World} {H : Hp} {h : Heap} {a : Addr}
end
section
variable {X : Cx} {pins : List (Addr × Obj)} {σ : St} {H : Hp} {s : Shared} {a : Addr} {y v : V} {u r : Value} {o : Option V} {A : Around} {E : Value → Shared → Prop}
end
section
variable {X : Cx} {pins : List (Addr × Obj)} {σ : St} {H : Hp} {s : Shared} {a : Addr} {kvs : List (Key × V)} {k : Key} {u : Value} {A : Around} {E : Value → Shared → Prop}
end
section
variable {X : Cx} {o i e value : Expr} {pos pos' tpos : Pos} {td ty tv : TE}
end
section
variable {X : Cx} {pos : Pos}
end
section
variable {X : Cx} {pins : List (Addr × Obj)} {σ : St} {H : Hp} {s : Shared} {a : Addr} {y d : V} {u r : Value} {o : Option V} {A : Around} {E : Value → Shared → Prop}
end
section
variable {X : Cx} {o e f : Expr} {apos cpos : Pos} {td ty tx : TE}
end
end L2
end
section
set_option maxHeartbeats 3998000
namespace L2
open PySem PySem.Spec PyProof.Rows
end L2
namespace PySem
open PyProof.Rows
section
variable {prog : Program} {w : World} {A : Around} {E : Value → Shared → Prop} {s : Shared}
end
end PySem
namespace L2
open PySem PySem.Spec PyProof.Rows
end L2
end
section
set_option maxHeartbeats 3997000
namespace L2
open PySem PySem.Spec PyProof.Rows
end L2
namespace My
open PySem L2 PyProof.Rows
section
variable {K : PySem.W.Frag}
structure RowAt (K : PySem.W.Frag) (H : Hp) (r : Addr) (n : Nat) (rw : List (Option Int)) : Prop where
 at' : SqL K H r (rw.map enc)
 len : rw.length = n
end
end My
end
section
set_option maxHeartbeats 3999000
namespace L2
open PySem PySem.Spec PyProof.Rows
abbrev TM:=List V → St → Hp → (List V → Hp → Prop) → Prop
abbrev zcp (its : List Value) (nn : Nat) : Obj:={ cls:=.type "list",data:=.seq its.toArray nn }
structure AccAt (Y : Cx) (pins : List (Addr × Obj)) (H : Hp) (s : Shared) (D : Addr) (ys : List V) (its : List Value) (nn : Nat) : Prop where
 fp : zaZ Y pins H D
 here : s.heap.get? D = some (zcp its nn)
 vals : zC ys its
 len : ys.length ≤ sizeLine
def zdU (js : List Nat) (σ : St) : Prop:=∀ j ∈ js,∀ v,σ[j]? ≠ some (some v)
def Kp (js : List Nat) (σ σ2 : St) : Prop:=σ2.length = σ.length ∧ ∀ j,j ∉ js → σ2[j]? = σ[j]?
theorem Kp.refl {js : List Nat} {σ : St} : Kp js σ σ:=⟨rfl,fun _ _ => rfl⟩
theorem Kp.set {js : List Nat} {σ σ2 : St} {i : Nat} {v : Option V} (hi : i ∈ js) (h : Kp js σ σ2) : Kp js σ (σ2.set i v):=by
 refine ⟨by rw [List.length_set]; exact h.1,fun j hj => ?_⟩
 rw [List.getElem?_set_ne (fun z => hj (by rw [← z]; exact hi))]
 exact h.2 j hj
def GS (js : List Nat) (g : TG) : Prop:=∀ (σ σ1 : St) (x : V) (H : Hp) (Q : St → Hp → Prop),Kp js σ σ1 → g x σ1 H Q → g x σ1 H fun σ2 H2 => Kp js σ σ2 ∧ Q σ2 H2
theorem zfp {js : List Nat} {i : Nat} (hi : i ∈ js) : GS js (zbr i):=fun σ σ1 x H Q hw h => ⟨hw.set hi,h⟩
theorem Inv.fewer {X : Cx} {pins pins' : List (Addr × Obj)} {σ : St} {H : Hp} {s : Shared} (I : Inv X pins σ H s) (h : ∀ p ∈ pins',p ∈ pins) : Inv X pins' σ H s :=
 I.pins_of fun p hp => I.pin p (List.mem_append_right _ (h p hp))
section
variable {Y : Cx} {pins : List (Addr × Obj)} {σ : St} {H : Hp} {s : Shared} {D : Addr} {ys : List V} {its : List Value} {nn : Nat}
theorem AccAt.pin (a : AccAt Y pins H s D ys its nn) (I : Inv Y pins σ H s) : Inv Y (pins ++ [(D,zcp its nn)]) σ H s :=
 I.pins_of fun p hp => by
  rcases (List.mem_append.mp hp) with hp | hp
  ·exact I.pin p (List.mem_append_right _ hp)
  ·obtain rfl : p = (D,zcp its nn):=by simpa using hp
   obtain ⟨a0,a1,a2,_⟩:=a.fp
   exact ⟨a.here,a0,a1,a2,fun v z => by cases z⟩
theorem AccAt.back {pins' : List (Addr × Obj)} {σ' : St} {H' : Hp} {s' : Shared} (a : AccAt Y pins H s D ys its nn) (I : Inv Y pins' σ' H' s') (hm : (D,zcp its nn) ∈ pins') : AccAt Y pins H' s' D ys its nn:=by
 have p:=I.pin (D,zcp its nn) (List.mem_append_right _ hm)
 exact ⟨⟨p.2.1,a.fp.2⟩,p.1,a.vals,a.len⟩
end
def PM (Y : Cx) (D : Addr) (js : List Nat) (mk : Sem Fin → Sem Fin) (tm : TM) : Prop :=
 ∀ (last : Sem Fin) (pins : List (Addr × Obj)) (s : Shared) (σ : St) (H : Hp) (ys : List V) (its : List Value) (nn : Nat) (Q : List V → Hp → Prop) (Φ : Fin → Shared → Prop),Inv Y pins σ H s → AccAt Y pins H s D ys its nn → zdU js σ → tm ys σ H Q →
  (∀ (s' : Shared) (ys' : List V) (its' : List Value) (nn' : Nat) (H' : Hp),Inv Y pins σ H' s' → AccAt Y pins H' s' D ys' its' nn' → Q ys' H' → wpAny (model Y.prog Y.w) Y.A last Φ (fun _ _ => False) s') →
  wpAny (model Y.prog Y.w) Y.A (mk last) Φ (fun _ _ => False) s
def zgE (elt : Expr) (acc : Value) (env : Env) (last : Sem Fin) : Sem Fin:=(eval elt env >>= fun x => call (.builtin "list.append") [acc,x] >>= fun _ => pure ()) >>= fun _ => last
def zfq (e iter : Expr) (d : Nat) (acc : Value) (env : Env) (last : Sem Fin) : Sem Fin :=
 eval iter env >>= fun x => standAt iter.pos >>= fun _ => foldedSetIterable iter env x >>= fun x => holding [x] (pyIter x) >>= fun itv => runOwn (.compStart e d itv acc env) env >>= fun _ => last
def zgF (te : TE) : TM:=fun ys σ H Q => te σ H fun y H4 => ys.length < sizeLine ∧ Q (ys ++ [y]) H4
def cIn (g : TG) (ts : TT) (tm : TM) (σ : St) (J : It) (Q : List V → Hp → Prop) (ys : List V) (H1 : Hp) : Prop :=
 ∃ W : Nat → Nat → List V → Hp → Prop,(∃ m,W 0 m ys H1) ∧ ∀ i m ys H,W i m ys H →
  (J.stop i H ∧ Q ys H) ∨
  (J.go i H ∧ ∃ N : List V → Hp → Prop,(∀ ys' H',N ys' H' → ∃ m',m' < m ∧ W (i + 1) m' ys' H') ∧ ∀ x H',J.yld i H x H' → g x σ H' fun σ2 H2 => ts σ2 H2 fun b H3 =>
   if b = true then tm ys σ2 H3 N else N ys H3)
def zgG (wi : TI) (g : TG) (ts : TT) (tm : TM) : TM:=fun ys σ H Q => wi σ H fun J H1 => cIn g ts tm σ J Q ys H1
def zgH (ix : List (Option Nat)) (wi : TI) (g : TG) (ts : TT) (tm : TM) : TE:=fun σ H Q => wi σ H fun J H1 => cIn g ts tm (zah ix σ) J (fun ys H' => ∀ D,H' D = none → Q (.ref D) (upd H' D (.lst ys))) [] H1
theorem thx {α : Type} {X : Cx} {m : Sem α} {P Q : α → Shared → Prop} {E : Value → Shared → Prop} {s : Shared} (hx : X.xe = fun _ _ => False) (h : wpAny (model X.prog X.w) X.A m P X.xe s) (k : ∀ a s',P a s' → Q a s') : wpAny (model X.prog X.w) X.A m Q E s :=
 wpAny_mono h k fun _ _ z => by rw [hx] at z; exact z.elim
theorem ziL {Y : Cx} {D : Addr} {elt : Expr} {te : TE} (hx : Y.xe = fun _ _ => False) (he : PE Y elt te) : PM Y D [] (zgE elt (.ref D) Y.env) (zgF te):=by
 intro last pins s σ H ys its nn Q Φ I a no h k
 unfold zgE
 refine wpAny_bind (wpAny_bind (thx hx (he (pins ++ [(D,zcp its nn)]) s σ H _ (a.pin I) h) fun yv s1 ⟨y,H1,I1,r1,hz,q1⟩ => wpAny_bind ?_))
 have a1:=a.back I1 (List.mem_append_right _ List.mem_cons_self)
 have J1 : Inv Y pins σ H1 s1:=I1.fewer fun p hp => List.mem_append_left _ hp
 have hvl:=a1.vals.length
 refine call_meets F.slot_list_append ⟨_,a1.here,rfl⟩ F.entry_list_append (F.args_list_append_2 _ _) (PySem.list_append D its.toArray nn yv (by rw [List.size_toArray]; omega)) ⟨a1.here,?_⟩
 refine wpAny_pure ?_
 have q:=PySem.IsL.update a1.here (·.push yv)
 have k10 : ∀ b o,b ≠ D → s1.heap.get? b = some o → (s1.heap.update D (Obj.mapSeq (·.push yv))).get? b = some o:=fun b o hb e => (Heap.get?_update_other s1.heap (Obj.mapSeq (·.push yv)) (Ne.symm hb)).trans e
 obtain ⟨b0,b1,b2,b3,b4,b5⟩:=a1.fp
 have I11 : Inv Y pins σ H1 { s1 with heap:=s1.heap.update D (Obj.mapSeq (·.push yv)) }:=J1.turned (t':=s1.toks) k10 b0 b1 b3 b4 b5
 have e1 : its.toArray.push yv = (its ++ [yv]).toArray:=by simp
 rw [e1] at q
 refine k _ (ys ++ [y]) (its ++ [yv]) _ H1 I11 ⟨a1.fp,q,a1.vals.append (.cons r1 .nil),?_⟩ q1
 rw [List.length_append,List.length_singleton]
 omega
section
variable {Y : Cx} {D : Addr} {js js' : List Nat} {elt : Expr} {gens : List Comprehension} {scope : Scope} {pos : Pos} {d : Nat} {tg : Expr} {ifs : List Expr} {p : Pos} {mk : Sem Fin → Sem Fin} {g : TG} {ts : TT} {tm : TM}
def zbV (tg : Expr) (ifs : List Expr) (p : Pos) (mk : Sem Fin → Sem Fin) (c : Code) (it : Value) (env : Env) : Sem Fin :=
 standAt p >>= fun _ => pyNext it >>= fun r => match r with
  | none => pure (.done .next)
  | some v => letOwnedTupleGo tg it v >>= fun _ => assign tg env v >>= fun _ => zdN ifs env >>= fun ok => if ok = true then mk (again c) else again c
theorem zfr (hc : Y.calm = true) (hx : Y.xe = fun _ _ => False) (hgs : GS js g) (hdis : ∀ j ∈ js,j ∉ js') (hg : PG Y tg g) (ht : zco Y ifs ts) (hm : PM Y D js' mk tm)
  (hturn : ∀ it,compTurn (.ListComp elt gens scope pos) d it (.ref D) Y.env = zbV tg ifs p mk (.compLoop (.ListComp elt gens scope pos) d it (.ref D) Y.env) it Y.env)
  {pins : List (Addr × Obj)} {σ : St} {H2 : Hp} {s2 : Shared} {it : Addr} {fp : List Addr} {tn : Nat → Heap → Prop} {J : It} {Q : List V → Hp → Prop} {R : Result → Shared → Prop} {ys : List V} {its : List Value} {nn : Nat}
  (I2 : Inv Y pins σ H2 s2) (a2 : AccAt Y pins H2 s2 D ys its nn) (no : zdU (js ++ js') σ) (T : Turn Y.prog Y.w Y.K tg J fp it tn) (st2 : tn 0 s2.heap) (f2 : ∀ b ∈ fp,zaZ Y pins H2 b) (fD : ∀ b ∈ fp,b ≠ D) (q : cIn g ts tm σ J Q ys H2)
  (hR : ∀ (s' : Shared) (ys' : List V) (its' : List Value) (nn' : Nat) (H' : Hp),Inv Y pins σ H' s' → AccAt Y pins H' s' D ys' its' nn' → Q ys' H' → R (.ok .next) s') :
  codeAny (model Y.prog Y.w) Y.A (.compLoop (.ListComp elt gens scope pos) d (.ref it) (.ref D) Y.env) R s2:=by
 obtain ⟨W,⟨m0,w0⟩,turn⟩:=q
 have fpY : ∀ {H' : Hp} {its : List Value} {nn : Nat},(∀ b ∈ fp,H' b = none) → ∀ b ∈ fp,zaZ Y (pins ++ [(D,zcp its nn)]) H' b:=fun {H' its nn} hn b hb => by
  obtain ⟨_,a1,a2,a3,a4,a5⟩:=f2 b hb
  refine ⟨hn b hb,a1,a2,a3,a4,fun p hp => ?_⟩
  rcases (List.mem_append.mp hp) with hp | hp
  ·exact a5 p (List.mem_append_left _ hp)
  ·rcases (List.mem_append.mp hp) with hp | hp
   ·exact a5 p (List.mem_append_right _ hp)
   ·obtain rfl : p = (D,zcp its nn):=by simpa using hp
    exact (fD b hb).symm
 refine codeAny_loop rfl (fun n s' => ∃ i ys H' its nn,Inv Y pins σ H' s' ∧ tn i s'.heap ∧ (∀ b ∈ fp,H' b = none) ∧ AccAt Y pins H' s' D ys its nn ∧ W i n ys H') ?_ m0
  ⟨0,ys,H2,its,nn,I2,st2,fun b hb => (f2 b hb).1,a2,w0⟩
 rintro n s5 ⟨i,ys,H5,its,nn,I5,st5,fr5,a5,w5⟩
 show wpAny _ Y.A ((compTurn (.ListComp elt gens scope pos) d (.ref it) (.ref D) Y.env).onRaise (fun x => do noteFrame x Y.env; theTreesLotGoes x)) _ _ s5
 refine wpAny_noted ?_
 rw [hturn]
 unfold zbV
 have I5p:=a5.pin I5
 (refine wpAny_bind (wpAny_standAt (wpAny_bind ?_)))
 rcases turn i n ys H5 w5 with ⟨stop,qn⟩ | ⟨go,N,hN,step⟩
 ·refine wpAny_mono (T.done Y rfl rfl rfl hc i _ s5 _ H5 (fun _ _ => False) I5p (fpY fr5) st5 stop) (fun r s6 ⟨hr,I6⟩ => ?_) fun _ _ z => z.elim
  subst hr
  exact wpAny_pure (hR s6 ys its nn H5 (I6.fewer fun p hp => List.mem_append_left _ hp) (a5.back I6 (List.mem_append_right _ List.mem_cons_self)) qn)
 ·refine wpAny_mono (T.item Y rfl rfl rfl hc i _ s5 _ H5 (fun _ _ => False) I5p (fpY fr5) st5 go) (fun r s6 ⟨u,hr,h6⟩ => ?_) fun _ _ z => z.elim
  subst hr
  refine wpAny_bind (wpAny_mono h6 (fun _ s7 ⟨x,H7,I7,r7,y7,st7,fr7⟩ => ?_) fun _ _ z => z.elim)
  have I7':=I7.pinned (fpY fr7) (T.obj _ _ st7)
  refine wpAny_bind (thx hx (hg _ s7 _ H7 x u _ I7' r7 (hgs σ σ x H7 _ Kp.refl (step x H7 y7))) fun _ s8 ⟨σ8,H8,I8,kp,q8⟩ => ?_)
  refine wpAny_bind (thx hx (ht _ s8 σ8 H8 _ I8 q8) fun ok s9 ⟨H9,I9,q9⟩ => ?_)
  have mD : (D,zcp its nn) ∈ (pins ++ [(D,zcp its nn)]) ++ zbe fp s7.heap:=List.mem_append_left _ (List.mem_append_right _ List.mem_cons_self)
  have a9:=a5.back I9 mD
  have K9 : Inv Y (pins ++ zbe fp s7.heap) σ8 H9 s9:=I9.fewer fun p hp => (List.mem_append.mp hp).elim (fun z => List.mem_append_left _ (List.mem_append_left _ z)) fun z => List.mem_append_right _ z
  have wk : ∀ (j : Nat) v,σ[j]? = some (some v) → σ8[j]? = some (some v):=fun j v e => by
   have hj : j ∉ js:=fun z => no j (List.mem_append_left _ z) v e
   rw [kp.2 j hj]
   exact e
  have back : ∀ {H' : Hp} {s' : Shared},Inv Y (pins ++ zbe fp s7.heap) σ8 H' s' → Inv Y pins σ H' s' ∧ tn (i + 1) s'.heap ∧ ∀ b ∈ fp,H' b = none:=fun {H' s'} I' => by
   refine ⟨(I'.fewer fun p hp => List.mem_append_left _ hp).weak kp.1.symm wk,T.keep _ _ _ st7 fun b hb o e => (I'.pin (b,o) (List.mem_append_right _ (List.mem_append_right _ (zaC hb e)))).1,fun b hb => ?_⟩
   obtain ⟨o,e,d⟩:=T.obj _ _ st7 b hb
   exact (I'.pin (b,o) (List.mem_append_right _ (List.mem_append_right _ (zaC hb e)))).2.1
  cases ok with
  | false =>
   rw [if_neg Bool.false_ne_true] at q9 ⊢
   obtain ⟨m',hm',w9⟩:=hN _ _ q9
   obtain ⟨b1,b2,b3⟩:=back K9
   exact wpAny_pure ⟨rfl,m',hm',i + 1,ys,H9,its,nn,b1,b2,b3,a9,w9⟩
  | true =>
   rw [if_pos rfl] at q9 ⊢
   have a9' : AccAt Y (pins ++ zbe fp s7.heap) H9 s9 D ys its nn:=by
    obtain ⟨b0,b1,b2,b3,b4,b5⟩:=a9.fp
    refine ⟨⟨b0,b1,b2,b3,b4,fun p hp => ?_⟩,a9.here,a9.vals,a9.len⟩
    rcases (List.mem_append.mp hp) with hp | hp
    ·exact b5 p (List.mem_append_left _ hp)
    ·rcases (List.mem_append.mp hp) with hp | hp
     ·exact b5 p (List.mem_append_right _ hp)
     ·exact fD _ (zdn hp).1
   have no' : zdU js' σ8:=fun j hj v e => by
    have hj' : j ∉ js:=fun z => hdis j z hj
    rw [kp.2 j hj'] at e
    exact no j (List.mem_append_right _ hj) v e
   refine wpAny_mono (hm (again _) _ s9 σ8 H9 ys its nn N (fun fin s' => match fin with | .done f => R (.ok f) s' | .again c' => c' = _ ∧ ∃ m,m < n ∧ _) K9 a9' no' q9 fun s' ys' its' nn' H' I' a' n' => ?_) (fun _ _ z => z) fun _ _ z => z.elim
   obtain ⟨m',hm',w'⟩:=hN _ _ n'
   obtain ⟨b1,b2,b3⟩:=back I'
   obtain ⟨c0,c1,c2,c3,c4,c5⟩:=a'.fp
   refine wpAny_pure ⟨rfl,m',hm',i + 1,ys',H',its',nn',b1,b2,b3,⟨⟨c0,c1,c2,c3,c4,fun p hp => ?_⟩,a'.here,a'.vals,a'.len⟩,w'⟩
   rcases (List.mem_append.mp hp) with hp | hp
   ·exact c5 p (List.mem_append_left _ hp)
   ·exact c5 p (List.mem_append_right _ (List.mem_append_left _ hp))
theorem zem {prog : Program} {w : World} {A : Around} {R : Result → Shared → Prop} {s : Shared} {iter : Expr} {it acc : Value} {env : Env} (hd : gens[d]? = some ⟨tg,iter,ifs,0⟩)
  (h0 : codeAny (model prog w) A (.compLoop (.ListComp elt gens scope pos) d it acc env) R s)
  (h : wpAny (model prog w) A (pyIter it) (fun it' s' => codeAny (model prog w) A (.compLoop (.ListComp elt gens scope pos) d it' acc env) R s') (fun _ _ => False) s) :
  codeAny (model prog w) A (.compStart (.ListComp elt gens scope pos) d it acc env) R s:=by
 refine codeAny_of_tree ?_
 show wpAny _ _ ((compStart (.ListComp elt gens scope pos) d it acc env).onRaise (fun x => do noteFrame x env; standAt theWindowsPlace)) _ _ s
 refine wpAny_notedAt ?_
 unfold compStart
 have e1 : (clausesOf (.ListComp elt gens scope pos))[d]? = some ⟨tg,iter,ifs,0⟩:=hd
 rw [e1]
 (show wpAny _ _ (ask >>= _) _ _ s)
 (refine wpAny_bind (wpAny_askSetting (wpAny_ite ?_)))
 split
 ·first
   | (exact wpAny_bind (wpAny_pure (wpAny_pure ⟨rfl,h0⟩)))
   | (exact wpAny_pure ⟨rfl,h0⟩)
 ·first
   | exact wpAny_bind (wpAny_rule (wpAny_bind (wpAny_standAt (wpAny_bind (wpAny_mono h (fun it' s' h' => wpAny_pure (And.intro rfl h')) fun _ _ x => x.elim)))))
   | (refine wpAny_bind (wpAny_rule ?_); show wpAny _ _ (standAt iter.pos >>= _) _ _ s; exact wpAny_bind (wpAny_standAt (wpAny_bind (wpAny_mono h (fun it' s' h' => wpAny_pure (And.intro rfl h')) fun _ _ x => x.elim))))
theorem ziM {iter : Expr} {wi : TI} (hc : Y.calm = true) (hx : Y.xe = fun _ _ => False) (hgs : GS js g) (hdis : ∀ j ∈ js,j ∉ js') (hi : PI Y tg iter wi) (hg : PG Y tg g) (ht : zco Y ifs ts) (hm : PM Y D js' mk tm) (hd : gens[d]? = some ⟨tg,iter,ifs,0⟩)
  (hturn : ∀ it,compTurn (.ListComp elt gens scope pos) d it (.ref D) Y.env = zbV tg ifs p mk (.compLoop (.ListComp elt gens scope pos) d it (.ref D) Y.env) it Y.env)
  (hs : ∀ x,foldedSetIterable iter Y.env x = pure x:=by intro _; rfl) :
  PM Y D (js ++ js') (zfq (.ListComp elt gens scope pos) iter d (.ref D) Y.env) (zgG wi g ts tm):=by
 intro last pins s σ H ys its nn Q Φ I a no h k
 unfold zfq
 refine wpAny_bind (thx hx (hi (pins ++ [(D,zcp its nn)]) s σ H _ (a.pin I) h) fun v s1 h1 => wpAny_bind (wpAny_standAt (wpAny_bind ?_)))
 rw [hs v]
 refine wpAny_pure (wpAny_bind (wpAny_holding (thx hx h1 fun itv s2 h2 => ?_)))
 obtain ⟨it,fp,tn,J,H2,e,I2,T,st2,f2,q⟩:=h2
 subst e
 have a2:=a.back I2 (List.mem_append_right _ List.mem_cons_self)
 have J2 : Inv Y pins σ H2 s2:=I2.fewer fun p hp => List.mem_append_left _ hp
 have f2' : ∀ b ∈ fp,zaZ Y pins H2 b:=fun b hb => by
  obtain ⟨c0,c1,c2,c3,c4,c5⟩:=f2 b hb
  refine ⟨c0,c1,c2,c3,c4,fun p hp => ?_⟩
  rcases (List.mem_append.mp hp) with hp | hp
  ·exact c5 p (List.mem_append_left _ hp)
  ·exact c5 p (List.mem_append_right _ (List.mem_append_left _ hp))
 have fD : ∀ b ∈ fp,b ≠ D:=fun b hb => ((f2 b hb).2.2.2.2.2 (D,zcp its nn) (List.mem_append_right _ (List.mem_append_right _ List.mem_cons_self))).symm
 have loop : codeAny (model Y.prog Y.w) Y.A (.compLoop (.ListComp elt gens scope pos) d (.ref it) (.ref D) Y.env) (fun r s' => match r with | .ok f => wpAny (model Y.prog Y.w) Y.A last Φ (fun _ _ => False) s' | .error e => cameBackBy (model Y.prog Y.w) Y.A Y.env (fun _ _ => False) e s') s2 :=
  zfr hc hx hgs hdis hg ht hm hturn J2 a2 no T st2 f2' fD q fun s' ys' its' nn' H' I' a' q' => k s' ys' its' nn' H' I' a' q'
 exact wpAny_bind (wpAny_runOwn (zem hd loop (T.self _ 0 _ _ _ st2 loop)))
end
section
variable {X : Cx} {elt tg iter : Expr} {ifs : List Expr} {gs : List Comprehension} {scope : Scope} {pos : Pos} {N' : List Str} {ix : List (Option Nat)} {js js' : List Nat} {g : TG} {ts : TT} {tm : TM} {mk : Addr → Env → Sem Fin → Sem Fin}
theorem zen {pins : List (Addr × Obj)} {σ : St} {H2 : Hp} {s2 : Shared} {it : Addr} {fp : List Addr} {tn : Nat → Heap → Prop} {J : It} {Q : VK} {E : Value → Shared → Prop} {RR : Value → Addr → Result → Shared → Prop}
  (SC : CompSc X N' ix scope) (hc : X.calm = true) (hgs : GS js g) (hdis : ∀ j ∈ js,j ∉ js') (hjs : ∀ j ∈ js ++ js',ix[j]? = some none)
  (hg : ∀ s₃ H₃ ex pins,PG (zF X N' scope s₃ H₃ ex pins) tg g) (ht : ∀ s₃ H₃ ex pins,zco (zF X N' scope s₃ H₃ ex pins) ifs ts) (hm : ∀ s₃ H₃ ex pins D,PM (zF X N' scope s₃ H₃ ex pins) D js' (mk D (zF X N' scope s₃ H₃ ex pins).env) tm)
  (hturn : ∀ it D env,compTurn (.ListComp elt (⟨tg,iter,ifs,0⟩ :: gs) scope pos) 0 it (.ref D) env = zbV tg ifs iter.pos (mk D env) (.compLoop (.ListComp elt (⟨tg,iter,ifs,0⟩ :: gs) scope pos) 0 it (.ref D) env) it env)
  (I2 : Inv X pins σ H2 s2) (T : Turn X.prog X.w X.K tg J fp it tn) (st2 : tn 0 s2.heap) (f2 : ∀ b ∈ fp,zaZ X pins H2 b) (q : cIn g ts tm (zah ix σ) J (fun ys H' => ∀ D,H' D = none → Q (.ref D) (upd H' D (.lst ys))) [] H2)
  (hRR : ∀ (D C : Addr) (s' : Shared) (ys : List V) (H' : Hp) (m : Str → Option Value),Inv X pins σ (upd H' D (.lst ys)) s' → zaZ X pins (upd H' D (.lst ys)) C → s'.heap.Ns C m → Q (.ref D) (upd H' D (.lst ys)) → RR (.ref D) C (.ok .next) s') :
  wpAny (model X.prog X.w) X.A (newList []) (fun acc s₃ => wpAny (model X.prog X.w) X.A (newFunctionEnv scope X.env.globals (zak X.env.cells scope.names []) [] X.env.qual none .none (some X.env)) (fun cenv s₄ =>
   codeAny (model X.prog X.w) X.A (.compStart (.ListComp elt (⟨tg,iter,ifs,0⟩ :: gs) scope pos) 0 (.ref it) acc { cenv with scope:=relabel scope X.env }) (RR acc cenv.locals) s₄) E s₃) E s2:=by
 have hfr : ∀ y ∈ scope.names,y.2 = .free → ∃ c,X.env.cells.lookup y.1 = some c:=fun y hy hf => I2.ok.has y.1 (SC.free y hy hf)
 have hcl : ∀ x c,(zak X.env.cells scope.names []).lookup x = some c → X.env.cells.lookup x = some c:=zaK scope.names [] hfr (fun x c e => by simp at e)
 refine wpAny_newObj_type (wpAny_newFunctionEnv SC.nocell (by intro y hy; simp at hy) (fun h₁ hns₁ hsb₁ => ?_) SC.kind)
 dsimp only at hns₁ hsb₁ ⊢
 have I3 : Inv X pins σ H2 { s2 with heap:=s2.heap.push { cls:=.type "list",dict:=none,data:=.seq ([] : List Value).toArray } }:=I2.kept (t':=s2.toks) fun b o e => Heap.get?_push_of_some _ e
 have hD3 : (s2.heap.push { cls:=.type "list",dict:=none,data:=.seq ([] : List Value).toArray }).get? s2.heap.objs.size = some { cls:=.type "list",dict:=none,data:=.seq ([] : List Value).toArray }:=Heap.get?_push_size _ rfl
 have hst3 : tn 0 (s2.heap.push { cls:=.type "list",dict:=none,data:=.seq ([] : List Value).toArray }):=T.keep _ _ _ st2 fun b hb o e => Heap.get?_push_of_some _ e
 have hsz3 : (s2.heap.push { cls:=.type "list",dict:=none,data:=.seq ([] : List Value).toArray }).objs.size = s2.heap.objs.size + 1:=Heap.size_push _ _
 generalize hh3 : s2.heap.push { cls:=.type "list",dict:=none,data:=.seq ([] : List Value).toArray } = h3 at *
 have hfpO:=T.obj _ _ st2
 have hfpLt : ∀ b ∈ fp,b < s2.heap.objs.size:=fun b hb => by obtain ⟨o,e,_⟩:=hfpO b hb; exact Heap.lt_size e
 have stk : ∀ b ∈ frs X.stack,b = X.env.locals ∨ b ∈ X.fs:=fun b hb => List.mem_cons.mp (I2.stkSub b hb)
 have hDok : zaZ X pins H2 s2.heap.objs.size:=I2.fpOk (Nat.le_refl _) I2.fresh
 have exOk : ∀ b ∈ s2.heap.objs.size :: fp,zaZ X pins H2 b:=fun b hb => by
  rcases (List.mem_cons.mp hb) with e | hb
  ·rw [e]; exact hDok
  ·exact f2 b hb
 have exLt : ∀ b ∈ s2.heap.objs.size :: fp,b < h3.objs.size:=fun b hb => by
  rw [hsz3]
  rcases (List.mem_cons.mp hb) with e | hb; · rw [e]; exact Nat.lt_succ_self _
  ·exact Nat.lt_succ_of_lt (hfpLt b hb)
 have exStk : ∀ b ∈ s2.heap.objs.size :: fp,b ∉ frs X.stack:=fun b hb z => by
  obtain ⟨_,a1,a2,_⟩:=exOk b hb
  rcases stk b z with e | e
  ·exact a1 e
  ·exact a2 e
 have old : ∀ b o,h3.get? b = some o → h₁.get? b = some o:=fun b o e => hsb₁.extBut b o (Nat.ne_of_lt (Heap.lt_size e)) (Heap.get?_push_of_some _ e)
 let s3 : Shared:={ s2 with heap:=h3 }
 let Y : Cx:=zF X N' scope s3 H2 (s2.heap.objs.size :: fp) pins
 have I3' : Inv X pins σ H2 s3:=I3
 have okY : Y.Ok:=by
  refine ⟨I2.ok.mod,SC.kind,I2.ok.glob,I2.ok.blt,Nat.le_refl _,fun x y c h1 h2 => I2.ok.inj x y c (hcl x c h1) (hcl y c h2),fun x hx => ?_,fun x c z => (by cases z),I2.ok.hd,I2.ok.frames,.inl rfl,fun b hb => ?_,fun b o e => I3'.bs b o e,?_,fun b o e hb => ?_,exStk,I3'.stack,I3'.stkFree⟩
  ·have hx':=zbi (env:=X.env) (names:=scope.names) (x:=x) hx
   rcases hx' with hx' | hx'
   ·exact zaF scope.names [] x (.inr (lookup_mem hx'))
   ·exact absurd rfl (SC.nocell _ (lookup_mem hx'))
  ·exact ⟨Nat.ne_of_lt (exLt b hb),fun x c e => (exOk b hb).2.2.2.2.1 x c (hcl x c e)⟩
  ·exact Nat.le_trans I2.ok.bsz I3'.sz
  ·obtain ⟨_,_,_,a3,_⟩:=exOk b hb
   rcases a3 with z | z
   ·exact I2.ok.noex b o e z
   ·have:=(I2.ok.bs b o e).1
    exact absurd (Nat.lt_of_lt_of_le (Heap.lt_size this) z) (Nat.lt_irrefl _)
 have inv4 : Inv Y [] (zah ix σ) H2 { s3 with heap:=h₁,toks:=s2.toks + ([] : List (Str × Value)).length }:=by
  refine ⟨okY,rfl,I2.bare,Un.kept old,⟨_,hns₁,fun j x v e1 e2 e3 => ?_⟩,fun x c e => ?_,I3'.fresh,fun x c e => I2.freeC x c (hcl x c e),fun p hp => ?_,I3'.hok.kept old,?_⟩
  ·unfold zah at e2
   rw [List.getElem?_map] at e2
   cases hj : ix[j]? with
   | none => rw [hj] at e2; simp at e2
   | some oi =>
    rw [hj] at e2
    cases oi with
    | none => simp at e2
    | some i =>
     obtain ⟨y,h1,h2,h3'⟩:=SC.cap j i hj
     have hxy : y = x:=by
      have e1' : N'[j]? = some x:=e1
      rw [h1] at e1'
      exact Option.some.inj e1'
     subst hxy
     have e2' : (σ[i]?).join = some v:=by simpa using e2
     have e2'' : σ[i]? = some (some v):=by
      cases hs : σ[i]? with
      | none => rw [hs] at e2'; simp at e2'
      | some w => rw [hs] at e2'; simp at e2'; rw [e2']
     obtain ⟨m,hn,hl⟩:=I3'.loc
     have hk:=SC.free (y,.free) (lookup_mem h3') rfl
     have hvis : Vis X.env.scope y:=hk.elim (fun z => .inr (.inl z)) fun z => .inr (.inr z)
     obtain ⟨u,r,l⟩:=hl i y v h2 e2'' hvis
     refine ⟨u,r,.inr ⟨zaq h3',?_⟩⟩
     obtain ⟨c,hcc⟩:=zaF (cs:=X.env.cells) scope.names [] y (.inr (lookup_mem h3'))
     refine ⟨c,hcc,?_⟩
     rcases l with ⟨hk',_⟩ | ⟨_,c',hc',hcell⟩
     ·rcases hk with hk | hk
      ·have hk2 : X.env.kindOf y = some .cell:=hk
       rw [hk2] at hk'; cases hk'
      ·have hk2 : X.env.kindOf y = some .free:=hk
       rw [hk2] at hk'; cases hk'
     ·have:=hcl y c hcc
      rw [hc'] at this
      cases this
      obtain ⟨o,ho,hd⟩:=hcell
      exact ⟨o,old _ _ ho,hd⟩
  ·obtain ⟨v,o,ho,hd⟩:=I3'.cell x c (hcl x c e)
   exact ⟨v,o,old _ _ ho,hd⟩
  ·have hp' : p ∈ X.pn ++ pins:=by
    have : p ∈ (X.pn ++ pins) ++ ([] : List (Addr × Obj)):=hp
    simpa using this
   obtain ⟨a1,a2,a3,a4,a5⟩:=I3'.pin p hp'
   exact ⟨old _ _ a1,a2,Nat.ne_of_lt (Heap.lt_size a1),fun z => (stk _ z).elim a3 a4,a5⟩
  ·unfold zah
   rw [List.length_map]
   exact SC.len.symm
 have fpY : ∀ {H' : Hp},(∀ b ∈ s2.heap.objs.size :: fp,H' b = none) → ∀ b ∈ s2.heap.objs.size :: fp,zaZ Y [] H' b:=fun {H'} hn b hb => by
  obtain ⟨_,a1,a2,a3,a4,a5⟩:=exOk b hb
  refine ⟨hn b hb,Nat.ne_of_lt (exLt b hb),exStk b hb,.inl hb,fun x c e => a4 x c (hcl x c e),fun p hp => ?_⟩
  have : p ∈ (X.pn ++ pins) ++ ([] : List (Addr × Obj)):=hp
  exact a5 p (by simpa using this)
 have nn2 : ∀ b ∈ s2.heap.objs.size :: fp,H2 b = none:=fun b hb => (exOk b hb).1
 have noA : zdU (js ++ js') (zah ix σ):=fun j hj v e => by
  unfold zah at e
  rw [List.getElem?_map,hjs j hj] at e
  simp at e
 have loop : ∀ s₅ : Shared,s₅ = { s2 with heap:=h₁,toks:=s2.toks + ([] : List (Str × Value)).length } →
   codeAny (model X.prog X.w) X.A (.compLoop (.ListComp elt (⟨tg,iter,ifs,0⟩ :: gs) scope pos) 0 (.ref it) (.ref s2.heap.objs.size) (compEnvC scope (zak X.env.cells scope.names []) h3.objs.size X.env)) (RR (.ref s2.heap.objs.size) h3.objs.size) s₅:=by
  rintro s₅ rfl
  refine zfr (Y:=Y) (pins:=[]) (σ:=zah ix σ) (its:=[]) (nn:=0) hc rfl hgs hdis (hg s3 H2 _ pins) (ht s3 H2 _ pins) (hm s3 H2 _ pins s2.heap.objs.size) (fun it => hturn it _ _) inv4 ⟨fpY nn2 _ List.mem_cons_self,old _ _ hD3,.nil,Nat.zero_le _⟩ noA T (T.keep _ _ _ hst3 fun b hb o e => old b o e)
   (fun b hb => fpY nn2 b (List.mem_cons_of_mem _ hb)) (fun b hb => Nat.ne_of_lt (hfpLt b hb)) q fun s6 ys its nn H5 I6 a6 qn => ?_
  have dn5 : H5 s2.heap.objs.size = none:=a6.fp.1
  have I7 : Inv X pins σ H5 s6:=by
   refine I3'.call' (s':=s6) (ch:=s2.heap.objs.size :: fp) I6.os I6.base I6.hok I6.bare fun b hb => ?_
   obtain ⟨_,a1,a2,a3,a4,a5⟩:=exOk b hb
   exact ⟨a3,a1,a4,a5⟩
  have I8 : Inv X pins σ (upd H5 s2.heap.objs.size (.lst ys)) s6:=by
   obtain ⟨_,a1,a2,a3,a4,a5⟩:=hDok
   exact I7.track dn5 I2.sz (Ne.symm a1) a4 a5 ⟨a6.len,its,nn,a6.vals,a6.here⟩
  obtain ⟨mm,hmm,_⟩:=I6.loc
  have dne : h3.objs.size ≠ s2.heap.objs.size:=by rw [hsz3]; exact Nat.succ_ne_self _
  refine hRR _ _ s6 ys H5 mm I8 (I3'.fpOk (H':=upd H5 s2.heap.objs.size (.lst ys)) (Nat.le_refl _) ?_) hmm (qn _ dn5)
  show upd H5 s2.heap.objs.size (.lst ys) h3.objs.size = none
  rw [zo dne]
  exact I6.free
 exact zem rfl (loop _ rfl) (T.self _ 0 _ _ _ (T.keep _ _ _ hst3 fun b hb o e => old b o e) (loop _ rfl))
theorem zgI {wi : TI} (SC : CompSc X N' ix scope) (hc : X.calm = true) (hgs : GS js g) (hdis : ∀ j ∈ js,j ∉ js') (hjs : ∀ j ∈ js ++ js',ix[j]? = some none) (hi : PI X tg iter wi)
  (hg : ∀ s₃ H₃ ex pins,PG (zF X N' scope s₃ H₃ ex pins) tg g) (ht : ∀ s₃ H₃ ex pins,zco (zF X N' scope s₃ H₃ ex pins) ifs ts) (hm : ∀ s₃ H₃ ex pins D,PM (zF X N' scope s₃ H₃ ex pins) D js' (mk D (zF X N' scope s₃ H₃ ex pins).env) tm)
  (hturn : ∀ it D env,compTurn (.ListComp elt (⟨tg,iter,ifs,0⟩ :: gs) scope pos) 0 it (.ref D) env = zbV tg ifs iter.pos (mk D env) (.compLoop (.ListComp elt (⟨tg,iter,ifs,0⟩ :: gs) scope pos) 0 it (.ref D) env) it env)
  (hs : ∀ x,foldedSetIterable iter X.env x = pure x:=by intro _; rfl) : PE X (.ListComp elt (⟨tg,iter,ifs,0⟩ :: gs) scope pos) (zgH ix wi g ts tm):=by
 intro pins s σ H Q I h
 rw [eval_ListComp]
 have hfr : ∀ y ∈ scope.names,y.2 = .free → ∃ c,X.env.cells.lookup y.1 = some c:=fun y hy hf => I.ok.has y.1 (SC.free y hy hf)
 refine wpAny_comprehension_free (use:=none) rfl hs (za5 hfr) SC.kind SC.names (thn (hi pins s σ H _ I h) fun v s1 h1 => thn h1 fun itv s2 h2 => ?_)
 obtain ⟨it,fp,tn,J,H2,e,I2,T,st2,f2,q⟩:=h2
 subst e
 refine zen (RR:=fun acc C => compPost (model X.prog X.w) X.A X.xe none (EP X pins σ Q) acc C) SC hc hgs hdis hjs hg ht hm hturn I2 T st2 f2 q ?_
 intro D C s' ys H' m I' fpC hm q'
 refine ⟨m,hm,fun h'' hs'' => ⟨.ref D,_,?_,rfl,q'⟩⟩
 obtain ⟨f0,f1,f2',f3,f4,f5⟩:=fpC
 exact I'.turned (t':=s'.toks) (fun b o hb e => hs''.extBut b o hb e) f0 f1 f3 f4 f5
end
theorem ziN {elt t1 i1 t2 i2 : Expr} {f1 f2 : List Expr} {scope : Scope} {pos : Pos} (it : Value) (D : Addr) (env : Env) : compTurn (.ListComp elt [⟨t1,i1,f1,0⟩,⟨t2,i2,f2,0⟩] scope pos) 0 it (.ref D) env =
  zbV t1 f1 i1.pos (zfq (.ListComp elt [⟨t1,i1,f1,0⟩,⟨t2,i2,f2,0⟩] scope pos) i2 1 (.ref D) env) (.compLoop (.ListComp elt [⟨t1,i1,f1,0⟩,⟨t2,i2,f2,0⟩] scope pos) 0 it (.ref D) env) it env:=by rfl
theorem ziO {elt t1 i1 t2 i2 : Expr} {f1 f2 : List Expr} {scope : Scope} {pos : Pos} (it : Value) (D : Addr) (env : Env) : compTurn (.ListComp elt [⟨t1,i1,f1,0⟩,⟨t2,i2,f2,0⟩] scope pos) 1 it (.ref D) env =
  zbV t2 f2 i2.pos (zgE elt (.ref D) env) (.compLoop (.ListComp elt [⟨t1,i1,f1,0⟩,⟨t2,i2,f2,0⟩] scope pos) 1 it (.ref D) env) it env:=by rfl
end L2
end
section
set_option maxHeartbeats 3995000
namespace Srt
open PySem PyProof.Rows
section
variable {prog : Program} {w : World} {A : Around} {E : Value → Shared → Prop} {s : Shared} {a₀ : Array Keyed} {κ : SortKind} {val : Keyed → Int}
end
end Srt
end
section
set_option maxHeartbeats 3995000
namespace Srt
open PySem PyProof.Rows
section
variable {prog : Program} {w : World} {A : Around} {E : Value → Shared → Prop} {s : Shared} {a₀ : Array Keyed} {κ : SortKind} {val : Keyed → Int}
end
end Srt
end
section
set_option maxHeartbeats 3995000
namespace Srt
open PySem PyProof.Rows
section
variable {val : Keyed → Int} {T o l l1 l2 r r1 r2 : List Keyed}
end
section
variable {val : Keyed → Int} {T : List Keyed} {a b out : Array Keyed} {ia ib : Nat}
end
end Srt
end
section
set_option maxHeartbeats 3995000
namespace Srt
open PySem PyProof.Rows
section
variable {prog : Program} {w : World} {A : Around} {E : Value → Shared → Prop} {s : Shared} {a₀ : Array Keyed} {κ : SortKind} {val : Keyed → Int}
end
end Srt
end
section
set_option maxHeartbeats 3995000
namespace Srt
open PySem PyProof.Rows
section
variable {val : Keyed → Int} {T o l l1 l2 r r1 r2 : List Keyed}
end
section
variable {val : Keyed → Int} {T : List Keyed} {a b out : Array Keyed} {na nb : Nat}
end
section
variable {prog : Program} {w : World} {A : Around} {E : Value → Shared → Prop} {s : Shared} {a₀ : Array Keyed} {κ : SortKind} {val : Keyed → Int}
end
end Srt
end
section
set_option maxHeartbeats 3995000
namespace Srt
open PySem PyProof.Rows
section
variable {prog : Program} {w : World} {A : Around} {E : Value → Shared → Prop} {s : Shared} {a₀ : Array Keyed} {κ : SortKind} {val : Keyed → Int}
end
end Srt
end
section
set_option maxHeartbeats 3995000
namespace Srt
open PySem PyProof.Rows
section
variable {val : Keyed → Int}
end
section
variable {prog : Program} {w : World} {A : Around} {E : Value → Shared → Prop} {s : Shared} {a₀ : Array Keyed} {κ : SortKind} {val : Keyed → Int}
end
end Srt
end
section
set_option maxHeartbeats 3995000
namespace Srt
open PySem PyProof.Rows
section
variable {prog : Program} {w : World} {A : Around} {E : Value → Shared → Prop} {s : Shared}
end
end Srt
end
section
set_option maxHeartbeats 3994000
namespace PySem
open PyProof.Rows
section
variable {prog : Program} {w : World} {A : Around} {E : Value → Shared → Prop} {s : Shared} {it d : Addr} {i ep : Nat} {es : Array DictEntry}
end
end PySem
end
section
set_option maxHeartbeats 3994000
namespace Srt
open PySem PyProof.Rows
section
variable {prog : Program} {w : World} {A : Around} {E : Value → Shared → Prop} {s : Shared} {κ : SortKind} {val : Keyed → Int}
end
end Srt
end
section
set_option maxHeartbeats 3996000
namespace L2
open PySem PySem.Spec PyProof.Rows PySem.Builtin.Str
end L2
end
section
set_option maxHeartbeats 3996000
namespace L2
open PySem PySem.Spec PyProof.Rows PySem.Builtin.Str
end L2
end
section
set_option maxHeartbeats 3994000
namespace L2
open PySem PySem.Spec PyProof.Rows Srt
section
variable {X : Cx} {pins : List (Addr × Obj)} {σ : St} {H : Hp} {s : Shared} {k : Nat} {B : Int} {ps : List (Addr × List Int)}
end
end L2
end
section
set_option maxHeartbeats 3999000
namespace L2
open PySem PySem.Spec PyProof.Rows
section
variable {X : Cx} {elt t1 i1 t2 i2 : Expr} {f1 f2 : List Expr} {scope : Scope} {pos : Pos} {N' : List Str} {ix : List (Option Nat)} {js1 js2 : List Nat} {g1 g2 : TG} {ts1 ts2 : TT} {te : TE} {wi1 wi2 : TI}
theorem ziP (hc : X.calm = true) (gs2 : GS js2 g2) (hi2 : ∀ s₃ H₃ ex pins,PI (zF X N' scope s₃ H₃ ex pins) t2 i2 wi2)
  (hg2 : ∀ s₃ H₃ ex pins,PG (zF X N' scope s₃ H₃ ex pins) t2 g2) (ht2 : ∀ s₃ H₃ ex pins,zco (zF X N' scope s₃ H₃ ex pins) f2 ts2) (he : ∀ s₃ H₃ ex pins,PE (zF X N' scope s₃ H₃ ex pins) elt te)
  (hs2 : ∀ s₃ H₃ ex pins x,foldedSetIterable i2 (zF X N' scope s₃ H₃ ex pins).env x = pure x) :
  ∀ s₃ H₃ ex pins D,PM (zF X N' scope s₃ H₃ ex pins) D js2 ((fun D env => zfq (.ListComp elt [⟨t1,i1,f1,0⟩,⟨t2,i2,f2,0⟩] scope pos) i2 1 (.ref D) env) D (zF X N' scope s₃ H₃ ex pins).env) (zgG wi2 g2 ts2 (zgF te)):=by
 intro s₃ H₃ ex pins D
 have h:=ziM (Y:=zF X N' scope s₃ H₃ ex pins) (D:=D) (js:=js2) (js':=[]) (elt:=elt) (gens:=[⟨t1,i1,f1,0⟩,⟨t2,i2,f2,0⟩]) (scope:=scope) (pos:=pos) (d:=1) (p:=i2.pos) hc rfl gs2 (fun _ _ z => by cases z) (hi2 s₃ H₃ ex pins) (hg2 s₃ H₃ ex pins) (ht2 s₃ H₃ ex pins) (ziL rfl (he s₃ H₃ ex pins)) rfl (fun it => ziO it D _) (hs2 s₃ H₃ ex pins)
 rw [List.append_nil] at h
 exact h
theorem zhB (SC : CompSc X N' ix scope) (hc : X.calm = true) (gs1 : GS js1 g1) (gs2 : GS js2 g2) (hdis : ∀ j ∈ js1,j ∉ js2) (hjs : ∀ j ∈ js1 ++ js2,ix[j]? = some none) (hi1 : PI X t1 i1 wi1)
  (hg1 : ∀ s₃ H₃ ex pins,PG (zF X N' scope s₃ H₃ ex pins) t1 g1) (ht1 : ∀ s₃ H₃ ex pins,zco (zF X N' scope s₃ H₃ ex pins) f1 ts1) (hi2 : ∀ s₃ H₃ ex pins,PI (zF X N' scope s₃ H₃ ex pins) t2 i2 wi2)
  (hg2 : ∀ s₃ H₃ ex pins,PG (zF X N' scope s₃ H₃ ex pins) t2 g2) (ht2 : ∀ s₃ H₃ ex pins,zco (zF X N' scope s₃ H₃ ex pins) f2 ts2) (he : ∀ s₃ H₃ ex pins,PE (zF X N' scope s₃ H₃ ex pins) elt te)
  (hs : ∀ x,foldedSetIterable i1 X.env x = pure x:=by intro _; rfl) (hs2 : ∀ s₃ H₃ ex pins x,foldedSetIterable i2 (zF X N' scope s₃ H₃ ex pins).env x = pure x:=by intros; rfl) :
  PE X (.ListComp elt [⟨t1,i1,f1,0⟩,⟨t2,i2,f2,0⟩] scope pos) (zgH ix wi1 g1 ts1 (zgG wi2 g2 ts2 (zgF te))) :=
 zgI SC hc gs1 hdis hjs hi1 hg1 ht1 (ziP hc gs2 hi2 hg2 ht2 he hs2) (fun it D env => ziN it D env) hs
end
theorem zh8 {J : It} {n : Nat} {g : TG} {ts : TT} {tm : TM} {σ0 : St} {Q : List V → Hp → Prop} {ys : List V} {H : Hp} (Pv : Nat → List V → Hp → Prop) (h0 : Pv 0 ys H) (hgo : ∀ i ys H,i < n → Pv i ys H → J.go i H) (hst : ∀ ys H,Pv n ys H → J.stop n H)
  (hs : ∀ i x ys H H',i < n → Pv i ys H → J.yld i H x H' → g x σ0 H' fun σ2 H2 => ts σ2 H2 fun b H3 => if b = true then tm ys σ2 H3 (Pv (i + 1)) else Pv (i + 1) ys H3)
  (hd : ∀ ys H,Pv n ys H → Q ys H) : cIn g ts tm σ0 J Q ys H:=by
 refine ⟨fun i m ys H => m = n - i ∧ i ≤ n ∧ Pv i ys H,⟨n,by simp,Nat.zero_le _,h0⟩,?_⟩
 rintro i m ys H ⟨rfl,hi,p⟩
 by_cases hlt : i < n
 ·exact .inr ⟨hgo i ys H hlt p,Pv (i + 1),fun ys' H' p' => ⟨n - (i + 1),by omega,rfl,hlt,p'⟩,fun x H' y => hs i x ys H H' hlt p y⟩
 ·have e : i = n:=by omega
  subst e
  exact .inl ⟨hst ys H p,hd ys H p⟩
end L2
end
section
set_option maxHeartbeats 3999000
namespace L2
open PySem PySem.Spec PyProof.Rows
section
variable {X : Cx} {x : Str} {S : Addr} {body suite : List Stmt} {b₀ : Stmt} {tb : XK → TS} {th : TS} {np hpos pos : Pos}
end
end L2
end
section
namespace L2
open PySem PySem.Spec PyProof.Rows
def ziQ (sc : Scope) (x : Str) : Bool:=match sc.names.lookup x with
 | some .local => true
 | some .cell => true
 | some .free => true
 | _ => false
theorem zhC {sc : Scope} {x : Str} (h : ziQ sc x = true) : Vis sc x:=by
 unfold ziQ at h
 unfold Vis
 cases e : sc.names.lookup x with
 | none => rw [e] at h; cases h
 | some k => cases k <;> simp_all
def pvB (N : List Str) (sc : Scope) (i : Nat) (x : Str) : Bool:=decide (N[i]? = some x) && ziQ sc x && !(x == ("__debug__" : Str)) && !(x == ("__classdict__" : Str))
theorem pvx {X : Cx} (i : Nat) {x : Str} {pos : Pos} (h : pvB X.N X.env.scope i x = true) : PE X (.Name x pos) (zi1 i):=by
 unfold pvB at h
 simp only [Bool.and_eq_true,Bool.not_eq_true',decide_eq_true_eq] at h
 exact zig h.1.1.1 (zhC h.1.1.2) h.1.2 h.2
end L2
end
section
set_option maxHeartbeats 3999000
namespace My
open PySem L2 PyProof.Rows
theorem Paired.get {α β : Type} {F : α → β → Prop} : ∀ {l₁ : List α} {l₂ : List β},Paired F l₁ l₂ → ∀ {i : Nat} {a : α},l₁[i]? = some a → ∃ b,l₂[i]? = some b ∧ F a b
 | _,_,.nil,i,a,h => by simp at h
 | _,_,.cons r t,0,a,h => by
  (simp only [List.getElem?_cons_zero,Option.some.injEq] at h)
  subst h
  exact ⟨_,rfl,r⟩
 | _,_,.cons r t,i + 1,a,h => by
  rw [List.getElem?_cons_succ] at h
  obtain ⟨b,hb,f⟩:=Paired.get t h
  exact ⟨b,by rw [List.getElem?_cons_succ]; exact hb,f⟩
end My
end
section
set_option maxHeartbeats 3999000
namespace My
open PySem L2 PyProof.Rows
def quo (p r : Int) : List Int → List Int
 | [] => []
 | [_] => []
 | _ :: d :: cs => zn p r (d :: cs) :: quo p r (d :: cs)
theorem zfs (p r : Int) : ∀ (c : Int) (cs : List Int),(quo p r (c :: cs)).length = cs.length
 | _,[] => rfl
 | _,d :: cs => by
  show (quo p r (d :: cs)).length + 1 = cs.length + 1
  rw [zfs p r d cs]
theorem zgJ {p r x : Int} : ∀ d : List Int,Cg p (zn p x d - zn p r d) ((x - r) * zn p x (quo p r d))
 | [] => Cg.of_eq (by show (0 : Int) - 0 = (x - r) * 0; omega)
 | [c] => by
  have h1 : Cg p (zn p x [c]) (c + x * 0):=zN p x c []
  have h2 : Cg p (zn p r [c]) (c + r * 0):=zN p r c []
  refine (h1.sub h2).trans (Cg.of_eq ?_)
  show c + x * 0 - (c + r * 0) = (x - r) * 0
  omega
 | c :: d :: cs => by
  have h1:=zN p x c (d :: cs)
  have h2:=zN p r c (d :: cs)
  have ih:=zgJ (p:=p) (r:=r) (x:=x) (d :: cs)
  have h3 : Cg p (zn p x (quo p r (c :: d :: cs))) (zn p r (d :: cs) + x * zn p x (quo p r (d :: cs))):=zN p x _ _
  have h4:=(Cg.refl p (x - r)).mul h3
  have h5:=(Cg.refl p x).mul ih
  refine (h1.sub h2).trans (Cg.symm (h4.trans ?_))
  refine (Cg.of_eq (show _ = (x - r) * zn p r (d :: cs) + x * ((x - r) * zn p x (quo p r (d :: cs))) by grind)).trans ?_
  refine ((Cg.refl p ((x - r) * zn p r (d :: cs))).add h5.symm).trans (Cg.of_eq (by grind))
theorem zeo {p r : Int} : ∀ d : List Int,Cg p (zn p r d) 0 → (∀ c ∈ quo p r d,Cg p c 0) → ∀ c ∈ d,Cg p c 0
 | [],_,_,c,hc => by cases hc
 | [a],h,_,c,hc => by
  obtain rfl : c = a:=by simpa using hc
  have h1 : Cg p (zn p r [c]) (c + r * 0):=zN p r c []
  exact ((Cg.of_eq (by omega)).trans h1.symm).trans h
 | a :: d :: cs,h,hq,c,hc => by
  have h0 : Cg p (zn p r (d :: cs)) 0:=hq _ List.mem_cons_self
  rcases (List.mem_cons.mp hc) with rfl | hc
  ·have h1:=zN p r c (d :: cs)
   have h2:=(Cg.refl p r).mul h0
   have h3:=(h1.symm.trans h).sub h2
   exact (Cg.of_eq (by omega)).trans (h3.trans (Cg.of_eq (by omega)))
  ·exact zeo (d :: cs) h0 (fun c hc => hq c (List.mem_cons_of_mem _ hc)) c hc
theorem zbI {p a y : Int} (hp : p ∈ zk) (ha0 : a % p ≠ 0) (h : Cg p (a * y) 0) : Cg p y 0:=by
 have rp:=zp hp
 have g0:=Int.emod_nonneg a (show p ≠ 0 by omega)
 have g1:=Int.emod_lt_of_pos a (show 0 < p by omega)
 have hi:=zcR hp (h:=a % p) (by omega) g1
 have h1 : Cg p (inv p (a % p) * (a % p) * y) (1 * y):=hi.mul (Cg.refl p y)
 have h2 : Cg p (inv p (a % p) * (a % p) * y) (inv p (a % p) * (a * y)):=by
  have:=((Cg.refl p (inv p (a % p))).mul (Cg.emod p a)).mul (Cg.refl p y)
  exact this.trans (Cg.of_eq (by grind))
 have h3:=(Cg.refl p (inv p (a % p))).mul h
 exact (Cg.of_eq (by omega)).trans (h1.symm.trans (h2.trans (h3.trans (Cg.of_eq (by omega)))))
theorem zcW {p : Int} (hp : p ∈ zk) : ∀ (n : Nat) (d xs : List Int),d.length = n → n ≤ xs.length → xs.Nodup → (∀ x ∈ xs,0 ≤ x ∧ x < p) → (∀ x ∈ xs,Cg p (zn p x d) 0) → ∀ c ∈ d,Cg p c 0
 | 0,d,xs,hd,_,_,_,_,c,hc => by
  rw [List.length_eq_zero_iff] at hd
  subst hd
  cases hc
 | n + 1,d,[],hd,hx,_,_,_,c,hc => by simp at hx
 | n + 1,[],r :: xs,hd,hx,_,_,_,c,hc => by cases hc
 | n + 1,a :: cs,r :: xs,hd,hx,hnd,hrg,hz,c,hc => by
  have rp:=zp hp
  obtain ⟨r0,r1⟩:=hrg r List.mem_cons_self
  have hr:=hz r List.mem_cons_self
  refine zeo (a :: cs) hr (zcW hp n (quo p r (a :: cs)) xs (by rw [zfs]; simpa using hd) (by simpa using hx) (List.nodup_cons.mp hnd).2 (fun x h => hrg x (List.mem_cons_of_mem _ h)) fun x h => ?_) c hc
  obtain ⟨x0,x1⟩:=hrg x (List.mem_cons_of_mem _ h)
  have hne : x ≠ r:=fun e => (List.nodup_cons.mp hnd).1 (e ▸ h)
  have he:=zgJ (p:=p) (r:=r) (x:=x) (a :: cs)
  have h0:=(hz x (List.mem_cons_of_mem _ h)).sub hr
  refine zbI hp (a:=x - r) (fun e => ?_) (he.symm.trans (h0.trans (Cg.of_eq (by omega))))
  have : Cg p x r:=by
   have h1 : Cg p (x - r) 0:=Cg.of_mod (by rw [e]; simp)
   have h2:=h1.add (Cg.refl p r)
   exact (Cg.of_eq (by omega)).trans (h2.trans (Cg.of_eq (by omega)))
  exact hne (this.eq x0 x1 r0 r1)
theorem zep {p x : Int} : ∀ {a b : List Int},a.length = b.length → Cg p (zn p x (List.zipWith (· - ·) a b)) (zn p x a - zn p x b)
 | [],[],_ => Cg.of_eq rfl
 | c :: a,d :: b,h => by
  have ih:=zep (p:=p) (x:=x) (a:=a) (b:=b) (by simpa using h)
  have h1:=zN p x c a
  have h2:=zN p x d b
  have h3 : Cg p (zn p x (List.zipWith (· - ·) (c :: a) (d :: b))) (c - d + x * zn p x (List.zipWith (· - ·) a b)):=zN p x (c - d) _
  refine h3.trans (((Cg.refl p (c - d)).add ((Cg.refl p x).mul ih)).trans (Cg.symm ((h1.sub h2).trans (Cg.of_eq (by grind)))))
 | [],_ :: _,h => by simp at h
 | _ :: _,[],h => by simp at h
theorem zeq {p : Int} : ∀ {a b : List Int},a.length = b.length → (∀ c ∈ a,0 ≤ c ∧ c < p) → (∀ c ∈ b,0 ≤ c ∧ c < p) → (∀ c ∈ List.zipWith (· - ·) a b,Cg p c 0) → a = b
 | [],[],_,_,_,_ => rfl
 | c :: a,d :: b,h,ha,hb,hz => by
  obtain ⟨c0,c1⟩:=ha c List.mem_cons_self
  obtain ⟨d0,d1⟩:=hb d List.mem_cons_self
  have h1 : Cg p (c - d) 0:=hz _ List.mem_cons_self
  have h2 : Cg p c d:=(Cg.of_eq (by omega)).trans ((h1.add (Cg.refl p d)).trans (Cg.of_eq (by omega)))
  rw [h2.eq c0 c1 d0 d1,zeq (by simpa using h) (fun c hc => ha c (List.mem_cons_of_mem _ hc)) (fun c hc => hb c (List.mem_cons_of_mem _ hc)) (fun c hc => hz c (List.mem_cons_of_mem _ hc))]
 | [],_ :: _,h,_,_,_ => by simp at h
 | _ :: _,[],h,_,_,_ => by simp at h
theorem zer {p : Int} (hp : p ∈ zk) {a b xs : List Int} (hl : a.length = b.length) (hx : a.length ≤ xs.length) (hnd : xs.Nodup) (hrg : ∀ x ∈ xs,0 ≤ x ∧ x < p) (ha : ∀ c ∈ a,0 ≤ c ∧ c < p) (hb : ∀ c ∈ b,0 ≤ c ∧ c < p)
  (he : ∀ x ∈ xs,zn p x a = zn p x b) : a = b:=by
 refine zeq hl ha hb (zcW hp a.length _ xs (by rw [List.length_zipWith]; omega) hx hnd hrg fun x h => ?_)
 refine (zep hl).trans (Cg.of_eq ?_)
 rw [he x h]
 omega
theorem zgK {p : Int} (hp : p ∈ zk) {pk : List (Int × Int)} (hP : Pts p pk) {q : List Int} (hl : q.length = pk.length) (hq : ∀ c ∈ q,0 ≤ c ∧ c < p) (hh : ∀ a ∈ pk,zn p a.1 q = a.2) : q = thr p pk:=by
 obtain ⟨h1,h2,h3⟩:=zdQ hp hP
 refine zer hp (xs:=pk.map (·.1)) (by omega) (by rw [List.length_map]; omega) hP.nd (fun x hx => ?_) hq h2 fun x hx => ?_
 ·obtain ⟨a,ha,rfl⟩:=List.mem_map.mp hx
  exact ⟨(hP.rg a ha).1,(hP.rg a ha).2.1⟩
 ·obtain ⟨a,ha,rfl⟩:=List.mem_map.mp hx
  rw [hh a ha,h3 a ha]
def IsP (p : Int) (k : Nat) (q : List Int) : Prop:=q.length = k ∧ ∀ c ∈ q,0 ≤ c ∧ c < p
def hps : List Int → List (Option Int) → List (Int × Int)
 | x :: pl,some y :: rw => (x,y) :: hps pl rw
 | _ :: pl,none :: rw => hps pl rw
 | _,_ => []
theorem zcX : ∀ {pl : List Int} {rw : List (Option Int)} {i : Nat} {x : Int} {o : Option Int},pl[i]? = some x → rw[i]? = some o → hps (pl.take (i + 1)) (rw.take (i + 1)) = hps (pl.take i) (rw.take i) ++ (match o with | some y => [(x,y)] | none => [])
 | [],_,i,x,o,h,_ => by simp at h
 | _ :: _,[],i,x,o,_,h => by simp at h
 | a :: pl,b :: rw,0,x,o,h1,h2 => by
  simp only [List.getElem?_cons_zero,Option.some.injEq] at h1 h2
  subst h1 h2
  cases b <;> rfl
 | a :: pl,b :: rw,i + 1,x,o,h1,h2 => by
  rw [List.getElem?_cons_succ] at h1 h2
  have ih:=zcX h1 h2
  cases b with
  | none => exact ih
  | some y =>
   show (a,y) :: hps (pl.take (i + 1)) (rw.take (i + 1)) = (a,y) :: hps (pl.take i) (rw.take i) ++ _
   rw [ih]
   rfl
theorem zbJ : ∀ (pl : List Int) (rw : List (Option Int)),(hps pl rw).length ≤ pl.length
 | [],rw => by unfold hps; simp
 | a :: pl,[] => by unfold hps; simp
 | a :: pl,none :: rw => by
  have:=zbJ pl rw
  show (hps pl rw).length ≤ pl.length + 1
  omega
 | a :: pl,some y :: rw => by
  have:=zbJ pl rw
  show (hps pl rw).length + 1 ≤ pl.length + 1
  omega
theorem zbK : ∀ {pl : List Int} {rw : List (Option Int)} {a : Int × Int},a ∈ hps pl rw → a.1 ∈ pl ∧ some a.2 ∈ rw
 | [],_,a,h => by unfold hps at h; cases h
 | _ :: _,[],a,h => by unfold hps at h; cases h
 | x :: pl,none :: rw,a,h => by
  obtain ⟨h1,h2⟩:=zbK (pl:=pl) (rw:=rw) h
  exact ⟨List.mem_cons_of_mem _ h1,List.mem_cons_of_mem _ h2⟩
 | x :: pl,some y :: rw,a,h => by
  rcases (List.mem_cons.mp h) with rfl | h
  ·exact ⟨List.mem_cons_self,List.mem_cons_self⟩
  ·obtain ⟨h1,h2⟩:=zbK (pl:=pl) (rw:=rw) h
   exact ⟨List.mem_cons_of_mem _ h1,List.mem_cons_of_mem _ h2⟩
theorem zdV : ∀ (pl : List Int) (rw : List (Option Int)),((hps pl rw).map (·.1)).Sublist pl
 | [],_ => by unfold hps; exact List.nil_sublist _
 | _ :: _,[] => by unfold hps; exact List.nil_sublist _
 | x :: pl,none :: rw => (zdV pl rw).cons _
 | x :: pl,some y :: rw => (zdV pl rw).cons_cons _
theorem zhD {p : Int} {pl : List Int} {rw : List (Option Int)} (h1 : pl.Nodup) (h2 : ∀ x ∈ pl,0 ≤ x ∧ x < p) (h3 : ∀ z,some z ∈ rw → 0 ≤ z ∧ z < p) : Pts p (hps pl rw) :=
 ⟨(zdV pl rw).nodup h1,fun q hq => ⟨(h2 _ (zbK hq).1).1,(h2 _ (zbK hq).1).2,(h3 _ (zbK hq).2).1,(h3 _ (zbK hq).2).2⟩⟩
end My
end
section
set_option maxHeartbeats 3999000
namespace My
open PySem L2 PyProof.Rows
def sm : Nat → (Nat → Int) → Int
 | 0,_ => 0
 | n + 1,f => sm n f + f n
theorem zM {f g : Nat → Int} : ∀ {n : Nat},(∀ i,i < n → f i = g i) → sm n f = sm n g
 | 0,_ => rfl
 | n + 1,h => by
  show sm n f + f n = sm n g + g n
  rw [zM (n:=n) fun i hi => h i (by omega),h n (by omega)]
theorem za2 {p : Int} {f g : Nat → Int} : ∀ {n : Nat},(∀ i,i < n → Cg p (f i) (g i)) → Cg p (sm n f) (sm n g)
 | 0,_ => Cg.refl _ _
 | n + 1,h => (za2 (n:=n) fun i hi => h i (by omega)).add (h n (by omega))
theorem zdW {f g : Nat → Int} : ∀ n : Nat,sm n (fun i => f i + g i) = sm n f + sm n g
 | 0 => rfl
 | n + 1 => by
  show sm n (fun i => f i + g i) + (f n + g n) = sm n f + f n + (sm n g + g n)
  rw [zdW n]
  omega
theorem zaX {c : Int} {f : Nat → Int} : ∀ n : Nat,sm n (fun i => c * f i) = c * sm n f
 | 0 => by show (0 : Int) = c * 0; omega
 | n + 1 => by
  show sm n (fun i => c * f i) + c * f n = c * (sm n f + f n)
  rw [zaX n,Int.mul_add]
theorem zai {f : Nat → Int} : ∀ {n : Nat},(∀ i,i < n → f i = 0) → sm n f = 0
 | 0,_ => rfl
 | n + 1,h => by
  show sm n f + f n = 0
  rw [zai (n:=n) fun i hi => h i (by omega),h n (by omega)]
  rfl
theorem zdX {f : Nat → Int} {j : Nat} : ∀ {n : Nat},j < n → (∀ i,i < n → i ≠ j → f i = 0) → sm n f = f j
 | 0,hj,_ => by omega
 | n + 1,hj,h => by
  show sm n f + f n = f j
  by_cases e : j = n
  ·subst e
   rw [zai fun i hi => h i (by omega) (by omega)]
   omega
  ·rw [zdX (n:=n) (by omega) fun i hi hne => h i (by omega) hne,h n (by omega) (by omega)]
   omega
theorem zcy {f : Nat → Int} : ∀ n : Nat,sm (n + 1) f = f 0 + sm n (fun i => f (i + 1))
 | 0 => by show (0 : Int) + f 0 = f 0 + 0; omega
 | n + 1 => by
  show sm (n + 1) f + f (n + 1) = f 0 + (sm n (fun i => f (i + 1)) + f (n + 1))
  rw [zcy n]
  omega
theorem zdY {f : Nat → Nat → Int} (m : Nat) : ∀ n : Nat,sm n (fun i => sm m (fun j => f i j)) = sm m (fun j => sm n fun i => f i j)
 | 0 => (zai fun _ _ => rfl).symm
 | n + 1 => by
  show sm n (fun i => sm m (fun j => f i j)) + sm m (fun j => f n j) = sm m (fun j => sm n (fun i => f i j) + f n j)
  rw [zdY m n,← zdW]
theorem zft {f : Nat → Int} {m : Nat} : ∀ {n : Nat},m ≤ n → (∀ i,m ≤ i → i < n → f i = 0) → sm n f = sm m f
 | 0,h,_ => by rw [show m = 0 by omega]
 | n + 1,h,hz => by
  by_cases e : m = n + 1
  ·rw [e]
  ·show sm n f + f n = _
   rw [zft (n:=n) (by omega) fun i h1 h2 => hz i h1 (by omega),hz n (by omega) (by omega)]
   omega
def gl (w : List Int) (y : Nat) : Int:=w.getD y 0
theorem zbb {w : List Int} {y : Nat} {c : Int} (h : w[y]? = some c) : gl w y = c:=by
 unfold gl
 rw [List.getD_eq_getElem?_getD,h]
 rfl
theorem zav {w : List Int} {y : Nat} (h : w.length ≤ y) : gl w y = 0:=by
 unfold gl
 rw [List.getD_eq_getElem?_getD,List.getElem?_eq_none h]
 rfl
theorem zaG {w : List Int} {y : Nat} (h : y < w.length) : w[y]? = some (gl w y):=by
 rw [List.getElem?_eq_getElem h,zbb (List.getElem?_eq_getElem h)]
theorem zbk {w : List Int} {p : Int} (hp : 0 < p) (h : ∀ c ∈ w,0 ≤ c ∧ c < p) (y : Nat) : 0 ≤ gl w y ∧ gl w y < p:=by
 by_cases hy : y < w.length
 ·exact h _ (List.mem_of_getElem? (zaG hy))
 ·rw [zav (by omega)]
  omega
theorem zeX {f : Int → Int} {w : List Int} {y : Nat} (h : y < w.length) : gl (w.map f) y = f (gl w y):=zbb (by rw [List.getElem?_map,zaG h]; rfl)
theorem zgL {f : Int → Int → Int} {v w : List Int} {y : Nat} (h : y < v.length) (h' : y < w.length) : gl (List.zipWith f v w) y = f (gl v y) (gl w y):=zbb (by rw [List.getElem?_zipWith,zaG h,zaG h'])
theorem zfu {p x : Int} : ∀ q : List Int,Cg p (zn p x q) (sm q.length fun i => gl q i * x ^ i)
 | [] => Cg.refl _ _
 | c :: q => by
  refine (zN p x c q).trans ?_
  rw [List.length_cons,zcy]
  have e : sm q.length (fun i => gl (c :: q) (i + 1) * x ^ (i + 1)) = x * sm q.length (fun i => gl q i * x ^ i):=by
   rw [← zaX]
   refine zM fun i _ => ?_
   show gl q i * x ^ (i + 1) = _
   rw [Int.pow_succ]
   grind
  rw [e]
  refine Cg.add (Cg.of_eq ?_) ((Cg.refl p x).mul (zfu q))
  show c = c * x ^ 0
  rw [Int.pow_zero,Int.mul_one]
theorem zaY {p x : Int} {q : List Int} {n : Nat} (h : q.length ≤ n) : Cg p (zn p x q) (sm n fun i => gl q i * x ^ i):=by
 rw [zft h fun i h1 _ => by rw [zav h1,Int.zero_mul]]
 exact zfu q
def vx (vs : List (List Int)) (i x : Nat) : Int:=gl (vs.getD i []) x
def Rel (p : Int) (L N : Nat) (vs : List (List Int)) (u : Nat → Int) : Prop:=∀ x,x < L → Cg p (u x) (sm N fun i => u (L + i) * vx vs i x)
theorem Rel.sub {p : Int} {L N : Nat} {vs : List (List Int)} {u w r : Nat → Int} (hu : Rel p L N vs u) (hw : Rel p L N vs w) (t : Int) (hr : ∀ y,y < L + N → Cg p (r y) (u y - t * w y)) : Rel p L N vs r:=fun x hx => by
 refine (hr x (by omega)).trans (((hu x hx).sub ((Cg.refl p t).mul (hw x hx))).trans ?_)
 have e : sm N (fun i => u (L + i) * vx vs i x) - t * sm N (fun i => w (L + i) * vx vs i x) = sm N (fun i => (u (L + i) - t * w (L + i)) * vx vs i x):=by
  rw [show ∀ a b : Int,a - t * b = a + (-t) * b by intros; grind,← zaX,← zdW]
  exact zM fun i _ => by grind
 rw [e]
 exact za2 fun i hi => (hr (L + i) (by omega)).symm.mul (Cg.refl _ _)
structure Ech (p : Int) (L N m : Nat) (vs : List (List Int)) (cl : List (Nat × List Int)) : Prop where
 ln : cl.length = m
 one : ∀ (j : Nat) (a : Nat × List Int),cl[j]? = some a → a.1 < L ∧ a.2.length = L + N ∧ (∀ c ∈ a.2,0 ≤ c ∧ c < p) ∧ Rel p L N vs (gl a.2) ∧ gl a.2 a.1 = 1 ∧ ∀ i,j < i → i < N → gl a.2 (L + i) = 0
 up : ∀ (j j' : Nat) (a a' : Nat × List Int),cl[j]? = some a → cl[j']? = some a' → j < j' → gl a'.2 a.1 = 0
 ii : ∀ u : Nat → Int,Rel p L N vs u → (∀ i,m ≤ i → i < N → Cg p (u (L + i)) 0) → (∀ a ∈ cl,Cg p (u a.1) 0) → ∀ i,i < N → Cg p (u (L + i)) 0
theorem Ech.start (p : Int) (L N : Nat) (vs : List (List Int)) : Ech p L N 0 vs [] where
 ln:=rfl
 one:=fun _ _ h => by simp at h
 up:=fun _ _ _ _ h => by simp at h
 ii:=fun u _ h _ i hi => h i (Nat.zero_le _) hi
structure Wh (p : Int) (L N m : Nat) (vs : List (List Int)) (cl : List (Nat × List Int)) (w : List Int) : Prop where
 ln : w.length = L + N
 rg : ∀ c ∈ w,0 ≤ c ∧ c < p
 rel : Rel p L N vs (gl w)
 top : gl w (L + m) = 1
 up : ∀ j,m < j → j < N → gl w (L + j) = 0
 z : ∀ a ∈ cl,gl w a.1 = 0
theorem zes {p : Int} (hp : p ∈ zk) {L N m : Nat} {vs : List (List Int)} {v : List Int} (hm : m < N) (hv : vs[m]? = some v) (hl : v.length = L) (hr : ∀ c ∈ v,0 ≤ c ∧ c < p) : Wh p L N m vs [] ((v ++ List.replicate N 0).set (L + m) 1):=by
 have rp:=zp hp
 have hlow : ∀ y,y < L → gl ((v ++ List.replicate N 0).set (L + m) 1) y = gl v y:=fun y hy => zbb (by
  rw [List.getElem?_set_ne (by omega),List.getElem?_append_left (by omega),zaG (by omega)])
 have htop : gl ((v ++ List.replicate N 0).set (L + m) 1) (L + m) = 1:=zbb (by
  rw [List.getElem?_set_self (by rw [List.length_append,List.length_replicate]; omega)])
 have hz : ∀ j,j < N → j ≠ m → gl ((v ++ List.replicate N 0).set (L + m) 1) (L + j) = 0:=fun j hj hne => zbb (by
  rw [List.getElem?_set_ne (by omega),List.getElem?_append_right (by omega),List.getElem?_replicate]
  rw [if_pos (by omega)])
 refine ⟨by rw [List.length_set,List.length_append,List.length_replicate,hl],fun c hc => ?_,fun x hx => ?_,htop,fun j h1 h2 => hz j h2 (by omega),fun a ha => by cases ha⟩
 ·rcases List.mem_or_eq_of_mem_set hc with h | rfl
  ·rcases (List.mem_append.mp h) with h | h
   ·exact hr c h
   ·rw [List.eq_of_mem_replicate h]; omega
  ·omega
 ·rw [hlow x hx,zdX (j:=m) hm fun i hi hne => by rw [hz i hi hne,Int.zero_mul],htop,Int.one_mul]
  unfold vx
  rw [List.getD_eq_getElem?_getD,hv]
  exact Cg.refl _ _
theorem zfv {p : Int} (hp : p ∈ zk) {L N m i : Nat} {vs : List (List Int)} {cl : List (Nat × List Int)} {w : List Int} {a : Nat × List Int} (E : Ech p L N m vs cl) (hm : m < N) (ha : cl[i]? = some a) (W : Wh p L N m vs (cl.take i) w) :
  Wh p L N m vs (cl.take (i + 1)) (List.zipWith (fun x y => (x - gl w a.1 * y) % p) w a.2):=by
 have rp:=zp hp
 obtain ⟨a1,a2,a3,a4,a5,a6⟩:=E.one i a ha
 have him : i < m:=by rw [← E.ln]; exact (List.getElem?_eq_some_iff.mp ha).1
 have hg : ∀ y,y < L + N → gl (List.zipWith (fun x y => (x - gl w a.1 * y) % p) w a.2) y = (gl w y - gl w a.1 * gl a.2 y) % p:=fun y hy => zgL (by rw [W.ln]; exact hy) (by omega)
 refine ⟨by rw [List.length_zipWith,W.ln,a2,Nat.min_self],fun c hc => ?_,W.rel.sub a4 (gl w a.1) fun y hy => by rw [hg y hy]; exact Cg.emod _ _,?_,fun j h1 h2 => ?_,fun b hb => ?_⟩
 ·obtain ⟨x,y,rfl⟩:=zb3 hc
  exact ⟨Int.emod_nonneg _ (by omega),Int.emod_lt_of_pos _ (by omega)⟩
 ·rw [hg _ (by omega),W.top,a6 m him hm,Int.mul_zero,Int.sub_zero]
  exact Int.emod_eq_of_lt (by omega) (by omega)
 ·rw [hg _ (by omega),W.up j h1 h2,a6 j (by omega) h2,Int.mul_zero]
  rfl
 ·rw [take_snoc ha] at hb
  rcases (List.mem_append.mp hb) with hb | hb
  ·obtain ⟨j,hj⟩:=List.getElem?_of_mem hb
   have hji : j < i:=by
    have:=(List.getElem?_eq_some_iff.mp hj).1
    rw [List.length_take] at this
    omega
   have hj' : cl[j]? = some b:=by rw [List.getElem?_take_of_lt hji] at hj; exact hj
   have hb1:=(E.one j b hj').1
   rw [hg _ (by omega),W.z b hb,E.up j i b a hj' ha hji,Int.mul_zero]
   rfl
  ·obtain rfl : b = a:=by simpa using hb
   rw [hg _ (by omega),a5,Int.mul_one,Int.sub_self]
   rfl
theorem zet {p : Int} (hp : p ∈ zk) {L N m : Nat} {vs : List (List Int)} {cl : List (Nat × List Int)} {w : List Int} {ld : Nat} (E : Ech p L N m vs cl) (hm : m < N) (W : Wh p L N m vs cl w) (hld : ld < L) (h0 : gl w ld ≠ 0) :
  Ech p L N (m + 1) vs (cl ++ [(ld,w.map fun x => x * inv p (gl w ld) % p)]):=by
 have rp:=zp hp
 obtain ⟨g0,g1⟩:=zbk (show 0 < p by omega) W.rg ld
 have hi:=zcR hp (h:=gl w ld) (by omega) g1
 have hg : ∀ y,y < L + N → gl (w.map fun x => x * inv p (gl w ld) % p) y = gl w y * inv p (gl w ld) % p:=fun y hy => zeX (f:=fun x => x * inv p (gl w ld) % p) (by rw [W.ln]; exact hy)
 have hat : ∀ j a,(cl ++ [(ld,w.map fun x => x * inv p (gl w ld) % p)])[j]? = some a → (j < m ∧ cl[j]? = some a) ∨ (j = m ∧ a = (ld,w.map fun x => x * inv p (gl w ld) % p)):=fun j a h => by
  by_cases hj : j < m
  ·rw [List.getElem?_append_left (by rw [E.ln]; exact hj)] at h
   exact .inl ⟨hj,h⟩
  ·rw [List.getElem?_append_right (by rw [E.ln]; omega),E.ln] at h
   have hj0 : j - m = 0:=by
    have:=(List.getElem?_eq_some_iff.mp h).1
    simp at this
    omega
   rw [hj0] at h
   exact .inr ⟨by omega,(by simpa using h.symm)⟩
 refine ⟨by rw [List.length_append,E.ln]; rfl,fun j a h => ?_,fun j j' a a' h h' hlt => ?_,fun u hu hup hz i hi' => ?_⟩
 ·rcases hat j a h with ⟨_,h⟩ | ⟨rfl,rfl⟩
  ·exact E.one j a h
  ·refine ⟨hld,by rw [List.length_map,W.ln],fun c hc => ?_,?_,?_,fun i h1 h2 => ?_⟩
   ·obtain ⟨x,_,rfl⟩:=List.mem_map.mp hc
    exact ⟨Int.emod_nonneg _ (by omega),Int.emod_lt_of_pos _ (by omega)⟩
   ·refine Rel.sub (u:=fun _ => 0) (fun x _ => Cg.of_eq (zai fun i _ => Int.zero_mul _).symm) W.rel (-inv p (gl w ld)) fun y hy => ?_
    rw [hg y hy]
    exact (Cg.emod _ _).trans (Cg.of_eq (by grind))
   ·rw [hg ld (by omega)]
    have h2 : Cg p (gl w ld * inv p (gl w ld)) 1:=(Cg.of_eq (Int.mul_comm _ _)).trans hi
    rw [h2.mod_eq]
    exact Int.emod_eq_of_lt (by omega) (by omega)
   ·rw [hg _ (by omega),W.up i h1 h2,Int.zero_mul]
    rfl
 ·rcases hat j' a' h' with ⟨hj',h'⟩ | ⟨rfl,rfl⟩
  ·rcases hat j a h with ⟨_,h⟩ | ⟨rfl,_⟩
   ·exact E.up j j' a a' h h' hlt
   ·omega
  ·rcases hat j a h with ⟨_,h⟩ | ⟨rfl,_⟩
   ·have:=(E.one j a h).1
    rw [hg _ (by omega),W.z a (List.mem_of_getElem? h),Int.zero_mul]
    rfl
   ·omega
 ·have hru : Rel p L N vs (fun y => u y - u (L + m) * gl w y):=hu.sub W.rel (u (L + m)) fun y _ => Cg.refl _ _
  have hall:=E.ii (fun y => u y - u (L + m) * gl w y) hru (fun i h1 h2 => by
   by_cases e : i = m
   ·subst e
    show Cg p (u (L + i) - u (L + i) * gl w (L + i)) 0
    rw [W.top]
    exact Cg.of_eq (by omega)
   ·show Cg p (u (L + i) - u (L + m) * gl w (L + i)) 0
    rw [W.up i (by omega) h2,Int.mul_zero,Int.sub_zero]
    exact hup i (by omega) h2) (fun a ha => by
   show Cg p (u a.1 - u (L + m) * gl w a.1) 0
   rw [W.z a ha,Int.mul_zero,Int.sub_zero]
   exact hz a (List.mem_append_left _ ha))
  have hlead : Cg p (u ld - u (L + m) * gl w ld) 0:=(hru ld hld).trans ((za2 (g:=fun _ => 0) fun i hi => ((hall i hi).mul (Cg.refl _ _)).trans (Cg.of_eq (Int.zero_mul _))).trans (Cg.of_eq (zai fun _ _ => rfl)))
  have hul:=hz (ld,_) (List.mem_append_right _ (List.mem_singleton.mpr rfl))
  have hc : Cg p (gl w ld * u (L + m)) 0:=by
   have:=hul.sub hlead
   exact (Cg.of_eq (by show gl w ld * u (L + m) = u ld - (u ld - u (L + m) * gl w ld); grind)).trans (this.trans (Cg.of_eq (by omega)))
  have hc0 : Cg p (u (L + m)) 0:=zbI hp (by rw [Int.emod_eq_of_lt g0 g1]; exact h0) hc
  have:=hall i hi'
  have h3:=this.add (hc0.mul (Cg.refl p (gl w (L + i))))
  exact (Cg.of_eq (by show u (L + i) = u (L + i) - u (L + m) * gl w (L + i) + u (L + m) * gl w (L + i); omega)).trans (h3.trans (Cg.of_eq (by omega)))
def Indep (p : Int) (L : Nat) (vs : List (List Int)) : Prop:=∀ u : Nat → Int,(∀ x,x < L → Cg p (sm vs.length fun i => u i * vx vs i x) 0) → ∀ i,i < vs.length → Cg p (u i) 0
def Dep (p : Int) (L : Nat) (vs : List (List Int)) (c : List Int) : Prop:=∀ x,x < L → Cg p (sm vs.length fun i => gl c i * vx vs i x) 0
theorem zgM {p : Int} {L : Nat} {vs : List (List Int)} {cl : List (Nat × List Int)} (E : Ech p L vs.length vs.length vs cl) : Indep p L vs:=fun u hu i hi => by
 have h:=E.ii (fun y => if y < L then sm vs.length (fun i => u i * vx vs i y) else u (y - L)) (fun x hx => ?_) (fun i h1 h2 => by omega) (fun a ha => ?_) i hi
 ·rw [if_neg (by omega),Nat.add_sub_cancel_left] at h
  exact h
 ·dsimp only
  rw [if_pos hx]
  refine Cg.of_eq (zM fun i _ => ?_)
  rw [if_neg (by omega),Nat.add_sub_cancel_left]
 ·obtain ⟨j,hj⟩:=List.getElem?_of_mem ha
  have:=(E.one j a hj).1
  rw [if_pos this]
  exact hu _ this
theorem zgN {p : Int} {L m : Nat} {vs : List (List Int)} {cl : List (Nat × List Int)} {w : List Int} (W : Wh p L vs.length m vs cl w) (hm : m < vs.length) (hz : ∀ x,x < L → gl w x = 0) :
  IsP p (m + 1) ((w.drop L).take (m + 1)) ∧ gl ((w.drop L).take (m + 1)) m = 1 ∧ Dep p L vs ((w.drop L).take (m + 1)):=by
 have hg : ∀ i,i ≤ m → gl ((w.drop L).take (m + 1)) i = gl w (L + i):=fun i hi => zbb (by
  rw [List.getElem?_take_of_lt (by omega),List.getElem?_drop]
  exact zaG (by rw [W.ln]; omega))
 have hl : ((w.drop L).take (m + 1)).length = m + 1:=by
  rw [List.length_take,List.length_drop,W.ln]
  omega
 refine ⟨⟨hl,fun c hc => W.rg c (List.mem_of_mem_drop (List.mem_of_mem_take hc))⟩,by rw [hg m (Nat.le_refl _)]; exact W.top,fun x hx => ?_⟩
 have h:=W.rel x hx
 rw [hz x hx] at h
 refine Cg.trans (Cg.of_eq (zM fun i hi => ?_)) h.symm
 by_cases e : i ≤ m
 ·rw [hg i e]
 ·rw [W.up i (by omega) hi,zav (by omega)]
end My
end
section
set_option maxHeartbeats 3999000
namespace My
open PySem L2 PyProof.Rows
def PtB (H : Hp) : List Addr → List (Int × Int) → Prop:=Paired fun b q => H b = some (.tup [.int q.1,.int q.2])
theorem PtB.same {H H' : Hp} (s : zx H H') {bs : List Addr} {pts : List (Int × Int)} (h : PtB H bs pts) : PtB H' bs pts:=Paired.mono (fun _ _ z => s _ _ z) h
def zcY (H : Hp) : List Addr → List (List Int) → Prop:=Paired fun r q => H r = some (.tup (q.map V.int))
theorem zcY.same {H H' : Hp} (s : zx H H') {rs : List Addr} {qs : List (List Int)} (h : zcY H rs qs) : zcY H' rs qs:=Paired.mono (fun _ _ z => s _ _ z) h
def zhE (K : PySem.W.Frag) : Sp:=fun vs H Q _ => ∃ (c tt r : Addr) (p k : Int) (pl : List Int) (rw : List (Option Int)),vs = [.ref c,.ref r] ∧ zbj H c tt p k pl ∧ RowAt K H r pl.length rw ∧ pl.length ≤ 1000 ∧
 ∀ (l : Addr) (bs : List Addr) (H' : Hp),H l = none → zx H H' → H' l = some (.lst (bs.map V.ref)) → PtB H' bs (hps pl rw) → Q (.ref l) H'
end My
end
section
set_option maxHeartbeats 3999000
namespace My
open PySem L2 PyProof.Rows
end My
end
section
set_option maxHeartbeats 3999000
namespace L2
open PySem PySem.Spec PyProof.Rows
def ziR (K : PySem.W.Frag) : R2:=fun x y H Q => ∃ a b xs ys,x = .ref a ∧ y = .ref b ∧ SqT K H a xs ∧ SqT K H b ys ∧ ys ≠ [] ∧ xs.length + ys.length ≤ sizeLine ∧
 (xs = [] → Q (.ref b) H) ∧ (xs ≠ [] → ∀ p,H p = none → Q (.ref p) (upd H p (.tup (xs ++ ys))))
theorem zdC {X : Cx} {K : PySem.W.Frag} (hK : X.K = K) : OpR X (binaryOp .Add) (ziR K):=by
 subst hK
 intro pins s σ H x y v u Q I rx ry h
 obtain ⟨a,b,xs,ys,rfl,rfl,ha,hb,hy,hz,q1,q2⟩:=h
 by_cases hx : xs = []
 ·cases rx
  cases ry
  obtain ⟨its,r1,p1,_⟩:=I.tuple ha
  obtain ⟨its2,r2,p2,_⟩:=I.tuple hb
  obtain ⟨⟨cls,dd,data,sl⟩,ho,hc,n,hd⟩:=id p1
  obtain ⟨⟨cls2,dd2,data2,sl2⟩,ho2,hc2,n2,hd2⟩:=id p2
  simp only at hc hd hc2 hd2
  subst hc hd hc2 hd2
  exact concat_meets ⟨_,ho,rfl⟩ ⟨_,ho2,rfl⟩ noFill_tuple_add seq_tuple_add PySem.F.slot_tuple_add PySem.F.entry_tuple_add (PySem.F.args_tuple_add_2 _ _)
   (tuple_addW0 a b its.toArray its2.toArray n n2 dd dd2 sl sl2 (by simp [r1.nil_iff.mpr hx])) ⟨ho,ho2,⟨.ref b,H,I,rfl,q1 hx⟩⟩
 ·exact zhq pins s σ H _ _ v u Q I rx ry ⟨a,b,xs,ys,rfl,rfl,ha,hb,hx,hz,fun z => absurd z hy,fun _ => q2 hx⟩
end L2
end
section
set_option maxHeartbeats 3999000
namespace My
open PySem L2 PyProof.Rows
theorem ziS {X : Cx} {st : Stmt} {ts : TS} (h : PS X st ts) : PS X st (fun D σ H => ∃ Pv : L2.St → Hp → Prop,ts { D with nx:=Pv } σ H ∧ ∀ σ' H',Pv σ' H' → D.nx σ' H'):=by
 intro pins s σ H D I hq
 obtain ⟨Pv,h1,h2⟩:=hq
 refine thn (h pins s σ H _ I h1) fun f s1 q => ?_
 cases f with
 | next =>
  obtain ⟨σ',H',I',p⟩:=q
  exact ⟨σ',H',I',h2 _ _ p⟩
 | ret v => exact q
 | brk => exact q
 | cont => exact q
theorem PtB.pts {K : PySem.W.Frag} {H : Hp} {a : Addr} {bs : List Addr} {pts : List (Int × Int)} (ha : H a = some (.lst (bs.map V.ref))) (h : PtB H bs pts) : zh6 K H a pts:=by
 refine ⟨bs,SqL.of ha,h.length,fun i b q h1 h2 => ?_⟩
 obtain ⟨q',h3,h4⟩:=Paired.get h h1
 rw [h2] at h3
 cases h3
 exact h4
end My
end
section
set_option maxHeartbeats 3999000
namespace L2
open PySem PySem.Spec PyProof.Rows
theorem zcc : fillsNumberSlot (.type "tuple") "mul" = pure false :=
 PySem.fillsNumberSlot_seq (id:="tuple.__mul__") (r:=some (.builtin "tuple.__rmul__")) PySem.F.slot_tuple_mul.lookup (by decide +kernel) PySem.F.slot_tuple_rmul.lookup (by decide +kernel)
theorem zdZ : seqRepeat? (.type "tuple") = pure (some (.builtin "tuple.__mul__")):=by
 unfold seqRepeat?
 rw [PySem.seqSlot_of (T:="tuple") (name:="__mul__") (id:="tuple.__mul__") PySem.F.slot_tuple_mul.lookup (by decide +kernel),PySem.seqSlot_of (T:="tuple") (name:="__rmul__") (id:="tuple.__rmul__") PySem.F.slot_tuple_rmul.lookup (by decide +kernel)]
 rfl
theorem zcZ (a : Int) (t : Tok) (l : Addr) (items : Array Value) (n : Nat) (dd : Option Addr) (sl : Array (Option Value)) :
  Meets (Builtin.«int.__rmul__» ⟨[.int a t,.ref l],[]⟩) (fun _ R s => s.heap.get? l = some { cls:=.type "tuple",dict:=dd,data:=.seq items n,slots:=sl } ∧ R (.ok (.ret Value.notImplemented)) s) :=
 .of_wp fun prog w A R s h => by (obtain ⟨hp,g,d,tk,os⟩:=s; obtain ⟨hl,h⟩:=h; wp_walk using wpAny_loadPart' hl; exact ⟨_,rfl,h⟩)
theorem zgO (l : Addr) (items : Array Value) (n : Nat) (dd : Option Addr) (sl : Array (Option Value)) (u : Tok) :
  Meets (Builtin.«tuple.__mul__» ⟨[.ref l,.int 1 u],[]⟩) (fun _ R s => s.heap.get? l = some { cls:=.type "tuple",dict:=dd,data:=.seq items n,slots:=sl } ∧ R (.ok (.ret (.ref l))) s) :=
 .of_wp fun prog w A R s h => by
  (obtain ⟨hp,g,d,tk,os⟩:=s)
  obtain ⟨hl,h⟩:=h
  have f1:=AutoSeq1.idx_int
  have f2:=AutoSeq1.sub_tuple_tuple
  wp_walk using wpAny_loadPart' hl; exact ⟨_,rfl,h⟩
theorem zgP (l : Addr) (items : Array Value) (n : Nat) (dd : Option Addr) (sl : Array (Option Value)) (k : Int) (u : Tok) (hc0 : (decide (k < -(2 ^ 63)) || decide (k ≥ 2 ^ 63)) = false) (hc1 : (items.isEmpty || k == 1) = false) (hc2 : (decide (k ≤ 0) || items.isEmpty) = true) :
  Meets (Builtin.«tuple.__mul__» ⟨[.ref l,.int k u],[]⟩) (fun _ R s => s.heap.get? l = some { cls:=.type "tuple",dict:=dd,data:=.seq items n,slots:=sl } ∧ R (.ok (.ret (Value.ref s.heap.objs.size))) { s with heap:=s.heap.push { cls:=Value.type "tuple",data:=Data.seq #[] },toks:=s.toks }) :=
 .of_wp fun prog w A R s h => by
  (obtain ⟨hp,g,d,tk,os⟩:=s)
  obtain ⟨hl,h⟩:=h
  have f1:=AutoSeq1.idx_int
  have f2:=AutoSeq1.sub_tuple_tuple
  wp_walk using wpAny_loadPart' hl; refine wpAny_ite_false (by rw [hc0]; rfl) ?_
  wp_walk using wpAny_loadPart' hl; exact ⟨_,rfl,h⟩
theorem zgQ (l : Addr) (items : Array Value) (n : Nat) (dd : Option Addr) (sl : Array (Option Value)) (k : Int) (u : Tok) (hc0 : (decide (k < -(2 ^ 63)) || decide (k ≥ 2 ^ 63)) = false) (hc1 : (items.isEmpty || k == 1) = false) (hc2 : (decide (k ≤ 0) || items.isEmpty) = false)
  (hc3 : ¬(items.size : Int) * k > (2 ^ 63 - 1) / 8) (hc4 : Builtin.Tuple.tupleTooMany (items.size * k) = false) (hsz : (List.foldl (fun x1 x2 => x1 ++ x2) #[] (List.replicate k.toNat items)).size ≤ sizeLine) :
  Meets (Builtin.«tuple.__mul__» ⟨[.ref l,.int k u],[]⟩) (fun _ R s => s.heap.get? l = some { cls:=.type "tuple",dict:=dd,data:=.seq items n,slots:=sl } ∧ R (.ok (.ret (Value.ref s.heap.objs.size))) { s with heap:=s.heap.push { cls:=Value.type "tuple",data:=Data.seq (List.foldl (fun x1 x2 => x1 ++ x2) #[] (List.replicate k.toNat items)) },toks:=s.toks }) :=
 .of_wp fun prog w A R s h => by
  (obtain ⟨hp,g,d,tk,os⟩:=s)
  obtain ⟨hl,h⟩:=h
  have f1:=AutoSeq1.idx_int
  have f2:=AutoSeq1.sub_tuple_tuple
  wp_walk using wpAny_loadPart' hl; refine wpAny_ite_false (by rw [hc0]; rfl) ?_
  wp_walk using wpAny_loadPart' hl; refine wpAny_ite_false (decide_eq_false hc3) ?_
  wp_walk using wpAny_loadPart' hl; exact ⟨_,rfl,h⟩
def zju (K : PySem.W.Frag) : R2:=fun x y H Q => ∃ a k xs,x = .ref a ∧ y = .int k ∧ SqT K H a xs ∧ xs ≠ [] ∧ -(2 ^ 63) ≤ k ∧ k < 2 ^ 63 ∧ xs.length * k.toNat ≤ sizeLine ∧
 (k = 1 → Q (.ref a) H) ∧ (k ≠ 1 → ∀ p,H p = none → Q (.ref p) (upd H p (.tup (List.replicate k.toNat xs).flatten)))
theorem zfw {X : Cx} : OpR X (binaryOp .Mult) (zju X.K):=by
 intro pins s σ H x y v u Q I rx ry h
 obtain ⟨a,k,xs,rfl,rfl,hx,hne,h1,h2,hz,q,q2⟩:=h
 cases rx
 obtain ⟨t,rfl⟩:=ry
 obtain ⟨its,r,p1,_⟩:=I.tuple hx
 obtain ⟨⟨cls,dd,data,sl⟩,ho,hc,n,hd⟩:=id p1
 simp only at hc hd
 subst hc hd
 have hl : xs.length = its.length:=r.length
 have hne' : its ≠ []:=fun e => hne (r.nil_iff.mp e)
 have he : its.toArray.isEmpty = false:=by simpa using hne'
 have hc0 : (decide (k < -(2 ^ 63)) || decide (k ≥ 2 ^ 63)) = false:=by
  rw [decide_eq_false (by omega),decide_eq_false (by omega)]; rfl
 refine wpAny_binaryOp_repeat_ref (T:="tuple") (U:="int") (by decide) ⟨_,ho,rfl⟩ (fun s' => typeIs_int s' k t) zcc F.fills_int_mul F.slot_int_rmul zdZ F.slot_int_index.lookup
  (call_meets F.slot_int_rmul (typeIs_int s k t) F.entry_int_rmul (F.args_int_rmul_2 _ _) (zcZ k t a its.toArray n dd sl) ⟨ho,rfl,⟨_,ho,rfl⟩,?_⟩)
 by_cases e1 : k = 1
 ·subst e1
  refine call_meets F.slot_tuple_mul ⟨_,ho,rfl⟩ F.entry_tuple_mul (F.args_tuple_mul_2 _ _) (zgO a its.toArray n dd sl t) ⟨ho,?_⟩
  exact ⟨.ref a,H,I,rfl,q rfl⟩
 have hc1 : (its.toArray.isEmpty || k == 1) = false:=by rw [he]; simpa using e1
 by_cases e0 : k ≤ 0
 ·refine call_meets F.slot_tuple_mul ⟨_,ho,rfl⟩ F.entry_tuple_mul (F.args_tuple_mul_2 _ _) (zgP a its.toArray n dd sl k t hc0 hc1 (by rw [decide_eq_true e0]; rfl)) ⟨ho,?_⟩
  have hf:=I.hok.fresh (Nat.le_refl _)
  have e : (List.replicate k.toNat xs).flatten = []:=by rw [show k.toNat = 0 by omega]; rfl
  refine ⟨.ref s.heap.objs.size,_,I.laid (t':=s.toks) (o:=.tup []) (fun b ob q => Heap.get?_push_of_some _ q) (Nat.le_refl _) ?_,rfl,by rw [← e]; exact q2 e1 _ hf⟩
  exact ⟨Nat.zero_le _,[],.nil,IsTup.new _ _⟩
 ·have hm : (its.toArray.size : Int) * k = ((xs.length * k.toNat : Nat) : Int):=by
   rw [List.size_toArray,← hl,Int.natCast_mul,Int.toNat_of_nonneg (by omega)]
  have hsl : (sizeLine : Nat) ≤ 16777216:=by decide
  have hnew : List.foldl (fun x1 x2 => x1 ++ x2) #[] (List.replicate k.toNat its.toArray) = (List.replicate k.toNat its).flatten.toArray:=by
   have:=foldl_rep its k.toNat []
   rw [List.nil_append] at this
   exact this
  refine call_meets F.slot_tuple_mul ⟨_,ho,rfl⟩ F.entry_tuple_mul (F.args_tuple_mul_2 _ _) (zgQ a its.toArray n dd sl k t hc0 hc1 (by rw [decide_eq_false e0,he]; rfl) (by rw [hm]; omega) (by rw [hm]; unfold Builtin.Tuple.tupleTooMany; exact decide_eq_false (by omega)) (by rw [hnew,List.size_toArray,len_rep,Nat.mul_comm,← hl]; exact hz)) ⟨ho,?_⟩
  have hf:=I.hok.fresh (Nat.le_refl _)
  rw [hnew]
  refine ⟨.ref s.heap.objs.size,_,I.laid (t':=s.toks) (o:=.tup (List.replicate k.toNat xs).flatten) (fun b ob q => Heap.get?_push_of_some _ q) (Nat.le_refl _) ?_,rfl,q2 e1 _ hf⟩
  exact ⟨by rw [len_rep,Nat.mul_comm]; exact hz,_,r.rep k.toNat,IsTup.new _ _⟩
def zjv (K : PySem.W.Frag) : R2:=fun x y H Q => ∃ a k xs,x = .ref a ∧ y = .int k ∧ SqT K H a xs ∧ xs ≠ [] ∧ -(2 ^ 63) ≤ k ∧ k < 2 ^ 63 ∧ xs.length * k.toNat ≤ sizeLine ∧
 ∀ p H',zx H H' → SqT K H' p (List.replicate k.toNat xs).flatten → Q (.ref p) H'
theorem zhF {X : Cx} : OpR X (binaryOp .Mult) (zjv X.K):=by
 intro pins s σ H x y v u Q I rx ry h
 obtain ⟨a,k,xs,rfl,rfl,hx,hne,h1,h2,hz,q⟩:=h
 exact zfw pins s σ H _ _ v u Q I rx ry ⟨a,k,xs,rfl,rfl,hx,hne,h1,h2,hz,fun e => q a H (fun _ _ e => e) (by rw [e]; simpa using hx),fun _ p hp => q p _ (fun b o z => by rw [zo (fun e => by rw [e,hp] at z; cases z)]; exact z) (SqT.of zb)⟩
theorem zhG {X : Cx} {K : PySem.W.Frag} {tg l : Expr} {tl : TE} (hK : X.K = K) (hl : PE X l tl) : PI X tg l (zi8 K tl):=by subst hK; exact zge hl
end L2
end
section
set_option maxHeartbeats 3999000
namespace HT
open PySem PySem.Spec PyProof.Rows
section
variable {prog : Program} {w : World} {A : Around} {E : Value → Shared → Prop} {s : Shared}
theorem getItem_tuple_whole {t sl : Addr} {items : Array Value} {vl vu : Value} {lo hi : Option Int} {Q : Value → Shared → Prop} (ht : IsTup s.heap t items) (hs : s.heap.IsSliceOf sl vl vu .none) (pl : IsPart vl lo) (pu : IsPart vu hi)
  (hw : sIx items.size 0 lo = 0 ∧ sIx items.size items.size hi = items.size) (h : Q (.ref t) s) : wpAny (model prog w) A (getItem (.ref t) (.ref sl)) Q E s:=by
 obtain ⟨os,hos,hcs,hds⟩:=id hs
 have hTs : s.TypeIs (.ref sl) "slice":=⟨os,hos,hcs⟩
 unfold getItem
 try with_reducible refine wpAny_holding ?_
 first | refine wpAny_bind (wpAny_pure ?_) | skip
 refine wpAny_bind (wpAny_sequenceKey ht.typeIs (by decide) ?_)
 refine wpAny_bind (wpAny_callSpecial?_slot (name:=Str.ofString "__getitem__") ht.typeIs PyProof.Rows.slot_tuple_getitem
  (wpAny_call_entry PyProof.Rows.slot_tuple_getitem ht.typeIs entry_tuple_getitem ?_ (args_tuple_getitem _ _)))
 show wpAny _ _ (Builtin.Tuple.tupleItemsOf (.ref t) >>= _) _ _ s
 refine wpAny_bind (tupleItemsOf_ ht ?_)
 refine wpAny_bind (wpAny_typeOf hTs ?_)
 rw [if_pos (by decide)]
 refine wpAny_bind (za9 hs pl pu ?_)
 have hyes : (((sIx items.size 0 lo : Nat) : Int) == 0 && (1 : Int) == 1 && (sIx items.size items.size hi - sIx items.size 0 lo) == items.size) = true:=by
  rw [hw.1,hw.2]
  simp
 show wpAny _ _ (if (((sIx items.size 0 lo : Nat) : Int) == 0 && (1 : Int) == 1 && (sIx items.size items.size hi - sIx items.size 0 lo) == items.size) = true then _ else _) _ _ s
 rw [if_pos hyes]
 refine wpAny_bind (m:=Builtin.Tuple.tupleIsExact _) (wpAny_bind (wpAny_typeOf ht.typeIs (wpAny_pure ?_)))
 rw [if_pos (by decide)]
 first
  | exact wpAny_bind (wpAny_rule (wpAny_pure ⟨_,rfl,wpAny_pure h⟩))
  | exact wpAny_bind (wpAny_bind (wpAny_rule (wpAny_pure ⟨_,rfl,wpAny_pure h⟩)))
end
end HT
namespace L2
open PySem PySem.Spec PyProof.Rows
def zjw (K : PySem.W.Frag) : V → Option Int → Option Int → Hp → VK → Prop:=fun x lo hi H Q => ∃ a xs,x = .ref a ∧ SqT K H a xs ∧ ∀ p H',zx H H' → SqT K H' p (zaE xs lo hi) → Q (.ref p) H'
theorem zhH {X : Cx} : SlR X (zjw X.K):=by
 intro pins s σ H x v vl vu lo hi sl Q I rx hs pl pu h
 obtain ⟨a,xs,rfl,hx,q⟩:=h
 by_cases hw : HT.sIx xs.length 0 lo = 0 ∧ HT.sIx xs.length xs.length hi = xs.length
 ·have rx':=rx
  cases rx
  obtain ⟨its,r,ht,hz⟩:=I.tuple hx
  have hlen : its.toArray.size = xs.length:=by rw [List.size_toArray]; exact r.length.symm
  refine ⟨"tuple",_,PyProof.Rows.slot_tuple_getitem.lookup,ht.typeIs,?_⟩
  refine HT.getItem_tuple_whole ht hs pl pu (by rw [hlen]; exact hw) ⟨.ref a,H,I,rfl,q a H (fun _ _ e => e) ?_⟩
  have e : zaE xs lo hi = xs:=by
   unfold zaE
   rw [hw.1,hw.2,List.drop_zero,Nat.sub_zero,List.take_length]
  rw [e]
  exact hx
 ·exact zgm pins s σ H (.ref a) v vl vu lo hi sl Q I rx hs pl pu ⟨a,xs,rfl,hx,hw,fun p hp => q p _ (fun b o z => by rw [zo (fun e => by rw [e,hp] at z; cases z)]; exact z) (SqT.of zb)⟩
theorem zgR {X : Cx} {K : PySem.W.Frag} (hK : X.K = K) : SlR X (zjw K):=by subst hK; exact zhH
theorem zgS {X : Cx} {K : PySem.W.Frag} {tg l : Expr} {tl : TE} (hK : X.K = K) (hl : PE X l tl) : PI X tg l (zh0 K tl):=by subst hK; exact zab hl
def zjW : V → Option Int → Option Int → Hp → VK → Prop:=fun x lo hi H Q => ∃ a xs,x = .ref a ∧ H a = some (.tup xs) ∧ ∀ p H',zx H H' → H' p = some (.tup (zaE xs lo hi)) → Q (.ref p) H'
theorem zhI {X : Cx} : SlR X zjW:=by
 intro pins s σ H x v vl vu lo hi sl Q I rx hs pl pu h
 obtain ⟨a,xs,rfl,hx,q⟩:=h
 have hX : SqT X.K H a xs:=SqT.of hx
 by_cases hw : HT.sIx xs.length 0 lo = 0 ∧ HT.sIx xs.length xs.length hi = xs.length
 ·cases rx
  obtain ⟨its,r,ht,hz⟩:=I.tuple hX
  have hlen : its.toArray.size = xs.length:=by rw [List.size_toArray]; exact r.length.symm
  refine ⟨"tuple",_,PyProof.Rows.slot_tuple_getitem.lookup,ht.typeIs,?_⟩
  refine HT.getItem_tuple_whole ht hs pl pu (by rw [hlen]; exact hw) ⟨.ref a,H,I,rfl,q a H (fun _ _ e => e) ?_⟩
  have e : zaE xs lo hi = xs:=by
   unfold zaE
   rw [hw.1,hw.2,List.drop_zero,Nat.sub_zero,List.take_length]
  rw [e]
  exact hx
 ·exact zgm pins s σ H (.ref a) v vl vu lo hi sl Q I rx hs pl pu ⟨a,xs,rfl,hX,hw,fun p hp => q p _ (fun b o z => by rw [zo (fun e => by rw [e,hp] at z; cases z)]; exact z) zb⟩
def zjx : R2:=fun x y H Q => ∃ a b xs ys,x = .ref a ∧ y = .ref b ∧ H a = some (.tup xs) ∧ H b = some (.tup ys) ∧ xs.length + ys.length ≤ sizeLine ∧ ys ≠ [] ∧ ∀ p H',zx H H' → H' p = some (.tup (xs ++ ys)) → Q (.ref p) H'
theorem zfx {X : Cx} : OpR X (binaryOp .Add) zjx:=by
 intro pins s σ H x y v u Q I rx ry h
 obtain ⟨a,b,xs,ys,rfl,rfl,ha,hb,hz,hy,q⟩:=h
 refine zdC rfl pins s σ H _ _ v u Q I rx ry ⟨a,b,xs,ys,rfl,rfl,SqT.of ha,SqT.of hb,hy,hz,fun e => ?_,fun _ p hp => q p _ (fun b o z => by rw [zo (fun e => by rw [e,hp] at z; cases z)]; exact z) zb⟩
 subst e
 exact q b H (fun _ _ e => e) hb
def zjy : R2:=fun x y H Q => ∃ a k xs,x = .ref a ∧ y = .int k ∧ H a = some (.tup xs) ∧ xs ≠ [] ∧ -(2 ^ 63) ≤ k ∧ k < 2 ^ 63 ∧ xs.length * k.toNat ≤ sizeLine ∧ ∀ p H',zx H H' → H' p = some (.tup (List.replicate k.toNat xs).flatten) → Q (.ref p) H'
theorem zhJ {X : Cx} : OpR X (binaryOp .Mult) zjy:=by
 intro pins s σ H x y v u Q I rx ry h
 obtain ⟨a,k,xs,rfl,rfl,hx,hne,h1,h2,hz,q⟩:=h
 refine zfw pins s σ H _ _ v u Q I rx ry ⟨a,k,xs,rfl,rfl,SqT.of hx,hne,h1,h2,hz,fun e => q a H (fun _ _ e => e) (by rw [e]; simpa using hx),fun _ p hp => q p _ (fun b o z => by rw [zo (fun e => by rw [e,hp] at z; cases z)]; exact z) zb⟩
end L2
end
section
set_option maxHeartbeats 3999000
namespace My
open PySem L2 PyProof.Rows
def md (p : Int) (q : Int × Int) : Int × Int:=(q.1,q.2 % p)
theorem zeu (p : Int) (s : List Int × List Int) (q : Int × Int) : zbx p s (md p q) = zbx p s q:=by
 unfold zbx md
 have : (q.2 % p - zn p q.1 s.1) * inv p (zn p q.1 s.2) % p = (q.2 - zn p q.1 s.1) * inv p (zn p q.1 s.2) % p:=(((Cg.emod p q.2).sub (Cg.refl p _)).mul (Cg.refl p _)).mod_eq
 dsimp only
 rw [this]
theorem zfy (p : Int) : ∀ (pts : List (Int × Int)) (s : List Int × List Int),(pts.map (md p)).foldl (zbx p) s = pts.foldl (zbx p) s
 | [],s => rfl
 | q :: pts,s => by
  rw [List.map_cons,List.foldl_cons,List.foldl_cons,zeu,zfy p pts]
theorem ziT (p : Int) (pts : List (Int × Int)) : thr p (pts.map (md p)) = thr p pts:=by
 unfold thr zjq
 rw [zfy,List.length_map]
def zew (K : PySem.W.Frag) : Sp:=fun vs H Q _ => ∃ (p : Int) (a : Addr) (pts : List (Int × Int)),vs = [.int p,.ref a] ∧ zh6 K H a pts ∧ pts.length ≤ 100 ∧ p ∈ zk ∧ Pts p (pts.map (md p)) ∧ (∀ q ∈ pts,0 ≤ q.2 ∧ q.2 < 10000) ∧
 ∀ (l : Addr) (H' : Hp),H l = none → zx H H' → H' l = some (.tup ((thr p (pts.map (md p))).map V.int)) → Q (.ref l) H'
def zeY (K : PySem.W.Frag) : Sp:=fun vs H Q _ => ∃ (p tm : Int) (a b : Addr) (as bs : List Int),vs = [.int p,.ref a,.int tm,.ref b] ∧ H a = some (.lst (as.map V.int)) ∧ H b = some (.lst (bs.map V.int)) ∧ as.length = bs.length ∧ as.length ≤ 1000 ∧ 0 < p ∧ 0 ≤ tm ∧ tm < 1000 ∧
 ∀ (l : Addr) (H' : Hp),H l = none → zx H H' → H' l = some (.lst ((List.zipWith (fun x y => (x - tm * y) % p) as bs).map V.int)) → Q (.ref l) H'
def LsA (H : Hp) : List Addr → List (List Int) → Prop:=Paired fun b v => H b = some (.lst (v.map V.int))
theorem LsA.same {H H' : Hp} (s : zx H H') {bs : List Addr} {vv : List (List Int)} (h : LsA H bs vv) : LsA H' bs vv:=Paired.mono (fun _ _ z => s _ _ z) h
def ClA (ca : Addr) (H : Hp) : List Addr → List (Nat × List Int) → Prop:=Paired fun b a => ∃ wa,H b = some (.tup [.int (a.1 : Int),.ref wa]) ∧ H wa = some (.lst (a.2.map V.int)) ∧ wa ≠ ca
theorem ClA.same {ca : Addr} {H H' : Hp} (s : zx H H') {bs : List Addr} {cl : List (Nat × List Int)} (h : ClA ca H bs cl) : ClA ca H' bs cl:=Paired.mono (fun _ _ ⟨wa,z1,z2,z3⟩ => ⟨wa,s _ _ z1,s _ _ z2,z3⟩) h
theorem ClA.put {ca : Addr} {H : Hp} {bs : List Addr} {cl : List (Nat × List Int)} {xs : List V} {o : HO} (h : ClA ca H bs cl) (hf : H ca = some (.lst xs)) : ClA ca (upd H ca o) bs cl:=Paired.mono (fun b _ ⟨wa,z1,z2,z3⟩ => ⟨wa,by
 rw [zo (fun e => by rw [e,hf] at z1; cases z1)]; exact z1,by rw [zo z3]; exact z2,z3⟩) h
theorem zhK {xs : List V} {a b : Nat} (h : b ≤ xs.length) : zaE xs (some (a : Int)) (some (b : Int)) = (xs.drop a).take (b - a):=by
 unfold zaE
 rw [HT.sIx_nat,HT.sIx_nat]
 by_cases ha : a ≤ xs.length
 ·rw [Nat.min_eq_left ha,Nat.min_eq_left h]
 ·rw [show min a xs.length = xs.length by omega,Nat.min_eq_left h,List.drop_of_length_le (Nat.le_refl _),List.drop_of_length_le (show xs.length ≤ a by omega),List.take_nil,List.take_nil]
def zb5 (K : PySem.W.Frag) : Sp:=fun vs H Q _ => ∃ (p : Int) (a : Addr) (ls : List Addr) (vv : List (List Int)) (L : Nat),vs = [.int p,.ref a] ∧ H a = some (.lst (ls.map V.ref)) ∧ LsA H ls vv ∧ vv ≠ [] ∧ vv.length ≤ 100 ∧ L ≤ 800 ∧ (∀ v ∈ vv,v.length = L ∧ ∀ c ∈ v,0 ≤ c ∧ c < p) ∧ p ∈ zk ∧
 (∀ H',zx H H' → Indep p L vv → Q .non H') ∧ (∀ (l : Addr) (c : List Int) (m : Nat) (H' : Hp),H l = none → zx H H' → H' l = some (.lst (c.map V.int)) → IsP p (m + 1) c → m < vv.length → gl c m = 1 → Dep p L vv c → Q (.ref l) H')
theorem ziU {K : PySem.W.Frag} {H H' : Hp} {a : Addr} {xs : List V} (e : zx H H') (h : SqT K H a xs) : SqT K H' a xs:=by
 rcases h with (h | ⟨o,h⟩) | h
 ·exact .inl (.inl (e _ _ h))
 ·exact .inl (.inr ⟨o,e _ _ h⟩)
 ·exact .inr h
def tmP (p : Int) (l : List Int) (pts : List (Int × Int)) : List (Int × Int):=pts.map fun a => (a.1,zn p a.1 l * a.2 % p)
theorem zbL {p : Int} (p0 : 0 < p) {l : List Int} {pts : List (Int × Int)} (hP : Pts p pts) : Pts p (tmP p l pts):=by
 refine ⟨?_,fun q hq => ?_⟩
 ·unfold tmP
  rw [List.map_map]
  exact hP.nd
 ·obtain ⟨a,ha,rfl⟩:=List.mem_map.mp hq
  obtain ⟨h1,h2,_⟩:=hP.rg a ha
  exact ⟨h1,h2,Int.emod_nonneg _ (by omega),Int.emod_lt_of_pos _ p0⟩
theorem zgT (p : Int) (l : List Int) (pts : List (Int × Int)) : (pts.map fun a => (a.1,zn p a.1 l * a.2)).map (md p) = tmP p l pts:=by
 rw [List.map_map]
 rfl
def zcd (K : PySem.W.Frag) : Sp:=fun vs H Q _ => ∃ (p : Int) (la a : Addr) (l : List Int) (bs : List Addr) (pts : List (Int × Int)),vs = [.int p,.ref la,.ref a] ∧ SqT K H la (l.map V.int) ∧ SqL K H a (bs.map V.ref) ∧ PtB H bs pts ∧ pts.length ≤ 100 ∧ p ∈ zk ∧ Pts p pts ∧
 ∀ (z : Addr) (H' : Hp),H z = none → zx H H' → H' z = some (.tup ((thr p (tmP p l pts)).map V.int)) → Q (.ref z) H'
def bey (m : Nat) (rs : List (List Int)) : List Int:=rs.flatMap fun r => r.drop m
theorem zex (m : Nat) {rs : List (List Int)} {i : Nat} {r : List Int} (h : rs[i]? = some r) : bey m (rs.take (i + 1)) = bey m (rs.take i) ++ r.drop m:=by
 unfold bey
 rw [take_snoc h,List.flatMap_append]
 simp
def zfW (K : PySem.W.Frag) : Sp:=fun vs H Q _ => ∃ (a : Addr) (m : Nat) (bs : List Addr) (rs : List (List Int)),vs = [.ref a,.int (m : Int)] ∧ SqL K H a (bs.map V.ref) ∧ zcY H bs rs ∧ (∀ i,(bey m (rs.take i)).length ≤ 10000) ∧
 ∀ (z : Addr) (H' : Hp),H z = none → zx H H' → H' z = some (.lst ((bey m rs).map V.int)) → Q (.ref z) H'
def szd (q : List Int) (m : Nat) : List Int:=(q ++ List.replicate m 0).take m
def zgU (K : PySem.W.Frag) : Sp:=fun vs H Q _ => ∃ (a : Addr) (m : Nat) (q : List Int),vs = [.ref a,.int (m : Int)] ∧ H a = some (.tup (q.map V.int)) ∧ 1 ≤ m ∧ q.length + m ≤ 10000 ∧
 ∀ (z : Addr) (H' : Hp),zx H H' → H' z = some (.tup ((szd q m).map V.int)) → Q (.ref z) H'
def unit (i : Nat) : List Int:=List.replicate i 0 ++ [1]
theorem zd0 (i j : Nat) : gl (unit i) j = if j = i then 1 else 0:=by
 unfold unit
 by_cases h : j < i
 ·rw [if_neg (by omega)]
  exact zbb (by rw [List.getElem?_append_left (by rw [List.length_replicate]; exact h),List.getElem?_replicate,if_pos h])
 ·by_cases e : j = i
  ·rw [if_pos e]
   exact zbb (by rw [List.getElem?_append_right (by rw [List.length_replicate]; omega),List.length_replicate,e,Nat.sub_self]; rfl)
  ·rw [if_neg e]
   exact zav (by rw [List.length_append,List.length_replicate]; show i + 1 ≤ j; omega)
theorem zfX {p x : Int} (i : Nat) : Cg p (zn p x (unit i)) (x ^ i):=by
 refine (zaY (n:=i + 1) (by unfold unit; rw [List.length_append,List.length_replicate]; exact Nat.le_refl _)).trans ?_
 rw [zdX (j:=i) (by omega) fun j _ hne => by rw [zd0,if_neg hne,Int.zero_mul],zd0,if_pos rfl,Int.one_mul]
 exact Cg.refl _ _
def Tp (p : Int) (pts : List (Int × Int)) (i : Nat) : List Int:=thr p (tmP p (unit i) pts)
theorem zbW {p : Int} (hp : p ∈ zk) {pts : List (Int × Int)} (hP : Pts p pts) (l : List Int) : (thr p (tmP p l pts)).length = pts.length:=by
 have rp:=zp hp
 rw [(zdQ hp (zbL (l:=l) (by omega) hP)).1]
 unfold tmP
 rw [List.length_map]
theorem zgV {p : Int} (hp : p ∈ zk) {pts : List (Int × Int)} (hP : Pts p pts) (l : List Int) : ∀ c ∈ thr p (tmP p l pts),0 ≤ c ∧ c < p:=by
 have rp:=zp hp
 exact (zdQ hp (zbL (l:=l) (by omega) hP)).2.1
theorem zh9 {p : Int} (hp : p ∈ zk) {pts : List (Int × Int)} (hP : Pts p pts) (l : List Int) {a : Int × Int} (ha : a ∈ pts) : zn p a.1 (thr p (tmP p l pts)) = zn p a.1 l * a.2 % p:=by
 have rp:=zp hp
 exact (zdQ hp (zbL (l:=l) (by omega) hP)).2.2 _ (List.mem_map.mpr ⟨a,ha,rfl⟩)
theorem zfz {p : Int} (hp : p ∈ zk) {pts : List (Int × Int)} (hP : Pts p pts) {l : List Int} {N : Nat} (hl : l.length ≤ N) (x : Nat) : Cg p (gl (thr p (tmP p l pts)) x) (sm N fun i => gl l i * gl (Tp p pts i) x):=by
 have rp:=zp hp
 have p0 : 0 < p:=by omega
 obtain ⟨C,hC⟩ : ∃ C,C = (List.range pts.length).map fun x => (sm N fun i => gl l i * gl (Tp p pts i) x) % p:=⟨_,rfl⟩
 have hCl : C.length = pts.length:=by rw [hC,List.length_map,List.length_range]
 have hCg : ∀ x,x < pts.length → gl C x = (sm N fun i => gl l i * gl (Tp p pts i) x) % p:=fun x hx => zbb (by rw [hC,List.getElem?_map,List.getElem?_range hx]; rfl)
 have hCr : ∀ c ∈ C,0 ≤ c ∧ c < p:=fun c hc => by
  rw [hC] at hc
  obtain ⟨x,_,rfl⟩:=List.mem_map.mp hc
  exact ⟨Int.emod_nonneg _ (by omega),Int.emod_lt_of_pos _ p0⟩
 have hev : ∀ a ∈ pts,zn p a.1 C = zn p a.1 l * a.2 % p:=fun a ha => by
  refine Cg.eq ?_ (zad p0 _) (zae p0 _) (Int.emod_nonneg _ (by omega)) (Int.emod_lt_of_pos _ p0)
  refine (zaY (n:=pts.length) (by omega)).trans ?_
  have h1 : Cg p (sm pts.length fun x => gl C x * a.1 ^ x) (sm pts.length fun x => sm N fun i => gl l i * (gl (Tp p pts i) x * a.1 ^ x)):=za2 fun x hx => by
   rw [hCg x hx]
   refine ((Cg.emod _ _).mul (Cg.refl p _)).trans (Cg.of_eq ?_)
   rw [Int.mul_comm,← zaX]
   exact zM fun i _ => by grind
  refine h1.trans ?_
  rw [zdY]
  have h2 : Cg p (sm N fun i => sm pts.length fun x => gl l i * (gl (Tp p pts i) x * a.1 ^ x)) (sm N fun i => a.2 * (gl l i * a.1 ^ i)):=za2 fun i _ => by
   rw [zaX]
   have e1 : Cg p (sm pts.length fun x => gl (Tp p pts i) x * a.1 ^ x) (zn p a.1 (Tp p pts i)):=(zaY (by unfold Tp; rw [zbW hp hP]; exact Nat.le_refl _)).symm
   have e2 : Cg p (zn p a.1 (Tp p pts i)) (a.1 ^ i * a.2):=by
    unfold Tp
    rw [zh9 hp hP (unit i) ha]
    exact (Cg.emod _ _).trans ((zfX i).mul (Cg.refl p _))
   exact ((Cg.refl p (gl l i)).mul (e1.trans e2)).trans (Cg.of_eq (by grind))
  refine h2.trans ?_
  rw [zaX]
  refine ((Cg.refl p a.2).mul (zaY hl).symm).trans ((Cg.of_eq (Int.mul_comm _ _)).trans (Cg.emod _ _).symm)
 have hthr : C = thr p (tmP p l pts):=zgK hp (zbL p0 hP) (by unfold tmP; rw [List.length_map]; exact hCl) hCr fun a ha => by
  obtain ⟨b,hb,rfl⟩:=List.mem_map.mp ha
  exact hev b hb
 rw [← hthr]
 by_cases hx : x < pts.length
 ·rw [hCg x hx]
  exact Cg.emod _ _
 ·rw [zav (by omega)]
  refine Cg.of_eq (zai fun i _ => ?_).symm
  rw [zav (w:=Tp p pts i) (by unfold Tp; rw [zbW hp hP]; omega),Int.mul_zero]
theorem zc0 {a b : List Int} (x : Nat) : gl (a ++ b) x = if x < a.length then gl a x else gl b (x - a.length):=by
 unfold gl
 rw [List.getD_eq_getElem?_getD,List.getD_eq_getElem?_getD,List.getD_eq_getElem?_getD]
 by_cases h : x < a.length
 ·rw [if_pos h,List.getElem?_append_left h]
 ·rw [if_neg h,List.getElem?_append_right (by omega)]
theorem zfA {a : List Int} (m x : Nat) : gl (a.drop m) x = gl a (m + x):=by
 unfold gl
 rw [List.getD_eq_getElem?_getD,List.getD_eq_getElem?_getD,List.getElem?_drop]
theorem zfB {p : Int} (hp : p ∈ zk) {c : Nat → Int} {N m : Nat} : ∀ {ptss : List (List (Int × Int))},(∀ pts ∈ ptss,Pts p pts) →
  ((∀ x,Cg p (sm N fun i => c i * gl (bey m (ptss.map fun pts => Tp p pts i)) x) 0) ↔ ∀ pts ∈ ptss,∀ y,m ≤ y → Cg p (sm N fun i => c i * gl (Tp p pts i) y) 0)
 | [],_ => by
  refine ⟨fun _ pts h => by (cases h),fun _ x => Cg.of_eq (zai fun i _ => ?_)⟩
  show c i * gl [] x = 0
  rw [zav (Nat.zero_le _),Int.mul_zero]
 | pts :: ptss,hP => by
  have ih:=zfB hp (c:=c) (N:=N) (m:=m) (ptss:=ptss) fun q hq => hP q (List.mem_cons_of_mem _ hq)
  have hl : ∀ i,((Tp p pts i).drop m).length = pts.length - m:=fun i => by
   rw [List.length_drop]
   unfold Tp
   rw [zbW hp (hP pts List.mem_cons_self)]
  have hb : ∀ i x,gl (bey m ((pts :: ptss).map fun pts => Tp p pts i)) x = if x < pts.length - m then gl (Tp p pts i) (m + x) else gl (bey m (ptss.map fun pts => Tp p pts i)) (x - (pts.length - m)):=fun i x => by
   have : bey m ((pts :: ptss).map fun pts => Tp p pts i) = (Tp p pts i).drop m ++ bey m (ptss.map fun pts => Tp p pts i):=rfl
   rw [this,zc0,hl,zfA]
  constructor
  ·intro h q hq y hy
   rcases (List.mem_cons.mp hq) with rfl | hq
   ·by_cases hyl : y < q.length
    ·have:=h (y - m)
     refine Cg.trans (Cg.of_eq (zM fun i _ => ?_)) this
     rw [hb,if_pos (by omega),show m + (y - m) = y by omega]
    ·refine Cg.of_eq (zai fun i _ => ?_)
     rw [zav (by unfold Tp; rw [zbW hp (hP q List.mem_cons_self)]; omega),Int.mul_zero]
   ·refine ih.mp (fun x => ?_) q hq y hy
    have:=h (pts.length - m + x)
    refine Cg.trans (Cg.of_eq (zM fun i _ => ?_)) this
    rw [hb,if_neg (by omega),show pts.length - m + x - (pts.length - m) = x by omega]
  ·intro h x
   by_cases hx : x < pts.length - m
   ·have:=h pts List.mem_cons_self (m + x) (by omega)
    refine Cg.trans (Cg.of_eq (zM fun i _ => ?_)) this
    rw [hb,if_pos hx]
   ·have:=ih.mpr (fun q hq => h q (List.mem_cons_of_mem _ hq)) (x - (pts.length - m))
    refine Cg.trans (Cg.of_eq (zM fun i _ => ?_)) this
    rw [hb,if_neg hx]
def Good (p : Int) (k e : Nat) (ptss : List (List (Int × Int))) (l : List Int) : Prop:=∀ pts ∈ ptss,∃ right,IsP p (k + e) right ∧ ∀ a ∈ pts,zn p a.1 right = zn p a.1 l * a.2 % p
theorem zgW (q : List Int) (m x : Nat) : gl (szd q m) x = if x < m then gl q x else 0:=by
 unfold szd
 by_cases h : x < m
 ·rw [if_pos h]
  unfold gl
  rw [List.getD_eq_getElem?_getD,List.getElem?_take_of_lt h,← List.getD_eq_getElem?_getD]
  show gl (q ++ List.replicate m 0) x = _
  rw [zc0]
  split
  ·rfl
  ·show gl (List.replicate m 0) _ = q.getD x 0
   rw [show q.getD x 0 = gl q x from rfl,zav (w:=q) (by omega)]
   unfold gl
   rw [List.getD_eq_getElem?_getD,List.getElem?_replicate]
   split <;> rfl
 ·rw [if_neg h]
  exact zav (by rw [List.length_take]; omega)
theorem zfC {p : Int} (p0 : 0 < p) {q : List Int} (hq : ∀ c ∈ q,0 ≤ c ∧ c < p) (m : Nat) : IsP p m (szd q m):=by
 unfold szd
 refine ⟨by rw [List.length_take,List.length_append,List.length_replicate]; omega,fun c hc => ?_⟩
 rcases List.mem_append.mp (List.mem_of_mem_take hc) with h | h
 ·exact hq c h
 ·rw [List.eq_of_mem_replicate h]; omega
theorem zey {p : Int} (p0 : 0 < p) {q : List Int} {m : Nat} (hz : ∀ y,m ≤ y → gl q y = 0) (x : Int) : zn p x (szd q m) = zn p x q:=by
 refine Cg.eq ?_ (zad p0 _) (zae p0 _) (zad p0 _) (zae p0 _)
 refine (zaY (n:=q.length + m) (by unfold szd; rw [List.length_take,List.length_append,List.length_replicate]; omega)).trans (Cg.trans (Cg.of_eq (zM fun i _ => ?_)) (zaY (n:=q.length + m) (by omega)).symm)
 rw [zgW]
 by_cases h : i < m
 ·rw [if_pos h]
 ·rw [if_neg h,hz i (by omega)]
theorem zgX {p : Int} (hp : p ∈ zk) {k e : Nat} {pts : List (Int × Int)} (hP : Pts p pts) {l : List Int} (hz : ∀ y,k + e ≤ y → gl (thr p (tmP p l pts)) y = 0) :
  IsP p (k + e) (szd (thr p (tmP p l pts)) (k + e)) ∧ ∀ a ∈ pts,zn p a.1 (szd (thr p (tmP p l pts)) (k + e)) = zn p a.1 l * a.2 % p:=by
 have rp:=zp hp
 refine ⟨zfC (by omega) (zgV hp hP l) _,fun a ha => ?_⟩
 rw [zey (by omega) hz]
 exact zh9 hp hP l ha
theorem zfY {p : Int} (hp : p ∈ zk) {k e : Nat} {pts : List (Int × Int)} (hP : Pts p pts) {l right : List Int} (hr : IsP p (k + e) right) (hev : ∀ a ∈ pts,zn p a.1 right = zn p a.1 l * a.2 % p) (y : Nat) (hy : k + e ≤ y) : gl (thr p (tmP p l pts)) y = 0:=by
 have rp:=zp hp
 by_cases hyl : y < pts.length
 ·have e1 : right ++ List.replicate (pts.length - (k + e)) 0 = thr p (tmP p l pts):=zgK hp (zbL (by omega) hP) (by unfold tmP; rw [List.length_map,List.length_append,List.length_replicate,hr.1]; omega) (fun c hc => by
   rcases List.mem_append.mp hc with h | h
   ·exact hr.2 c h
   ·rw [List.eq_of_mem_replicate h]; omega) fun a ha => by
    obtain ⟨b,hb,rfl⟩:=List.mem_map.mp ha
    rw [zed]
    exact hev b hb
  rw [← e1,zc0,hr.1,if_neg (by omega)]
  unfold gl
  rw [List.getD_eq_getElem?_getD,List.getElem?_replicate]
  split <;> rfl
 ·exact zav (by rw [zbW hp hP]; omega)
def zaA (p : Int) (k e : Nat) (ptss : List (List (Int × Int))) : List (List Int):=(List.range (e + 1)).map fun i => bey (k + e) (ptss.map fun pts => Tp p pts i)
theorem zhL {p : Int} {k e : Nat} {ptss : List (List (Int × Int))} {i : Nat} (hi : i < e + 1) (x : Nat) : vx (zaA p k e ptss) i x = gl (bey (k + e) (ptss.map fun pts => Tp p pts i)) x:=by
 unfold vx zaA
 rw [List.getD_eq_getElem?_getD,List.getElem?_map,List.getElem?_range hi]
 rfl
theorem zcz {p : Int} (hp : p ∈ zk) {m i : Nat} : ∀ {ptss : List (List (Int × Int))},(∀ pts ∈ ptss,Pts p pts) → (bey m (ptss.map fun pts => Tp p pts i)).length = (ptss.map fun pts => pts.length - m).sum
 | [],_ => rfl
 | pts :: ptss,hP => by
  have : bey m ((pts :: ptss).map fun pts => Tp p pts i) = (Tp p pts i).drop m ++ bey m (ptss.map fun pts => Tp p pts i):=rfl
  rw [this,List.length_append,zcz hp fun q hq => hP q (List.mem_cons_of_mem _ hq),List.length_drop,List.map_cons,List.sum_cons]
  unfold Tp
  rw [zbW hp (hP pts List.mem_cons_self)]
def zbz (k e : Nat) (ptss : List (List (Int × Int))) : Nat:=(ptss.map fun pts => pts.length - (k + e)).sum
theorem zhM {p : Int} (hp : p ∈ zk) {k e : Nat} {ptss : List (List (Int × Int))} (hP : ∀ pts ∈ ptss,Pts p pts) : ∀ v ∈ zaA p k e ptss,v.length = zbz k e ptss ∧ ∀ c ∈ v,0 ≤ c ∧ c < p:=fun v hv => by
 obtain ⟨i,_,rfl⟩:=List.mem_map.mp hv
 refine ⟨zcz hp hP,fun c hc => ?_⟩
 obtain ⟨r,hr,hcr⟩:=List.mem_flatMap.mp hc
 obtain ⟨pts,hpts,rfl⟩:=List.mem_map.mp hr
 exact zgV hp (hP pts hpts) _ c (List.mem_of_mem_drop hcr)
theorem zia {p : Int} (hp : p ∈ zk) {k e : Nat} {ptss : List (List (Int × Int))} (hP : ∀ pts ∈ ptss,Pts p pts) {c : Nat → Int} :
  (∀ x,x < zbz k e ptss → Cg p (sm (zaA p k e ptss).length fun i => c i * vx (zaA p k e ptss) i x) 0) ↔ ∀ pts ∈ ptss,∀ y,k + e ≤ y → Cg p (sm (e + 1) fun i => c i * gl (Tp p pts i) y) 0:=by
 have hn : (zaA p k e ptss).length = e + 1:=by unfold zaA; rw [List.length_map,List.length_range]
 rw [hn,← zfB hp hP]
 have hs : ∀ x,sm (e + 1) (fun i => c i * vx (zaA p k e ptss) i x) = sm (e + 1) fun i => c i * gl (bey (k + e) (ptss.map fun pts => Tp p pts i)) x:=fun x => zM fun i hi => by rw [zhL hi]
 constructor
 ·intro h x
  by_cases hx : x < zbz k e ptss
  ·rw [← hs]; exact h x hx
  ·refine Cg.of_eq (zai fun i _ => ?_)
   rw [zav (by rw [zcz hp hP]; exact Nat.le_of_not_lt hx),Int.mul_zero]
 ·intro h x _
  rw [hs]
  exact h x
theorem zgY {p : Int} (hp : p ∈ zk) {k e : Nat} {ptss : List (List (Int × Int))} (hP : ∀ pts ∈ ptss,Pts p pts) (hI : Indep p (zbz k e ptss) (zaA p k e ptss)) {l : List Int} (hl : IsP p (e + 1) l) (hg : Good p k e ptss l) : ∀ i,gl l i = 0:=by
 have rp:=zp hp
 have hn : (zaA p k e ptss).length = e + 1:=by unfold zaA; rw [List.length_map,List.length_range]
 intro i
 by_cases hi : i < e + 1
 ·have h:=hI (gl l) ((zia hp hP).mpr fun pts hpts y hy => ?_) i (by omega)
  ·obtain ⟨g0,g1⟩:=zbk (show 0 < p by omega) hl.2 i
   exact h.eq g0 g1 (Int.le_refl _) (by omega)
  ·obtain ⟨right,h1,h2⟩:=hg pts hpts
   refine (zfz hp (hP pts hpts) (by rw [hl.1]; exact Nat.le_refl _) y).symm.trans (Cg.of_eq ?_)
   exact zfY hp (hP pts hpts) h1 h2 y hy
 ·exact zav (by rw [hl.1]; omega)
theorem zgZ {p : Int} (hp : p ∈ zk) {k e : Nat} {ptss : List (List (Int × Int))} (hP : ∀ pts ∈ ptss,Pts p pts) {c : List Int} (hc : c.length ≤ e + 1) (hD : Dep p (zbz k e ptss) (zaA p k e ptss) c) : ∀ pts ∈ ptss,∀ y,k + e ≤ y → gl (thr p (tmP p c pts)) y = 0:=fun pts hpts y hy => by
 have rp:=zp hp
 have h:=(zia hp hP).mp hD pts hpts y hy
 obtain ⟨g0,g1⟩:=zbk (show 0 < p by omega) (zgV hp (hP pts hpts) c) y
 exact ((zfz hp (hP pts hpts) hc y).trans h).eq g0 g1 (Int.le_refl _) (by omega)
theorem zg0 {p : Int} (hp : p ∈ zk) {k e n : Nat} {ptss : List (List (Int × Int))} (hn : ∀ pts ∈ ptss,pts.length ≤ n) (hI : Indep p (zbz k e ptss) (zaA p k e ptss)) : k + e < n:=by
 have rp:=zp hp
 refine Nat.lt_of_not_le fun h => ?_
 have h0 : zbz k e ptss = 0:=by
  unfold zbz
  refine List.sum_eq_zero_iff_forall_eq_nat.mpr fun x hx => ?_
  obtain ⟨pts,hpts,rfl⟩:=List.mem_map.mp hx
  have:=hn pts hpts
  omega
 have hl : (zaA p k e ptss).length = e + 1:=by unfold zaA; rw [List.length_map,List.length_range]
 have:=hI (fun _ => 1) (fun x hx => by omega) 0 (by omega)
 have:=this.eq (by omega) (by omega) (Int.le_refl _) (by omega)
 omega
structure LocOk (p : Int) (k : Nat) (ptss : List (List (Int × Int))) (e : Nat) (left : List Int) (rights : List (List Int)) : Prop where
 lf : IsP p (e + 1) left
 nz : ∃ i,gl left i ≠ 0
 rt : rights = ptss.map fun pts => szd (thr p (tmP p left pts)) (k + e)
 ok : ∀ pts ∈ ptss,IsP p (k + e) (szd (thr p (tmP p left pts)) (k + e)) ∧ ∀ a ∈ pts,zn p a.1 (szd (thr p (tmP p left pts)) (k + e)) = zn p a.1 left * a.2 % p
 mn : ∀ e',e' < e → ∀ l,IsP p (e' + 1) l → Good p k e' ptss l → ∀ i,gl l i = 0
theorem zhN {p : Int} (p0 : 0 < p) {c : List Int} {m : Nat} (hc : c.length ≤ m) (pts : List (Int × Int)) : tmP p (szd c m) pts = tmP p c pts:=by
 unfold tmP
 refine List.map_congr_left fun a _ => ?_
 rw [zey p0 fun y hy => zav (by omega)]
theorem ziV {p : Int} (hp : p ∈ zk) {k e : Nat} {ptss : List (List (Int × Int))} (hP : ∀ pts ∈ ptss,Pts p pts) {c : List Int} {m : Nat} (hc : IsP p (m + 1) c) (hm : m < e + 1) (h1 : gl c m = 1) (hD : Dep p (zbz k e ptss) (zaA p k e ptss) c)
  (hmin : ∀ e',e' < e → Indep p (zbz k e' ptss) (zaA p k e' ptss)) : LocOk p k ptss e (szd c (e + 1)) (ptss.map fun pts => szd (thr p (tmP p (szd c (e + 1)) pts)) (k + e)):=by
 have rp:=zp hp
 have hcl : c.length ≤ e + 1:=by rw [hc.1]; omega
 refine ⟨zfC (by omega) hc.2 _,⟨m,by rw [zgW,if_pos hm,h1]; decide⟩,rfl,fun pts hpts => ?_,fun e' he' l hl hg => zgY hp hP (hmin e' he') hl hg⟩
 refine zgX hp (hP pts hpts) fun y hy => ?_
 rw [zhN (by omega) hcl]
 exact zgZ hp hP hcl hD pts hpts y hy
theorem zcY.put {H : Hp} {rs : List Addr} {qs : List (List Int)} {f : Addr} {xs : List V} {o : HO} (h : zcY H rs qs) (hf : H f = some (.lst xs)) : zcY (upd H f o) rs qs:=Paired.mono (fun a q z => by
 have : a ≠ f:=fun e => by rw [e,hf] at z; cases z
 show upd H f o a = _
 rw [zo this]
 exact z) h
def zjX (n : Nat) (H : Hp) : List Addr → List (List (Option Int)) → Prop:=Paired fun b rw => H b = some (.lst (rw.map enc)) ∧ rw.length = n
def zd1 (H : Hp) : List Addr → List (List (Int × Int)) → Prop:=Paired fun b pts => ∃ bs,H b = some (.lst (bs.map V.ref)) ∧ PtB H bs pts
theorem zd1.same {H H' : Hp} (s : zx H H') {bs : List Addr} {ptss : List (List (Int × Int))} (h : zd1 H bs ptss) : zd1 H' bs ptss:=Paired.mono (fun _ _ ⟨bs,z,z'⟩ => ⟨bs,s _ _ z,z'.same s⟩) h
def NdA (p : Int) (ptss : List (List (Int × Int))) (na : Addr) (H : Hp) : List Addr → List Nat → Prop:=Paired fun b i => ∃ us,H b = some (.lst (us.map V.ref)) ∧ b ≠ na ∧ zcY H us (ptss.map fun pts => Tp p pts i)
theorem NdA.same {p : Int} {ptss : List (List (Int × Int))} {na : Addr} {H H' : Hp} (s : zx H H') {bs : List Addr} {is : List Nat} (h : NdA p ptss na H bs is) : NdA p ptss na H' bs is:=Paired.mono (fun _ _ ⟨us,z,z',z2⟩ => ⟨us,s _ _ z,z',z2.same s⟩) h
theorem NdA.put {p : Int} {ptss : List (List (Int × Int))} {na : Addr} {H : Hp} {bs : List Addr} {is : List Nat} {xs : List V} {o : HO} (h : NdA p ptss na H bs is) (hf : H na = some (.lst xs)) : NdA p ptss na (upd H na o) bs is:=Paired.mono (fun _ _ ⟨us,z,z',z2⟩ => ⟨us,by rw [zo z']; exact z,z',z2.put hf⟩) h
theorem zeZ {α : Type} {f : α → Nat} {b : Nat} : ∀ {l : List α},(∀ x ∈ l,f x ≤ b) → (l.map f).sum ≤ l.length * b
 | [],_ => by simp
 | x :: l,h => by
  have ih:=zeZ (f:=f) (b:=b) (l:=l) fun y hy => h y (List.mem_cons_of_mem _ hy)
  have:=h x List.mem_cons_self
  rw [List.map_cons,List.sum_cons,List.length_cons,Nat.succ_mul]
  omega
def zce (K : PySem.W.Frag) : Sp:=fun vs H Q _ => ∃ (c tt ra : Addr) (p : Int) (k : Nat) (pl : List Int) (rbs : List Addr) (rws : List (List (Option Int))),vs = [.ref c,.ref ra] ∧ zbj H c tt p k pl ∧ SqL K H ra (rbs.map V.ref) ∧ zjX pl.length H rbs rws ∧ rws.length ≤ 10 ∧ pl.length ≤ 16 ∧ p ∈ zk ∧ pl.Nodup ∧ (∀ x ∈ pl,0 ≤ x ∧ x < p) ∧ (∀ rw ∈ rws,∀ z,some z ∈ rw → 0 ≤ z ∧ z < p) ∧ 1 ≤ k ∧ k ≤ 100 ∧
 ∀ (z la l3 : Addr) (us : List Addr) (e : Nat) (left : List Int) (rights : List (List Int)) (H' : Hp),zx H H' → H' z = some (.tup [.int (e : Int),.ref la,.ref l3]) → H' la = some (.tup (left.map V.int)) → H' l3 = some (.lst (us.map V.ref)) → zcY H' us rights → e ≤ 16 → LocOk p k (rws.map (hps pl)) e left rights → Q (.ref z) H'
def zdh (K : PySem.W.Frag) : Sp:=fun vs H Q _ => ∃ (c tt r : Addr) (p : Int) (k : Nat) (pl : List Int) (rw : List (Option Int)),vs = [.ref c,.ref r] ∧ zbj H c tt p k pl ∧ H r = some (.lst (rw.map enc)) ∧ rw.length = pl.length ∧ pl.length ≤ 16 ∧ p ∈ zk ∧ pl.Nodup ∧ (∀ x ∈ pl,0 ≤ x ∧ x < p) ∧ (∀ z,some z ∈ rw → 0 ≤ z ∧ z < p) ∧ 1 ≤ k ∧ k ≤ 100 ∧
 ∀ (z la rb : Addr) (e : Nat) (left right : List Int) (H' : Hp),zx H H' → H' z = some (.tup [.int (e : Int),.ref la,.ref rb]) → H' la = some (.tup (left.map V.int)) → H' rb = some (.tup (right.map V.int)) → e ≤ 16 → LocOk p k [hps pl rw] e left [right] → Q (.ref z) H'
end My
end
section
set_option maxHeartbeats 3996000
namespace L2
open PySem PySem.Spec PyProof.Rows
end L2
end
section
set_option maxHeartbeats 3999000
namespace My
open PySem L2 PyProof.Rows
def top (i : Nat) : Stmt:=PySem.Challenge.pw_slipcurve_k07_locators.main.body.getD i (.Pass ⟨0,0,0,0⟩)
abbrev zbl : Stmt:=top 1
abbrev zbM : Stmt:=top 2
abbrev zaB : Stmt:=top 3
abbrev zc1 : Stmt:=top 4
abbrev zbN : Stmt:=top 5
abbrev zal : Stmt:=top 7
abbrev zbc : Stmt:=top 9
abbrev zT : Stmt:=top 10
abbrev zag : Stmt:=top 12
abbrev zbA : Stmt:=top 13
abbrev zcA : Stmt:=top 14
abbrev zL : Stmt:=top 15
abbrev zaU : Stmt:=top 17
abbrev zb6 : Stmt:=top 19
abbrev zbO : Stmt:=top 20
abbrev zbP : Stmt:=top 21
abbrev zbB : Stmt:=top 22
abbrev zbQ : Stmt:=top 23
abbrev zam : Stmt:=top 24
abbrev zb7 : Stmt:=top 25
abbrev zaQ : Stmt:=top 26
abbrev zbm : Stmt:=top 27
abbrev za3 : Stmt:=top 28
abbrev zbC : Stmt:=top 29
structure Adr where
 value_at : Addr
 inverse : Addr
 times_root : Addr
 bent : Addr
 through : Addr
 heard_points : Addr
 without : Addr
 first_relation : Addr
 times_entries : Addr
 beyond : Addr
 sized : Addr
 joint_locator : Addr
 locator_of : Addr
 l_cell : Addr
 l_draws : Addr
 l_whole : Addr
 l_code : Addr
 l_value : Addr
 l_polynomial : Addr
 l_row : Addr
 l_rank : Addr
 l_powers : Addr
 l_can : Addr
 law : Addr
structure Txt (K : PySem.W.Frag) (mg : Str → Option Value) (t : Adr) : Prop where
 len_ : mg "len" = none
 range_ : mg "range" = none
 list_ : mg "list" = none
 tuple_ : mg "tuple" = none
 min_ : mg "min" = none
 max_ : mg "max" = none
 int_ : mg "int" = none
 bool_ : mg "bool" = none
 isinstance_ : mg "isinstance" = none
 zip_ : mg "zip" = none
 enumerate_ : mg "enumerate" = none
 reversed_ : mg "reversed" = none
 m_value_at : mg "value_at" = some (.ref t.value_at)
 m_inverse : mg "inverse" = some (.ref t.inverse)
 m_times_root : mg "times_root" = some (.ref t.times_root)
 m_bent : mg "bent" = some (.ref t.bent)
 m_through : mg "through" = some (.ref t.through)
 m_heard_points : mg "heard_points" = some (.ref t.heard_points)
 m_without : mg "without" = some (.ref t.without)
 m_first_relation : mg "first_relation" = some (.ref t.first_relation)
 m_times_entries : mg "times_entries" = some (.ref t.times_entries)
 m_beyond : mg "beyond" = some (.ref t.beyond)
 m_sized : mg "sized" = some (.ref t.sized)
 m_joint_locator : mg "joint_locator" = some (.ref t.joint_locator)
 m_locator_of : mg "locator_of" = some (.ref t.locator_of)
 m_l_cell : mg "_law_cell" = some (.ref t.l_cell)
 m_l_draws : mg "_law_draws" = some (.ref t.l_draws)
 m_l_whole : mg "_law_whole" = some (.ref t.l_whole)
 m_l_code : mg "_law_code" = some (.ref t.l_code)
 m_l_value : mg "_law_value" = some (.ref t.l_value)
 m_l_polynomial : mg "_law_polynomial" = some (.ref t.l_polynomial)
 m_l_row : mg "_law_row" = some (.ref t.l_row)
 m_l_rank : mg "_law_rank" = some (.ref t.l_rank)
 m_l_powers : mg "_law_powers" = some (.ref t.l_powers)
 m_l_can : mg "_law_can" = some (.ref t.l_can)
 f_value_at : ∃ fd,Fun K "value_at" "value_at" zbl t.value_at fd ∧ Binds K fd ["p","polynomial","x"] []
 f_inverse : ∃ fd,Fun K "inverse" "inverse" zbM t.inverse fd ∧ Binds K fd ["p","number"] []
 f_times_root : ∃ fd,Fun K "times_root" "times_root" zaB t.times_root fd ∧ Binds K fd ["p","polynomial","root"] []
 f_bent : ∃ fd,Fun K "bent" "bent" zc1 t.bent fd ∧ Binds K fd ["p","polynomial","vanishing","point"] []
 f_through : ∃ fd,Fun K "through" "through" zbN t.through fd ∧ Binds K fd ["p","points"] []
 f_heard_points : ∃ fd,Fun K "heard_points" "heard_points" zal t.heard_points fd ∧ Binds K fd ["code","row"] []
 f_without : ∃ fd,Fun K "without" "without" zbc t.without fd ∧ Binds K fd ["p","vector","times","other"] []
 f_first_relation : ∃ fd,Fun K "first_relation" "first_relation" zT t.first_relation fd ∧ Binds K fd ["p","vectors"] []
 f_times_entries : ∃ fd,Fun K "times_entries" "times_entries" zag t.times_entries fd ∧ Binds K fd ["p","left","points"] []
 f_beyond : ∃ fd,Fun K "beyond" "beyond" zbA t.beyond fd ∧ Binds K fd ["rights","many"] []
 f_sized : ∃ fd,Fun K "sized" "sized" zcA t.sized fd ∧ Binds K fd ["polynomial","many"] []
 f_joint_locator : ∃ fd,Fun K "joint_locator" "joint_locator" zL t.joint_locator fd ∧ Binds K fd ["code","rows"] []
 f_locator_of : ∃ fd,Fun K "locator_of" "locator_of" zaU t.locator_of fd ∧ Binds K fd ["code","row"] []
 f_l_cell : ∃ fd,Fun K "_law_cell" "_law_cell" zb6 t.l_cell fd ∧ Binds K fd ["script","k"] []
 f_l_draws : ∃ fd,Fun K "_law_draws" "_law_draws" zbO t.l_draws fd ∧ Binds K fd ["script","k","many","base"] []
 f_l_whole : ∃ fd,Fun K "_law_whole" "_law_whole" zbP t.l_whole fd ∧ Binds K fd ["found"] []
 f_l_code : ∃ fd,Fun K "_law_code" "_law_code" zbB t.l_code fd ∧ Binds K fd ["script","at","most_k","most_n"] []
 f_l_value : ∃ fd,Fun K "_law_value" "_law_value" zbQ t.l_value fd ∧ Binds K fd ["p","polynomial","x"] []
 f_l_polynomial : ∃ fd,Fun K "_law_polynomial" "_law_polynomial" zam t.l_polynomial fd ∧ Binds K fd ["draws","p","k"] []
 f_l_row : ∃ fd,Fun K "_law_row" "_law_row" zb7 t.l_row fd ∧ Binds K fd ["script","at","code"] []
 f_l_rank : ∃ fd,Fun K "_law_rank" "_law_rank" zaQ t.l_rank fd ∧ Binds K fd ["p","rows"] []
 f_l_powers : ∃ fd,Fun K "_law_powers" "_law_powers" zbm t.l_powers fd ∧ Binds K fd ["p","x","many"] []
 f_l_can : ∃ fd,Fun K "_law_can" "_law_can" za3 t.l_can fd ∧ Binds K fd ["code","rows","e"] []
section
variable {P : Program} {w : World} {K : PySem.W.Frag} {mg : Str → Option Value} {base : Heap} {t : Adr}
theorem zfZ : FnScope ["script","k"] ["script","k"] (zi zb6):=⟨rfl,rfl,rfl,by decide +kernel,rfl,by decide +kernel,by decide +kernel⟩
theorem zf0 {fd : FuncData} (T : Txt K mg t) (F : Fun K "_law_cell" "_law_cell" zb6 t.l_cell fd) : FnOk P w K mg base CX0 1 t.l_cell fd ["script","k"] (zfS K):=by
 refine F.ok zfZ (fun vs H Q E h => ?_) (fun cdv A outer s H vs Q E hr h => ?_)
 ·obtain ⟨a,ns,k,rfl,_⟩:=h; rfl
 ·obtain ⟨a,ns,k,rfl,hS,hlen,k0,k1,q⟩:=h
  refine ⟨_,(@zc _ _ _ _ _ (@zaM _ _ _ _ _ _ _ _ (@zB _ _ _ _ _ _ _ _ (@zfb _) (@pvx _ 1 _ _ rfl) (@zz _ _ _ _ _ _ _ _ _ (@zr _) (by rfl) T.len_ boot_len (@za _ _ _ _ _ (@pvx _ 0 _ _ rfl) (@ze _) (by rfl)) (by decide) (by decide) (by rfl) (by rfl)) (zK _)) (@zj _ _ _ (@zG _ _ _ _ (@zA _ _ _ _ _ _ _ (@zq _) (@pvx _ 0 _ _ rfl) (@pvx _ 1 _ _ rfl) (fun _ _ => rfl)))) (@zZ _)) (by exact (@zc _ _ _ _ _ (@zaM _ _ _ _ _ _ _ _ (@zB _ _ _ _ _ _ _ _ (@zcH _) (@zz _ _ _ _ _ _ _ _ _ (@zr _) (by rfl) T.len_ boot_len (@za _ _ _ _ _ (@pvx _ 0 _ _ rfl) (@ze _) (by rfl)) (by decide) (by decide) (by rfl) (by rfl)) (@zf _ _ _ _) (zK _)) (@zj _ _ _ (@zG _ _ _ _ (@zg _ _ _ _ _ _ _ _ (@zE _) (@zg _ _ _ _ _ _ _ _ (@zJ _) (@zf _ _ _ _) (@pvx _ 1 _ _ rfl)) (@zf _ _ _ _)))) (@zZ _)) (by exact (@zj _ _ _ (@zG _ _ _ _ (@zg _ _ _ _ _ _ _ _ (@zE _) (@zg _ _ _ _ _ _ _ _ (@zy _) (@zA _ _ _ _ _ _ _ (@zq _) (@pvx _ 0 _ _ rfl) (@zg _ _ _ _ _ _ _ _ (@zy _) (@pvx _ 1 _ _ rfl) (@zz _ _ _ _ _ _ _ _ _ (@zr _) (by rfl) T.len_ boot_len (@za _ _ _ _ _ (@pvx _ 0 _ _ rfl) (@ze _) (by rfl)) (by decide) (by decide) (by rfl) (by rfl))) (fun _ _ => rfl)) (@zf _ _ _ _)) (@zg _ _ _ _ _ _ _ _ (@zJ _) (@zf _ _ _ _) (@pvx _ 1 _ _ rfl))))))))),?_⟩
  refine ⟨_,rfl,_,rfl,a,_,rfl,.inl hS,_,_,rfl,rfl,_,rfl,?_⟩; rw [List.length_map]
  refine zaa (fun h => ?_) (fun h => ?_)
  ·have h : k < (ns.length : Int):=by simpa using h
   obtain ⟨c,hc⟩:=zcv k0 h
   exact ⟨_,rfl,_,rfl,a,_,k,_,rfl,rfl,hS,hc,q c⟩
  ·have h : ¬ k < (ns.length : Int):=by simpa using h
   refine ⟨_,rfl,a,_,rfl,.inl hS,rfl,_,rfl,?_⟩
   rw [List.length_map]
   refine zaa (fun h2 => ?_) (fun h2 => ?_)
   ·exact ⟨_,rfl,_,_,rfl,rfl,.inl ⟨by decide,by decide⟩,_,_,rfl,rfl,q _⟩
   ·have h2 : ¬ V.int (ns.length : Int) = V.int 0:=by simpa using h2
    have hpos : 0 < (ns.length : Int):=by
     have : (ns.length : Int) ≠ 0:=fun z => h2 (by rw [z])
     omega
    have m0:=Int.emod_nonneg k (show (ns.length : Int) ≠ 0 by omega)
    have m1:=Int.emod_lt_of_pos k hpos
    obtain ⟨c,hc⟩:=zcv m0 m1
    refine ⟨_,rfl,_,rfl,_,rfl,a,_,rfl,.inl hS,_,_,rfl,rfl,by rw [List.length_map]; exact hpos,a,_,_,_,rfl,rfl,hS,by rw [List.length_map]; exact hc,_,_,rfl,rfl,(by show (0 : Int) < 1000003; decide),?_⟩
    exact ⟨_,rfl,_,_,rfl,rfl,.inl ⟨by decide,by decide⟩,_,_,rfl,rfl,q _⟩
theorem zO : FnScope ["script","k","many","base","primes","cell","rest","row","j","mash"] ["script","k","many","base"] (zi zbO):=⟨rfl,rfl,rfl,by decide +kernel,rfl,by decide +kernel,by decide +kernel⟩
theorem zc2 {fd : FuncData} (T : Txt K mg t) (F : Fun K "_law_draws" "_law_draws" zbO t.l_draws fd) : FnOk P w K mg base CX0 2 t.l_draws fd ["script","k","many","base"] (zeR K):=by
 obtain ⟨fd_l_cell,F_l_cell,b_l_cell⟩:=T.f_l_cell
 have G_l_cell:=zf0 (P:=P) (w:=w) (base:=base) T F_l_cell
 refine F.ok zO (fun vs H Q E h => ?_) (fun cdv A outer s H vs Q E hr h => ?_)
 ·obtain ⟨a,ns,k,many,base,rfl,_⟩:=h
  rfl
 ·obtain ⟨a,ns,k,many,bs,rfl,hS,hlen,k0,k1,m0,m1,b0,b1,q⟩:=h
  refine ⟨_,(@zc _ _ _ _ _ (@zm _ _ (4) _ _ _ _ zO.nd rfl (Or.inl rfl) (@zaW _ _ _ _ _ (@zbT _ _ _ _ _ _ (by exact (@zbT _ _ _ _ _ _ (by exact (@zbT _ _ _ _ _ _ (by exact (@zbT _ _ _ _ _ _ (by exact (@zbT _ _ _ _ _ _ (by exact (@za _ _ _ _ _ (@zf _ _ _ _) (@za _ _ _ _ _ (@zf _ _ _ _) (@za _ _ _ _ _ (@zf _ _ _ _) (@ze _) (by rfl)) (by rfl)) (by rfl))))))))))))) (by rfl) (by trivial)) (by exact (@zc _ _ _ _ _ (@zm _ _ (5) _ _ _ _ zO.nd rfl (Or.inl rfl) (@zu _ _ _ _ _ _ _ _ _ _ _ _ _ _ _ _ G_l_cell (hr.mono (by decide)) rfl T.m_l_cell F_l_cell.kp b_l_cell .nil (@zP _) (@za _ _ _ _ _ (@pvx _ 0 _ _ rfl) (@za _ _ _ _ _ (@pvx _ 1 _ _ rfl) (@ze _) (by rfl)) (by rfl)) (by decide) (by rfl) (by rfl)) (by rfl) (by trivial)) (by exact (@zc _ _ _ _ _ (@zm _ _ (6) _ _ _ _ zO.nd rfl (Or.inl rfl) (@zf _ _ _ _) (by rfl) (by trivial)) (by exact (@zc _ _ _ _ _ (@zaM _ _ _ _ _ _ _ _ (@zB _ _ _ _ _ _ _ _ (@zje _) (@pvx _ 5 _ _ rfl) (@zg _ _ _ _ _ _ _ _ (@zio _) (@zf _ _ _ _) (@zf _ _ _ _)) (zK _)) (@zj _ _ _ (@zm _ _ (6) _ _ _ _ zO.nd rfl (Or.inl rfl) (@pvx _ 5 _ _ rfl) (by rfl) (by trivial))) (@zZ _)) (by exact (@zc _ _ _ _ _ (@zm _ _ (7) _ _ _ _ zO.nd rfl (Or.inl rfl) (@zU _ _ _ _ (@ze _)) (by rfl) (by trivial)) (by exact (@zc _ _ _ _ _ (@zaz _ _ _ _ _ _ _ _ PassesOwn.never rfl (@zay _ _ _ _ _ _ rfl T.range_ (@za _ _ _ _ _ (@pvx _ 2 _ _ rfl) (@ze _) (by rfl)) (by rfl)) (@zh _ _ (8) _ zO.nd rfl (Or.inl rfl) (by trivial)) (@zc _ _ _ _ _ (@zm _ _ (9) _ _ _ _ zO.nd rfl (Or.inl rfl) (@zg _ _ _ _ _ _ _ _ (@zJ _) (@zg _ _ _ _ _ _ _ _ (@zy _) (@pvx _ 5 _ _ rfl) (@zA _ _ _ _ _ _ _ (@zbh _) (@pvx _ 4 _ _ rfl) (@zg _ _ _ _ _ _ _ _ (@zy _) (@pvx _ 8 _ _ rfl) (@zf _ _ _ _)) (fun _ _ => rfl))) (@zg _ _ _ _ _ _ _ _ (@zE _) (@zf _ _ _ _) (@zg _ _ _ _ _ _ _ _ (@zJ _) (@zg _ _ _ _ _ _ _ _ (@zJ _) (@zf _ _ _ _) (@pvx _ 8 _ _ rfl)) (@pvx _ 8 _ _ rfl)))) (by rfl) (by trivial)) (by exact (@zc _ _ _ _ _ (@zm _ _ (9) _ _ _ _ zO.nd rfl (Or.inl rfl) (@zg _ _ _ _ _ _ _ _ (@zE _) (@zg _ _ _ _ _ _ _ _ (@zE _) (@pvx _ 9 _ _ rfl) (@zg _ _ _ _ _ _ _ _ (@zJ _) (@zg _ _ _ _ _ _ _ _ (@zJ _) (@zf _ _ _ _) (@zg _ _ _ _ _ _ _ _ (@zE _) (@pvx _ 8 _ _ rfl) (@zf _ _ _ _))) (@zg _ _ _ _ _ _ _ _ (@zE _) (@pvx _ 8 _ _ rfl) (@zf _ _ _ _)))) (@zg _ _ _ _ _ _ _ _ (@zJ _) (@zf _ _ _ _) (@pvx _ 1 _ _ rfl))) (by rfl) (by trivial)) (by exact (@zc _ _ _ _ _ (@zm _ _ (9) _ _ _ _ zO.nd rfl (Or.inl rfl) (@zg _ _ _ _ _ _ _ _ (@zy _) (@pvx _ 9 _ _ rfl) (@zA _ _ _ _ _ _ _ (@zbh _) (@pvx _ 4 _ _ rfl) (@zg _ _ _ _ _ _ _ _ (@zy _) (@zg _ _ _ _ _ _ _ _ (@zE _) (@zg _ _ _ _ _ _ _ _ (@zJ _) (@zf _ _ _ _) (@pvx _ 8 _ _ rfl)) (@pvx _ 1 _ _ rfl)) (@zf _ _ _ _)) (fun _ _ => rfl))) (by rfl) (by trivial)) (by exact (@zc _ _ _ _ _ (@zm _ _ (9) _ _ _ _ zO.nd rfl (Or.inl rfl) (@zg _ _ _ _ _ _ _ _ (@zy _) (@zg _ _ _ _ _ _ _ _ (@zJ _) (@zg _ _ _ _ _ _ _ _ (@zJ _) (@pvx _ 9 _ _ rfl) (@pvx _ 9 _ _ rfl)) (@pvx _ 9 _ _ rfl)) (@zA _ _ _ _ _ _ _ (@zbh _) (@pvx _ 4 _ _ rfl) (@zg _ _ _ _ _ _ _ _ (@zy _) (@zg _ _ _ _ _ _ _ _ (@zE _) (@pvx _ 8 _ _ rfl) (@zf _ _ _ _)) (@zf _ _ _ _)) (fun _ _ => rfl))) (by rfl) (by trivial)) (by exact (@zc _ _ _ _ _ (@zaM _ _ _ _ _ _ _ _ (@zB _ _ _ _ _ _ _ _ (@zfc _) (@pvx _ 6 _ _ rfl) (@zf _ _ _ _) (zK _)) (@zj _ _ _ (@zm _ _ (9) _ _ _ _ zO.nd rfl (Or.inl rfl) (@pvx _ 6 _ _ rfl) (by rfl) (by trivial))) (@zZ _)) (by exact (@zc _ _ _ _ _ (@zbD _ _ _ _ (@zcN _ _ _ _ _ _ _ _ _ _ _ _ PySem.F.plainAttrs_list PySem.F.slot_list_append PySem.F.type_list_append (@zaV _) (@pvx _ 7 _ _ rfl) (@za _ _ _ _ _ (@zg _ _ _ _ _ _ _ _ (@zy _) (@pvx _ 9 _ _ rfl) (@pvx _ 3 _ _ rfl)) (@ze _) (by rfl)) (by rfl) (by rfl) (by rfl) (by rfl) (by rfl)) (by rfl)) (by exact (@zj _ _ _ (@zm _ _ (6) _ _ _ _ zO.nd rfl (Or.inl rfl) (@zg _ _ _ _ _ _ _ _ (@zct _) (@pvx _ 6 _ _ rfl) (@pvx _ 3 _ _ rfl)) (by rfl) (by trivial))))))))))))))) (by intro _; rfl)) (by exact (@zj _ _ _ (@zG _ _ _ _ (@pvx _ 7 _ _ rfl))))))))))))))),?_⟩
  refine ⟨by show 8 ≤ sizeLine; rw [sizeLine_eq]; decide,fun tp ht => ?_⟩
  have s1 : zx H (upd H tp (.tup zhw)):=zd ht
  refine ⟨_,rfl,_,rfl,a,ns,k,rfl,s1.seq hS,hlen,k0,k1,fun c => ?_⟩
  refine ⟨_,rfl,_,_,rfl,rfl,⟨by decide,by decide,by decide⟩,_,_,rfl,rfl,_,rfl,?_⟩
  refine zaa (fun _ => ⟨_,rfl,?_⟩) (fun _ => ?_)
  all_goals
   refine ⟨Nat.zero_le _,fun l hl => ?_⟩
   have hln : H l = none:=zx.free s1 hl
   have htl : tp ≠ l:=zD zb hl
   refine ⟨_,rfl,many,rfl,by omega,by omega,za8 (lo:=0) (n:=many.toNat) (fun i σ H' => ∃ (r : Int) (v8 v9 : Option V) (ds : List Int),σ = [some (.ref a),some (.int k),some (.int many),some (.int bs),some (.ref tp),some (.int c),some (.int r),some (.ref l),v8,v9] ∧ zfl i bs ds ∧ zx H H' ∧ H' tp = some (.tup zhw) ∧ H' l = some (.lst (ds.map V.int)))
    ⟨_,none,none,[],rfl,⟨rfl,by simp⟩,zX s1 hln,by rw [zo htl]; exact zb,zb⟩ ?_ ?_⟩
   ·rintro i σ H2 hi ⟨r,v8,v9,ds,rfl,hd,s2,htp,hrow⟩
    obtain ⟨q1,e1,q1p,q1l⟩:=zcU (0 + (i : Int))
    obtain ⟨q2,e2,q2p,q2l⟩:=zcU (3 * (0 + (i : Int)) + k)
    obtain ⟨q3,e3,q3p,q3l⟩:=zcU (0 + (i : Int) + 5)
    have c1:=Int.emod_nonneg c (show q1 ≠ 0 by omega)
    have c2:=Int.emod_lt_of_pos c q1p
    have hi' : (i : Int) < 1000:=by omega
    refine ⟨_,rfl,_,rfl,_,rfl,_,_,rfl,rfl,(by show (0 : Int) < 8; decide),tp,_,_,_,rfl,rfl,SqT.of htp,e1,_,_,rfl,rfl,q1p,_,rfl,_,_,rfl,rfl,.inl ⟨by decide,by decide⟩,_,rfl,_,_,rfl,rfl,.inl ⟨by omega,by omega⟩,_,_,rfl,rfl,_,_,rfl,rfl,.inl ⟨by omega,by omega⟩,?_⟩
    refine ⟨_,rfl,_,rfl,_,_,rfl,rfl,_,_,rfl,rfl,.inl ⟨by decide,by decide⟩,_,rfl,_,_,rfl,rfl,_,_,rfl,rfl,.inl ⟨by omega,by omega⟩,_,_,rfl,rfl,_,rfl,_,_,rfl,rfl,.inl ⟨by decide,by decide⟩,_,_,rfl,rfl,?_⟩
    refine ⟨_,rfl,_,rfl,_,rfl,_,_,rfl,rfl,.inl ⟨by decide,by decide⟩,_,rfl,_,_,rfl,rfl,_,_,rfl,rfl,(by show (0 : Int) < 8; decide),tp,_,_,_,rfl,rfl,SqT.of htp,e2,_,_,rfl,rfl,q2p,?_⟩
    generalize c % q1 * (48271 + 2 * (0 + (i : Int)) * (0 + (i : Int))) + 7919 * (0 + (i : Int) + 1) * (0 + (i : Int) + 1) + 104729 * k = ms
    have d1:=Int.emod_nonneg ms (show q2 ≠ 0 by omega)
    have d2:=Int.emod_lt_of_pos ms q2p
    refine ⟨_,rfl,_,rfl,_,_,rfl,rfl,.inl ⟨by omega,by omega⟩,_,rfl,_,_,rfl,rfl,.inr ⟨by omega,by omega⟩,_,rfl,_,rfl,_,_,rfl,rfl,_,_,rfl,rfl,(by show (0 : Int) < 8; decide),tp,_,_,_,rfl,rfl,SqT.of htp,e3,_,_,rfl,rfl,q3p,?_⟩
    refine ⟨_,rfl,_,_,rfl,rfl,_,rfl,?_⟩
    have hdl:=hd.1
    refine zaa (fun _ => ⟨_,rfl,?_⟩) (fun _ => ?_)
    all_goals
     refine ⟨_,rfl,.inl ⟨rfl,_,SqL.of hrow⟩,_,rfl,_,rfl,_,_,rfl,rfl,b0,l,_,_,rfl,rfl,hrow,zV (by rw [List.length_map]; omega),?_⟩
     refine ⟨_,rfl,_,rfl,_,_,rfl,rfl,⟨b0,b1⟩,?_⟩
     refine ⟨_,_,_,ds ++ [_],rfl,⟨by rw [List.length_append,hdl]; rfl,fun d hm => ?_⟩,zX s2 hln,by rw [zo htl]; exact htp,by rw [zb,List.map_append]; rfl⟩; rcases List.mem_append.mp hm with hm | hm
     ·exact hd.2 d hm
     ·have e:=List.mem_singleton.mp hm
      rw [e]
      exact ⟨Int.emod_nonneg _ (by omega),Int.emod_lt_of_pos _ b0⟩
   ·rintro σ H2 ⟨r,v8,v9,ds,rfl,hd,s2,htp,hrow⟩
    exact ⟨_,rfl,q l ds H2 hln s2 hd hrow⟩
theorem ze0 : FnScope ["found"] ["found"] (zi zbP):=⟨rfl,rfl,rfl,by decide +kernel,rfl,by decide +kernel,by decide +kernel⟩
theorem ze1 {fd : FuncData} (T : Txt K mg t) (F : Fun K "_law_whole" "_law_whole" zbP t.l_whole fd) : FnOk P w K mg base CX0 1 t.l_whole fd ["found"] (zeT K):=by
 refine F.ok ze0 (fun vs H Q E h => ?_) (fun cdv A outer s H vs Q E hr h => ?_)
 ·obtain ⟨i,rfl,_⟩:=h
  rfl
 ·obtain ⟨i,rfl,q⟩:=h
  refine ⟨_,(@zj _ _ _ (@zG _ _ _ _ (@zga _ _ _ _ _ _ _ (@zz _ _ _ _ _ _ _ _ _ (@zaP _) (by rfl) T.isinstance_ boot_isinstance (@za _ _ _ _ _ (@pvx _ 0 _ _ rfl) (@za _ _ _ _ _ (@zbY _ _ (.ty "int") _ _ rfl T.int_ boot_int rfl (by decide) (by decide)) (@ze _) (by rfl)) (by rfl)) (by decide) (by decide) (by rfl) (by rfl)) (@zf9 _ _ _ _ _ (@zih _ _ _ _ (@zz _ _ _ _ _ _ _ _ _ (@zaP _) (by rfl) T.isinstance_ boot_isinstance (@za _ _ _ _ _ (@pvx _ 0 _ _ rfl) (@za _ _ _ _ _ (@zbY _ _ (.ty "bool") _ _ rfl T.bool_ boot_bool rfl (by decide) (by decide)) (@ze _) (by rfl)) (by rfl)) (by decide) (by decide) (by rfl) (by rfl))))))),?_⟩
  refine ⟨_,rfl,_,_,_,_,rfl,.int i,rfl,_,rfl,zjo ?_⟩
  exact ⟨_,rfl,_,_,_,_,rfl,.int i,rfl,_,rfl,q⟩
theorem zaH : FnScope ["script","at","most_k","most_n","plan","primes","p","k","many","left"] ["script","at","most_k","most_n"] (zi zbB):=⟨rfl,rfl,rfl,by decide +kernel,rfl,by decide +kernel,by decide +kernel⟩
theorem zf1 {fd : FuncData} (T : Txt K mg t) (F : Fun K "_law_code" "_law_code" zbB t.l_code fd) : FnOk P w K mg base CX0 3 t.l_code fd ["script","at","most_k","most_n"] (zfT K):=by
 obtain ⟨fd_l_draws,F_l_draws,b_l_draws⟩:=T.f_l_draws
 have G_l_draws:=zc2 (P:=P) (w:=w) (base:=base) T F_l_draws
 refine F.ok zaH (fun vs H Q E h => ?_) (fun cdv A outer s H vs Q E hr h => ?_)
 ·obtain ⟨a,ns,at',mk,mn,rfl,_⟩:=h
  rfl
 ·obtain ⟨a,ns,at',mk,mn,rfl,hS,hlen,a0,a1,k1,k5,kn,n16,q⟩:=h
  refine ⟨_,(@zc _ _ _ _ _ (@zm _ _ (4) _ _ _ _ zaH.nd rfl (Or.inr rfl) (@zu _ _ _ _ _ _ _ _ _ _ _ _ _ _ _ _ G_l_draws (hr.mono (by decide)) rfl T.m_l_draws F_l_draws.kp b_l_draws .nil (@zP _) (@za _ _ _ _ _ (@pvx _ 0 _ _ rfl) (by exact (@za _ _ _ _ _ (@pvx _ 1 _ _ rfl) (@za _ _ _ _ _ (@zf _ _ _ _) (@za _ _ _ _ _ (@zf _ _ _ _) (@ze _) (by rfl)) (by rfl)) (by rfl))) (by rfl)) (by decide) (by rfl) (by rfl)) (by rfl) (by trivial)) (by exact (by exact (@zgu _ 5 _ _ _ _ _ _ _ [5,7,11,13,17,19,23,29,31,37,41,43,47,53,59,61,67,71,73,79,83,89,97] (by decide +kernel) zaH.nd rfl (Or.inl rfl) (by first | exact .inl rfl | exact .inr rfl) (by exact (@zc _ _ _ _ _ (@zm _ _ (6) _ _ _ _ zaH.nd rfl (Or.inl rfl) (@zA _ _ _ _ _ _ _ (@zq _) (@zU _ _ _ _ (@za _ _ _ _ _ (@zA _ _ _ _ _ _ _ (@zq _) (@pvx _ 5 _ _ rfl) (@zg _ _ _ _ _ _ _ _ (@zy _) (@zA _ _ _ _ _ _ _ (@zq _) (@pvx _ 4 _ _ rfl) (@zf _ _ _ _) (fun _ _ => rfl)) (@zf _ _ _ _)) (fun _ _ => rfl)) (@za _ _ _ _ _ (@zA _ _ _ _ _ _ _ (@zq _) (@pvx _ 5 _ _ rfl) (@zg _ _ _ _ _ _ _ _ (@zy _) (@zA _ _ _ _ _ _ _ (@zq _) (@pvx _ 4 _ _ rfl) (@zf _ _ _ _) (fun _ _ => rfl)) (@zf _ _ _ _)) (fun _ _ => rfl)) (@ze _) (by rfl)) (by rfl))) (@zg _ _ _ _ _ _ _ _ (@zy _) (@zA _ _ _ _ _ _ _ (@zq _) (@pvx _ 4 _ _ rfl) (@zf _ _ _ _) (fun _ _ => rfl)) (@zf _ _ _ _)) (fun _ _ => rfl)) (by rfl) (by trivial)) (by exact (@zc _ _ _ _ _ (@zm _ _ (7) _ _ _ _ zaH.nd rfl (Or.inl rfl) (@zg _ _ _ _ _ _ _ _ (@zE _) (@zf _ _ _ _) (@zg _ _ _ _ _ _ _ _ (@zy _) (@zA _ _ _ _ _ _ _ (@zq _) (@pvx _ 4 _ _ rfl) (@zf _ _ _ _) (fun _ _ => rfl)) (@zz _ _ _ _ _ _ _ _ _ (@zdo _ rfl) (by rfl) T.min_ boot_min (@za _ _ _ _ _ (@pvx _ 2 _ _ rfl) (@za _ _ _ _ _ (@pvx _ 6 _ _ rfl) (@ze _) (by rfl)) (by rfl)) (by decide) (by decide) (by rfl) (by rfl)))) (by rfl) (by trivial)) (by exact (@zc _ _ _ _ _ (@zm _ _ (8) _ _ _ _ zaH.nd rfl (Or.inl rfl) (@zg _ _ _ _ _ _ _ _ (@zE _) (@pvx _ 7 _ _ rfl) (@zg _ _ _ _ _ _ _ _ (@zy _) (@zA _ _ _ _ _ _ _ (@zq _) (@pvx _ 4 _ _ rfl) (@zf _ _ _ _) (fun _ _ => rfl)) (@zg _ _ _ _ _ _ _ _ (@zE _) (@zg _ _ _ _ _ _ _ _ (@zbf _) (@zz _ _ _ _ _ _ _ _ _ (@zdo _ rfl) (by rfl) T.min_ boot_min (@za _ _ _ _ _ (@pvx _ 3 _ _ rfl) (@za _ _ _ _ _ (@pvx _ 6 _ _ rfl) (@ze _) (by rfl)) (by rfl)) (by decide) (by decide) (by rfl) (by rfl)) (@pvx _ 7 _ _ rfl)) (@zf _ _ _ _)))) (by rfl) (by trivial)) (by exact (@zc _ _ _ _ _ (@zm _ _ (9) _ _ _ _ zaH.nd rfl (Or.inr rfl) (@zaD _ _ _ _ _ _ _ _ _ (@zdd _ rfl) (by rfl) T.list_ boot_list (@za _ _ _ _ _ (@zaD _ _ _ _ _ _ _ _ _ (@zeb _) (by rfl) T.range_ boot_range (@za _ _ _ _ _ (@pvx _ 6 _ _ rfl) (@ze _) (by rfl)) (by decide) (by decide) (by rfl) (by rfl)) (@ze _) (by rfl)) (by decide) (by decide) (by rfl) (by rfl)) (by rfl) (by trivial)) (by exact (@zj _ _ _ (@zG _ _ _ _ (@zaW _ _ _ _ _ (@za _ _ _ _ _ (@pvx _ 6 _ _ rfl) (@za _ _ _ _ _ (@pvx _ 7 _ _ rfl) (@za _ _ _ _ _ (@zaD _ _ _ _ _ _ _ _ _ (@zaJ _) (by rfl) T.tuple_ boot_tuple (@za _ _ _ _ _ (@zao _ _ _ _ _ _ _ _ _ _ _ _ _ (CompSc.of (N':=["j","left","plan"]) (ix:=[none,some 9,some 4]) (zi zbB) ["script","at","most_k","most_n","plan","primes","p","k","many","left"] rfl rfl (by decide +kernel)) rfl (@z8 _ _ rfl) (@zay _ _ _ _ _ _ rfl T.range_ (@za _ _ _ _ _ (@pvx _ 8 _ _ rfl) (@ze _) (by rfl)) (by rfl)) (fun _ _ _ _ => (@zh _ _ (0) _ (show (["j","left","plan"] : List Str).Nodup by decide +kernel) rfl (Or.inl rfl) (by trivial))) (fun _ _ _ _ => (@zI _)) (fun _ _ _ _ => (@ziE _ (K) _ _ _ _ _ _ _ _ _ _ _ rfl PySem.F.plainAttrs_list PySem.F.slot_list_pop PySem.F.type_list_pop (@zgq _) (@pvx _ 1 _ _ rfl) (@za _ _ _ _ _ (@zg _ _ _ _ _ _ _ _ (@zy _) (@zA _ _ _ _ _ _ _ (@zbw _ (K) rfl) (@pvx _ 2 _ _ rfl) (@zg _ _ _ _ _ _ _ _ (@zE _) (@zf _ _ _ _) (@pvx _ 0 _ _ rfl)) (fun _ _ => rfl)) (@zz _ _ _ _ _ _ _ _ _ (@zde _ (K) rfl) (by rfl) T.len_ boot_len (@za _ _ _ _ _ (@pvx _ 1 _ _ rfl) (@ze _) (by rfl)) (by decide) (by decide) (by rfl) (by rfl))) (@ze _) (by rfl)) (by rfl) (by rfl) (by rfl) (by rfl) (by rfl))) (by intro _; rfl)) (@ze _) (by rfl)) (by decide) (by decide) (by rfl) (by rfl)) (@ze _) (by rfl)) (by rfl)) (by rfl)))))))))))))))))),?_⟩
  refine ⟨_,rfl,_,rfl,a,ns,at',20,27720,rfl,hS,hlen,a0,a1,by decide,by decide,by decide,by decide,fun l ds H1 hl s1 hd hpl => ?_⟩
  have hdl : ds.length = 20:=hd.1
  have dat : ∀ m : Int,0 ≤ m → m < 20 → ∃ c : Int,atI (ds.map V.int) m = some (.int c):=fun m h0 h1 => zcv h0 (by omega)
  refine ⟨by show 23 ≤ sizeLine; rw [sizeLine_eq]; decide,fun pr hpr => ?_⟩
  have hlpr : l ≠ pr:=zD hpl hpr
  obtain ⟨d0,ed0⟩:=dat 0 (by decide) (by decide)
  obtain ⟨d1,ed1⟩:=dat 1 (by decide) (by decide)
  obtain ⟨d2,ed2⟩:=dat 2 (by decide) (by decide)
  obtain ⟨d3,ed3⟩:=dat 3 (by decide) (by decide)
  have hp2 : (upd H1 pr (.lst (zk.map V.int))) l = some (.lst (ds.map V.int)):=by rw [zo hlpr]; exact hpl
  obtain ⟨p1,mp1,ep1⟩:=zgz (ns:=zk) (k:=d0 % 23) (Int.emod_nonneg _ (by decide)) (Int.emod_lt_of_pos _ (by decide))
  obtain ⟨p2,mp2,ep2⟩:=zgz (ns:=zk) (k:=d0 % 3) (Int.emod_nonneg _ (by decide)) (by have:=Int.emod_lt_of_pos d0 (show (0 : Int) < 3 by decide); have e : (zk.length : Int) = 23:=rfl; omega)
  obtain ⟨p,ep,hpp⟩:=ziG (x:=p1) (y:=p2) (m:=d1 % 2) (Int.emod_nonneg _ (by decide)) (Int.emod_lt_of_pos _ (by decide))
  have mp : p ∈ zk:=by rcases hpp with e | e <;> rw [e] <;> assumption
  have rp:=zp mp
  refine ⟨_,rfl,_,rfl,l,_,_,_,rfl,rfl,SqL.of hp2,ed0,_,_,rfl,rfl,(by show (0 : Int) < 23; decide),pr,_,_,_,rfl,rfl,SqL.of zb,ep1,
   _,rfl,_,rfl,l,_,_,_,rfl,rfl,SqL.of hp2,ed0,_,_,rfl,rfl,(by show (0 : Int) < 3; decide),pr,_,_,_,rfl,rfl,SqL.of zb,ep2,zaO,fun l2 hl2 => ?_⟩
  have hll2 : l ≠ l2:=zD hp2 hl2
  have hp3 : (upd (upd H1 pr (.lst (zk.map V.int))) l2 (.lst [.int p1,.int p2])) l = some (.lst (ds.map V.int)):=by rw [zo hll2]; exact hp2
  refine ⟨_,rfl,l,_,_,_,rfl,rfl,SqL.of hp3,ed1,_,_,rfl,rfl,(by show (0 : Int) < 2; decide),l2,_,_,_,rfl,rfl,SqL.of zb,ep,?_⟩
  have hm1 : (0 : Int) < (if p < mk then p else mk):=by split <;> omega
  have hm2 : (if p < mk then p else mk) ≤ mk:=by split <;> omega
  have hm3 : (if p < mk then p else mk) ≤ p:=by split <;> omega
  refine ⟨_,rfl,l,_,_,_,rfl,rfl,SqL.of hp3,ed2,_,rfl,_,rfl,_,_,rfl,_,_,rfl,rfl,hm1,_,_,rfl,rfl,?_⟩
  generalize (if p < mk then p else mk) = mm at hm1 hm2 hm3 ⊢
  have hk0:=Int.emod_nonneg d2 (show mm ≠ 0 by omega)
  have hk1:=Int.emod_lt_of_pos d2 hm1
  have hn1 : (if p < mn then p else mn) ≤ mn:=by split <;> omega
  have hn2 : (if p < mn then p else mn) ≤ p:=by split <;> omega
  have hn3 : mm ≤ (if p < mn then p else mn):=by split <;> omega
  refine ⟨_,rfl,_,rfl,l,_,_,_,rfl,rfl,SqL.of hp3,ed3,_,rfl,_,rfl,_,_,rfl,_,rfl,_,_,rfl,rfl,_,_,rfl,rfl,_,_,rfl,rfl,(by omega),_,_,rfl,rfl,?_⟩
  generalize (if p < mn then p else mn) = nn at hn1 hn2 hn3 ⊢
  have hq0:=Int.emod_nonneg d3 (show nn - (1 + d2 % mm) + 1 ≠ 0 by omega)
  have hq1:=Int.emod_lt_of_pos d3 (show 0 < nn - (1 + d2 % mm) + 1 by omega)
  refine ⟨_,rfl,p,rfl,fun r hr2 => ⟨r,p,rfl,zb,by omega,by omega,fun lf hlf => ?_⟩⟩
  have hlr : l ≠ r:=zD hp3 hr2
  have hlf1 : l ≠ lf:=by
   refine zD (H:=upd (upd (upd H1 pr (.lst (zk.map V.int))) l2 (.lst [.int p1,.int p2])) r (.rng 0 p)) (o:=.lst (ds.map V.int)) ?_ hlf
   rw [zo hlr]; exact hp3
  have sA : zx H (upd (upd H1 pr (.lst (zk.map V.int))) l2 (.lst [.int p1,.int p2])):=(s1.trans (zd hpr)).trans (zd hl2)
  have sB:=(sA.trans (zd (o:=.rng 0 p) hr2)).trans (zd (o:=.lst ((za6 0 p.toNat).map V.int)) hlf)
  have hlfH : H lf = none:=(sA.trans (zd (o:=.rng 0 p) hr2)).free hlf
  obtain ⟨nd0,rg0⟩:=zfU p
  refine ⟨_,rfl,_,rfl,_,rfl,_,rfl,by omega,by omega,z0 (n:=(1 + d2 % mm + d3 % (nn - (1 + d2 % mm) + 1)).toNat) (fun i ys H' => ∃ xs ls : List Int,ys = xs.map V.int ∧ xs.length = i ∧ zx H H' ∧ H' l = some (.lst (ds.map V.int)) ∧ H' lf = some (.lst (ls.map V.int)) ∧ ls.length + i = p.toNat ∧ (xs ++ ls).Nodup ∧ ∀ y ∈ xs ++ ls,0 ≤ y ∧ y < p)
   ⟨[],za6 0 p.toNat,rfl,rfl,sB,by rw [zo hlf1,zo hlr]; exact hp3,zb,by rw [zbS]; rfl,by simpa using nd0,by simpa using rg0⟩ (fun i ys H' hi _ => hi) (fun ys H' _ => Nat.le_refl _) ?_ ?_⟩
  ·rintro i x ys H4 H5 hi ⟨xs,ls,rfl,hxl,s4,hpl4,hlf4,hll,nd,rg⟩ ⟨rfl,rfl⟩
   refine gY ?_
   obtain ⟨c,ec⟩:=dat (4 + (0 + (i : Int))) (by omega) (by omega)
   have lpos : 0 < ls.length:=by omega
   have lm : ((ls.map V.int).length : Int) = (ls.length : Int):=by rw [List.length_map]
   have c0:=Int.emod_nonneg c (show (ls.length : Int) ≠ 0 by omega)
   have c1:=Int.emod_lt_of_pos c (show (0 : Int) < ls.length by omega)
   have hsl:=sizeLine_eq
   obtain ⟨y,ey⟩ : ∃ y,ls[(c % (ls.length : Int)).toNat]? = some y:=⟨ls[(c % (ls.length : Int)).toNat]'(by omega),by simp⟩
   refine ⟨_,rfl,.inl ⟨rfl,_,SqL.of hlf4⟩,_,rfl,_,rfl,_,_,rfl,rfl,l,_,_,_,rfl,rfl,SqL.of hpl4,ec,_,rfl,lf,_,rfl,.inl (SqL.of hlf4),_,_,rfl,rfl,(by rw [lm]; omega),lf,_,_,(c % (ls.length : Int)).toNat,.int y,rfl,rfl,hlf4,?_⟩
   rw [lm]
   refine ⟨by omega,by omega,by rw [List.length_map]; exact seqIndex_of c0 c1,by rw [List.getElem?_map,ey]; rfl,zV (by rw [List.length_map]; omega),xs ++ [y],ls.eraseIdx (c % (ls.length : Int)).toNat,by rw [List.map_append]; rfl,by rw [List.length_append,hxl]; rfl,zX s4 hlfH,by rw [zo hlf1]; exact hpl4,by rw [zb,zdA],?_,zhy ey nd rg⟩
   rw [List.length_eraseIdx]
   split <;> omega
  ·rintro ys H4 D ⟨xs,ls,rfl,hxl,s4,hpl4,hlf4,hll,nd,rg⟩ hD
   refine ⟨D,_,rfl,.inl ⟨SqL.of zb,fun tt htt => ⟨by show 3 ≤ sizeLine; rw [sizeLine_eq]; decide,fun c hc => ?_⟩⟩⟩
   have s5:=(s4.trans (zd (o:=.lst (xs.map V.int)) hD)).trans (zd (o:=.tup (xs.map V.int)) htt)
   refine q c tt p _ xs _ (s5.free hc) (s5.trans (zd hc)) ⟨mp,by omega,by omega,by omega,by omega,(List.nodup_append.mp nd).1,fun y hy => rg y (List.mem_append_left _ hy)⟩ zb ?_
   rw [zo (zD zb hc)]
   exact zb
theorem zaI : FnScope ["p","polynomial","x","total","power","number"] ["p","polynomial","x"] (zi zbQ):=⟨rfl,rfl,rfl,by decide +kernel,rfl,by decide +kernel,by decide +kernel⟩
theorem zc3 {fd : FuncData} (T : Txt K mg t) (F : Fun K "_law_value" "_law_value" zbQ t.l_value fd) : FnOk P w K mg base CX0 1 t.l_value fd ["p","polynomial","x"] (zeS K):=by
 refine F.ok zaI (fun vs H Q E h => ?_) (fun cdv A outer s H vs Q E hr h => ?_)
 ·obtain ⟨p,x,a,cs,rfl,_⟩:=h
  rfl
 ·obtain ⟨p,x,a,cs,rfl,hS,p0,p1,x0,x1,q⟩:=h
  refine ⟨_,(@zc _ _ _ _ _ (@zm _ _ (3) _ _ _ _ zaI.nd rfl (Or.inl rfl) (@zf _ _ _ _) (by rfl) (by trivial)) (by exact (@zc _ _ _ _ _ (@zm _ _ (4) _ _ _ _ zaI.nd rfl (Or.inl rfl) (@zf _ _ _ _) (by rfl) (by trivial)) (by exact (@zc _ _ _ _ _ (@zaz _ _ _ _ _ _ _ _ PassesOwn.never rfl (@ziD _ _ _ _ (@pvx _ 1 _ _ rfl)) (@zh _ _ (5) _ zaI.nd rfl (Or.inl rfl) (by trivial)) (@zc _ _ _ _ _ (@zm _ _ (3) _ _ _ _ zaI.nd rfl (Or.inl rfl) (@zg _ _ _ _ _ _ _ _ (@zy _) (@zg _ _ _ _ _ _ _ _ (@zE _) (@pvx _ 3 _ _ rfl) (@zg _ _ _ _ _ _ _ _ (@zJ _) (@pvx _ 5 _ _ rfl) (@pvx _ 4 _ _ rfl))) (@pvx _ 0 _ _ rfl)) (by rfl) (by trivial)) (by exact (@zj _ _ _ (@zm _ _ (4) _ _ _ _ zaI.nd rfl (Or.inl rfl) (@zg _ _ _ _ _ _ _ _ (@zy _) (@zg _ _ _ _ _ _ _ _ (@zJ _) (@pvx _ 4 _ _ rfl) (@pvx _ 2 _ _ rfl)) (@pvx _ 0 _ _ rfl)) (by rfl) (by trivial))))) (by intro _; rfl)) (by exact (@zj _ _ _ (@zG _ _ _ _ (@pvx _ 3 _ _ rfl))))))))),?_⟩
  refine ⟨_,rfl,a,rfl,?_⟩
  rcases hS with hS | hS
  ·refine .inl ⟨⟨_,hS⟩,zbZ (K:=K) (a:=a) (xs:=cs.map V.int) (fun i σ H' => H' = H ∧ ∃ (total power : Int) (nb : Option V),σ = [some (.int p),some (.ref a),some (.int x),some (.int total),some (.int power),nb] ∧ 0 ≤ power ∧ power ≤ 97 ∧ lv p x total power (cs.drop i) = lv p x 0 1 cs)
    ⟨rfl,0,1,none,rfl,by decide,by decide,rfl⟩ (fun i σ H' _ ⟨e,_⟩ => by rw [e]; exact hS) ?_ ?_⟩
   ·rintro i y σ H1 hy ⟨rfl,total,power,nb,rfl,w0,w1,hl⟩
    obtain ⟨c,rfl,hc⟩:=zW hy
    have m0:=Int.emod_nonneg (power * x) (show p ≠ 0 by omega)
    have m1:=Int.emod_lt_of_pos (power * x) p0
    refine ⟨_,rfl,_,rfl,_,rfl,_,_,rfl,rfl,.inr ⟨by omega,by omega⟩,_,_,rfl,rfl,_,rfl,_,_,rfl,rfl,p0,?_⟩
    refine ⟨_,rfl,_,rfl,_,_,rfl,rfl,.inl ⟨by omega,by omega⟩,_,rfl,_,_,rfl,rfl,p0,?_⟩
    exact ⟨rfl,_,_,_,rfl,m0,by omega,(zfm hc).symm.trans hl⟩
   ·rintro σ H1 ⟨rfl,total,power,nb,rfl,w0,w1,hl⟩
    rw [List.length_map,List.drop_length] at hl
    have hl : total = lv p x 0 1 cs:=hl
    rw [zfh p0] at hl
    rw [← hl] at q
    exact ⟨_,rfl,q⟩
  ·refine .inr ⟨⟨_,hS⟩,zhj (K:=K) (a:=a) (xs:=cs.map V.int) (fun i σ H' => H' = H ∧ ∃ (total power : Int) (nb : Option V),σ = [some (.int p),some (.ref a),some (.int x),some (.int total),some (.int power),nb] ∧ 0 ≤ power ∧ power ≤ 97 ∧ lv p x total power (cs.drop i) = lv p x 0 1 cs)
    ⟨rfl,0,1,none,rfl,by decide,by decide,rfl⟩ (fun i σ H' _ ⟨e,_⟩ => by rw [e]; exact hS) ?_ ?_⟩
   ·rintro i y σ H1 hy ⟨rfl,total,power,nb,rfl,w0,w1,hl⟩
    obtain ⟨c,rfl,hc⟩:=zW hy
    have m0:=Int.emod_nonneg (power * x) (show p ≠ 0 by omega)
    have m1:=Int.emod_lt_of_pos (power * x) p0
    refine ⟨_,rfl,_,rfl,_,rfl,_,_,rfl,rfl,.inr ⟨by omega,by omega⟩,_,_,rfl,rfl,_,rfl,_,_,rfl,rfl,p0,?_⟩
    refine ⟨_,rfl,_,rfl,_,_,rfl,rfl,.inl ⟨by omega,by omega⟩,_,rfl,_,_,rfl,rfl,p0,?_⟩
    exact ⟨rfl,_,_,_,rfl,m0,by omega,(zfm hc).symm.trans hl⟩
   ·rintro σ H1 ⟨rfl,total,power,nb,rfl,w0,w1,hl⟩
    rw [List.length_map,List.drop_length] at hl
    have hl : total = lv p x 0 1 cs:=hl
    rw [zfh p0] at hl
    rw [← hl] at q
    exact ⟨_,rfl,q⟩
def zf2 (K : PySem.W.Frag) : Sp:=fun vs H Q _ => ∃ (a : Addr) (ds : List Int) (p k : Int),vs = [.ref a,.int p,.int k] ∧ SqL K H a (ds.map V.int) ∧ ds.length ≤ 1000 ∧ 0 < p ∧
 ∀ (l : Addr) (poly : List Int) (H' : Hp),H l = none → zx H H' → (poly.length ≤ ds.length ∧ ∀ x ∈ poly,0 ≤ x ∧ x < p) → H' l = some (.tup (poly.map V.int)) → Q (.ref l) H'
theorem zcq : FnScope ["draws","p","k"] ["draws","p","k"] (zi zam):=⟨rfl,rfl,rfl,by decide +kernel,rfl,by decide +kernel,by decide +kernel⟩
theorem zcr {fd : FuncData} (T : Txt K mg t) (F : Fun K "_law_polynomial" "_law_polynomial" zam t.l_polynomial fd) : FnOk P w K mg base CX0 1 t.l_polynomial fd ["draws","p","k"] (zf2 K):=by
 refine F.ok zcq (fun vs H Q E h => ?_) (fun cdv A outer s H vs Q E hr h => ?_)
 ·obtain ⟨a,ds,p,k,rfl,_⟩:=h
  rfl
 ·obtain ⟨a,ds,p,k,rfl,ha,hn,p0,q⟩:=h
  refine ⟨_,(@zj _ _ _ (@zG _ _ _ _ (@zaD _ _ _ _ _ _ _ _ _ (@zaJ _) (by rfl) T.tuple_ boot_tuple (@za _ _ _ _ _ (@zao _ _ _ _ _ _ _ _ _ _ _ _ _ (CompSc.of (N':=["draw","p"]) (ix:=[none,some 1]) (zi zam) ["draws","p","k"] rfl rfl (by decide +kernel)) rfl (@z8 _ _ rfl) (@zab _ _ _ _ (@zaN _ _ _ _ _ _ _ _ _ _ zb0 (@pvx _ 0 _ _ rfl) (@zbg _) (@zaS _ _ _ (@pvx _ 2 _ _ rfl)))) (fun _ _ _ _ => (@zh _ _ (0) _ (show (["draw","p"] : List Str).Nodup by decide +kernel) rfl (Or.inl rfl) (by trivial))) (fun _ _ _ _ => (@zI _)) (fun _ _ _ _ => (@zg _ _ _ _ _ _ _ _ (@zy _) (@pvx _ 0 _ _ rfl) (@pvx _ 1 _ _ rfl))) (by intro _; rfl)) (@ze _) (by rfl)) (by decide) (by decide) (by rfl) (by rfl)))),?_⟩
  obtain ⟨ms,ems,lms⟩:=zej ds none (some k)
  refine ⟨_,rfl,_,rfl,_,rfl,a,_,rfl,ha,fun z hz => ?_⟩
  rw [ems]
  have s4:=zd (o:=.lst (ms.map V.int)) hz
  refine ⟨z,rfl,⟨_,SqL.of zb⟩,zbH (K:=K) (xs:=ms.map V.int) (fs:=ms.map fun d => V.int (d % p)) (SqL.of zb) (by rw [List.length_map,List.length_map]) (by rw [List.length_map]; omega) ?_ ?_⟩
  ·intro j x y R B hx hy hR
   obtain ⟨c,_,rfl,rfl⟩:=zek hx hy
   refine gY ?_
   exact ⟨_,rfl,_,rfl,_,_,rfl,rfl,p0,hR⟩
  intro D hD
  have epol : (ms.map fun d => V.int (d % p)) = (ms.map (· % p)).map V.int:=by rw [List.map_map]; rfl
  rw [epol]
  refine ⟨D,_,rfl,.inl ⟨SqL.of zb,fun po hpo => ?_⟩⟩
  have s5:=s4.trans (zd (o:=.lst ((ms.map (· % p)).map V.int)) hD)
  refine q po _ _ (s5.free hpo) (s5.trans (zd hpo)) ⟨by rw [List.length_map]; exact lms,fun x hx => ?_⟩ zb
  obtain ⟨d,_,rfl⟩:=List.mem_map.mp hx
  exact ⟨Int.emod_nonneg _ (by omega),Int.emod_lt_of_pos _ p0⟩
def zg1 (K : PySem.W.Frag) : Sp:=fun vs H Q _ => ∃ (a c tt : Addr) (ns : List Int) (at' p k : Int) (pl : List Int),vs = [.ref a,.int at',.ref c] ∧ SqL K H a (ns.map V.int) ∧ ns.length ≤ 63 ∧ 0 ≤ at' ∧ at' ≤ 900 ∧ zbj H c tt p k pl ∧ 0 < p ∧ p ≤ 97 ∧ (∀ x ∈ pl,0 ≤ x ∧ x < p) ∧ pl.length ≤ 16 ∧
 ∀ (l : Addr) (rw : List (Option Int)) (H' : Hp),H l = none → zx H H' → rw.length = pl.length → (∀ z,some z ∈ rw → 0 ≤ z ∧ z < p) → H' l = some (.lst (rw.map enc)) → Q (.ref l) H'
theorem ziW {a b m : Int} (h0 : 0 ≤ m) (h1 : m < 6) (a0 : 0 ≤ a) (a1 : a < 3) (b0 : 0 ≤ b) (b1 : b < 3) : ∃ z : Int,atI [V.int 0,.int 0,.int a,.int b,.int 0,.int 0] m = some (.int z) ∧ 0 ≤ z ∧ z < 3:=by
 have : m = 0 ∨ m = 1 ∨ m = 2 ∨ m = 3 ∨ m = 4 ∨ m = 5:=by omega
 rcases this with e | e | e | e | e | e <;> subst e
 ·exact ⟨0,rfl,by decide,by decide⟩
 ·exact ⟨0,rfl,by decide,by decide⟩
 ·exact ⟨a,rfl,a0,a1⟩
 ·exact ⟨b,rfl,b0,b1⟩
 ·exact ⟨0,rfl,by decide,by decide⟩
 ·exact ⟨0,rfl,by decide,by decide⟩
theorem zhO {m : Int} (h0 : 0 ≤ m) (h1 : m < 6) : ∃ z : Int,atI [V.int 4,.int 9,.int 9,.int 9,.int 2,.int 1] m = some (.int z) ∧ 0 < z:=by
 have : m = 0 ∨ m = 1 ∨ m = 2 ∨ m = 3 ∨ m = 4 ∨ m = 5:=by omega
 rcases this with e | e | e | e | e | e <;> subst e <;> exact ⟨_,rfl,by decide⟩
theorem zhP {m : Int} (h0 : 0 ≤ m) (h1 : m < 2) : ∃ z : Int,atI [V.int 9,.int 3] m = some (.int z) ∧ 0 < z:=by
 have : m = 0 ∨ m = 1:=by omega
 rcases this with e | e <;> subst e <;> exact ⟨_,rfl,by decide⟩
theorem zjz (n : Nat) : (List.replicate n [V.non]).flatten = (List.replicate n (none : Option Int)).map enc:=by
 induction n with
 | zero => rfl
 | succ n ih => rw [List.replicate_succ,List.flatten_cons,ih,List.replicate_succ]; rfl
def zd2 (H : Hp) (on : Addr) : Prop:=∃ os : List Addr,os.length = 3 ∧ H on = some (.lst (os.map V.ref)) ∧ ∀ o ∈ os,∃ ms : List Int,H o = some (.tup (ms.map V.int))
theorem zd2.same {H H' : Hp} {on : Addr} (s : zx H H') (h : zd2 H on) : zd2 H' on:=by
 obtain ⟨os,h1,h2,h3⟩:=h
 exact ⟨os,h1,s _ _ h2,fun o ho => let ⟨ms,e⟩:=h3 o ho; ⟨ms,s _ _ e⟩⟩
theorem zg2 {p : Int} {rw : List (Option Int)} (h : ∀ z,some z ∈ rw → 0 ≤ z ∧ z < p) : ∀ z,some z ∈ rw ++ [none] → 0 ≤ z ∧ z < p:=by
 intro z hz
 rcases List.mem_append.mp hz with m | m
 ·exact h z m
 ·cases List.mem_singleton.mp m
theorem zez {p i : Int} {rw : List (Option Int)} (h : ∀ z,some z ∈ rw → 0 ≤ z ∧ z < p) (hi : 0 ≤ i ∧ i < p) : ∀ z,some z ∈ rw ++ [some i] → 0 ≤ z ∧ z < p:=by
 intro z hz
 rcases List.mem_append.mp hz with m | m
 ·exact h z m
 ·cases List.mem_singleton.mp m
  exact hi
theorem zeA {p x : Int} {cs : List Int} (hp : 0 < p) : 0 ≤ zn p x cs ∧ zn p x cs < p:=⟨zad hp cs,zae hp cs⟩
theorem z7 : FnScope ["script","at","code","p","k","places","plan","ones","slips","way","row","number","which","entry"] ["script","at","code"] (zi zb7):=⟨rfl,rfl,rfl,by decide +kernel,rfl,by decide +kernel,by decide +kernel⟩
theorem zg3 {fd : FuncData} (T : Txt K mg t) (F : Fun K "_law_row" "_law_row" zb7 t.l_row fd) : FnOk P w K mg base CX0 3 t.l_row fd ["script","at","code"] (zg1 K):=by
 obtain ⟨fd_l_draws,F_l_draws,b_l_draws⟩:=T.f_l_draws
 have G_l_draws:=zc2 (P:=P) (w:=w) (base:=base) T F_l_draws
 obtain ⟨fd_l_polynomial,F_l_polynomial,b_l_polynomial⟩:=T.f_l_polynomial
 have G_l_polynomial:=zcr (P:=P) (w:=w) (base:=base) T F_l_polynomial
 obtain ⟨fd_l_value,F_l_value,b_l_value⟩:=T.f_l_value
 have G_l_value:=zc3 (P:=P) (w:=w) (base:=base) T F_l_value
 refine F.ok z7 (fun vs H Q E h => ?_) (fun cdv A outer s H vs Q E hr h => ?_)
 ·obtain ⟨a,c,tt,ns,at',p,k,pl,rfl,_⟩:=h
  rfl
 ·obtain ⟨a,c,tt,ns,at',p,k,pl,rfl,hS,hlen,a0,a1,hc,p0,p1,hpl,hn,q⟩:=h
  refine ⟨_,(@zc _ _ _ _ _ (@zaR _ _ _ _ _ _ (@pvx _ 2 _ _ rfl) (@zau _ _ _ _ _ _ rfl (@zl _ _ _ _ _ (@zh _ _ (3) _ z7.nd rfl (Or.inr rfl) (by trivial)) (@zl _ _ _ _ _ (@zh _ _ (4) _ z7.nd rfl (Or.inr rfl) (by trivial)) (@zl _ _ _ _ _ (@zh _ _ (5) _ z7.nd rfl (Or.inl rfl) (by trivial)) (@zR _) (by rfl)) (by rfl)) (by rfl)) (by rfl) (by rfl)) (by rfl) (by rfl) (by rfl)) (by exact (@zc _ _ _ _ _ (@zm _ _ (6) _ _ _ _ z7.nd rfl (Or.inr rfl) (@zu _ _ _ _ _ _ _ _ _ _ _ _ _ _ _ _ G_l_draws (hr.mono (by decide)) rfl T.m_l_draws F_l_draws.kp b_l_draws .nil (@zP _) (@za _ _ _ _ _ (@pvx _ 0 _ _ rfl) (by exact (@za _ _ _ _ _ (@pvx _ 1 _ _ rfl) (@za _ _ _ _ _ (@zf _ _ _ _) (@za _ _ _ _ _ (@zf _ _ _ _) (@ze _) (by rfl)) (by rfl)) (by rfl))) (by rfl)) (by decide) (by rfl) (by rfl)) (by rfl) (by trivial)) (by exact (@zc _ _ _ _ _ (@zac _ _ _ _ _ _ _ _ _ _ _ _ _ (7) _ _ _ z7.nd rfl (Or.inl rfl) (CompSc.of (N':=["j","plan","p","k"]) (ix:=[none,some 6,some 3,some 4]) (zi zb7) ["script","at","code","p","k","places","plan","ones","slips","way","row","number","which","entry"] rfl rfl (by decide +kernel)) rfl (@z8 _ _ rfl) (@zay _ _ _ _ _ _ rfl T.range_ (@za _ _ _ _ _ (@zf _ _ _ _) (@ze _) (by rfl)) (by rfl)) (fun _ _ _ _ => (@zh _ _ (0) _ (show (["j","plan","p","k"] : List Str).Nodup by decide +kernel) rfl (Or.inl rfl) (by trivial))) (fun _ _ _ _ => (@zI _)) (fun _ _ _ _ => (@zu _ _ _ _ _ _ _ _ _ _ _ _ _ _ _ _ G_l_polynomial (hr.mono (by decide)) rfl T.m_l_polynomial F_l_polynomial.kp b_l_polynomial .nil (@zP _) (@za _ _ _ _ _ (@zaN _ _ _ _ _ _ _ _ _ _ (zec (K:=K) rfl) (@pvx _ 1 _ _ rfl) (@zaS _ _ _ (@zg _ _ _ _ _ _ _ _ (@zJ _) (@zf _ _ _ _) (@pvx _ 0 _ _ rfl))) (@zbg _)) (@za _ _ _ _ _ (@pvx _ 2 _ _ rfl) (@za _ _ _ _ _ (@pvx _ 3 _ _ rfl) (@ze _) (by rfl)) (by rfl)) (by rfl)) (by decide) (by rfl) (by rfl))) (by rfl) (by intro _; rfl) (by trivial)) (by exact (@zc _ _ _ _ _ (@zm _ _ (8) _ _ _ _ z7.nd rfl (Or.inl rfl) (@zu _ _ _ _ _ _ _ _ _ _ _ _ _ _ _ _ G_l_draws (hr.mono (by decide)) rfl T.m_l_draws F_l_draws.kp b_l_draws .nil (@zP _) (@za _ _ _ _ _ (@pvx _ 0 _ _ rfl) (by exact (@za _ _ _ _ _ (@zg _ _ _ _ _ _ _ _ (@zE _) (@pvx _ 1 _ _ rfl) (@zf _ _ _ _)) (@za _ _ _ _ _ (@zf _ _ _ _) (@za _ _ _ _ _ (@zf _ _ _ _) (@ze _) (by rfl)) (by rfl)) (by rfl))) (by rfl)) (by decide) (by rfl) (by rfl)) (by rfl) (by trivial)) (by exact (@zc _ _ _ _ _ (@zm _ _ (9) _ _ _ _ z7.nd rfl (Or.inl rfl) (@zg _ _ _ _ _ _ _ _ (@zy _) (@zA _ _ _ _ _ _ _ (@zq _) (@pvx _ 8 _ _ rfl) (@zf _ _ _ _) (fun _ _ => rfl)) (@zf _ _ _ _)) (by rfl) (by trivial)) (by exact (@zc _ _ _ _ _ (@zm _ _ (10) _ _ _ _ z7.nd rfl (Or.inl rfl) (@zU _ _ _ _ (@ze _)) (by rfl) (by trivial)) (by exact (@zc _ _ _ _ _ (@zaz _ _ _ _ _ _ _ _ PassesOwn.never rfl (@zay _ _ _ _ _ _ rfl T.range_ (@za _ _ _ _ _ (@zz _ _ _ _ _ _ _ _ _ (@zr _) (by rfl) T.len_ boot_len (@za _ _ _ _ _ (@pvx _ 5 _ _ rfl) (@ze _) (by rfl)) (by decide) (by decide) (by rfl) (by rfl)) (@ze _) (by rfl)) (by rfl)) (@zh _ _ (11) _ z7.nd rfl (Or.inl rfl) (by trivial)) (@zc _ _ _ _ _ (@zm _ _ (12) _ _ _ _ z7.nd rfl (Or.inl rfl) (@zA _ _ _ _ _ _ _ (@zq _) (@zU _ _ _ _ (@zbT _ _ _ _ _ _ (by exact (@zbT _ _ _ _ _ _ (by exact (@za _ _ _ _ _ (@zg _ _ _ _ _ _ _ _ (@zy _) (@zA _ _ _ _ _ _ _ (@zq _) (@pvx _ 8 _ _ rfl) (@pvx _ 11 _ _ rfl) (fun _ _ => rfl)) (@zf _ _ _ _)) (by exact (@za _ _ _ _ _ (@zg _ _ _ _ _ _ _ _ (@zy _) (@zA _ _ _ _ _ _ _ (@zq _) (@pvx _ 8 _ _ rfl) (@pvx _ 11 _ _ rfl) (fun _ _ => rfl)) (@zf _ _ _ _)) (@za _ _ _ _ _ (@zf _ _ _ _) (@za _ _ _ _ _ (@zf _ _ _ _) (@ze _) (by rfl)) (by rfl)) (by rfl))) (by rfl))))))) (@pvx _ 9 _ _ rfl) (fun _ _ => rfl)) (by rfl) (by trivial)) (by exact (@zc _ _ _ _ _ (@zm _ _ (13) _ _ _ _ z7.nd rfl (Or.inl rfl) (@zu _ _ _ _ _ _ _ _ _ _ _ _ _ _ _ _ G_l_value (hr.mono (by decide)) rfl T.m_l_value F_l_value.kp b_l_value .nil (@zP _) (@za _ _ _ _ _ (@pvx _ 3 _ _ rfl) (@za _ _ _ _ _ (@zA _ _ _ _ _ _ _ (@zq _) (@pvx _ 7 _ _ rfl) (@pvx _ 12 _ _ rfl) (fun _ _ => rfl)) (@za _ _ _ _ _ (@zA _ _ _ _ _ _ _ (@zbh _) (@pvx _ 5 _ _ rfl) (@pvx _ 11 _ _ rfl) (fun _ _ => rfl)) (@ze _) (by rfl)) (by rfl)) (by rfl)) (by decide) (by rfl) (by rfl)) (by rfl) (by trivial)) (by exact (@zc _ _ _ _ _ (@zaM _ _ _ _ _ _ _ _ (@zB _ _ _ _ _ _ _ _ (@zcH _) (@zg _ _ _ _ _ _ _ _ (@zy _) (@zg _ _ _ _ _ _ _ _ (@zct _) (@zA _ _ _ _ _ _ _ (@zq _) (@pvx _ 8 _ _ rfl) (@pvx _ 11 _ _ rfl) (fun _ _ => rfl)) (@zf _ _ _ _)) (@zA _ _ _ _ _ _ _ (@zq _) (@zU _ _ _ _ (@zbT _ _ _ _ _ _ (by exact (@zbT _ _ _ _ _ _ (by exact (@zbT _ _ _ _ _ _ (by exact (@za _ _ _ _ _ (@zf _ _ _ _) (@za _ _ _ _ _ (@zf _ _ _ _) (@za _ _ _ _ _ (@zf _ _ _ _) (@ze _) (by rfl)) (by rfl)) (by rfl))))))))) (@pvx _ 9 _ _ rfl) (fun _ _ => rfl))) (@zf _ _ _ _) (zK _)) (@zj _ _ _ (@zm _ _ (13) _ _ _ _ z7.nd rfl (Or.inl rfl) (@zg _ _ _ _ _ _ _ _ (@zy _) (@zg _ _ _ _ _ _ _ _ (@zct _) (@zA _ _ _ _ _ _ _ (@zq _) (@pvx _ 8 _ _ rfl) (@pvx _ 11 _ _ rfl) (fun _ _ => rfl)) (@zf _ _ _ _)) (@pvx _ 3 _ _ rfl)) (by rfl) (by trivial))) (@zZ _)) (by exact (@zc _ _ _ _ _ (@zaM _ _ _ _ _ _ _ _ (@PW.pt _ _ _ (@zeH _ _ _ _ _ _ _ (@zB _ _ _ _ _ _ _ _ (@zcH _) (@zg _ _ _ _ _ _ _ _ (@zy _) (@zg _ _ _ _ _ _ _ _ (@zct _) (@zA _ _ _ _ _ _ _ (@zq _) (@pvx _ 8 _ _ rfl) (@pvx _ 11 _ _ rfl) (fun _ _ => rfl)) (@zf _ _ _ _)) (@zA _ _ _ _ _ _ _ (@zq _) (@zU _ _ _ _ (@za _ _ _ _ _ (@zf _ _ _ _) (@za _ _ _ _ _ (@zf _ _ _ _) (@ze _) (by rfl)) (by rfl))) (@zg _ _ _ _ _ _ _ _ (@zy _) (@zA _ _ _ _ _ _ _ (@zq _) (@pvx _ 8 _ _ rfl) (@zf _ _ _ _) (fun _ _ => rfl)) (@zf _ _ _ _)) (fun _ _ => rfl))) (@zf _ _ _ _) (zK _)) (@zdG _ _ _ _ (@zB _ _ _ _ _ _ _ _ (@zfc _) (@zg _ _ _ _ _ _ _ _ (@zy _) (@zA _ _ _ _ _ _ _ (@zq _) (@pvx _ 8 _ _ rfl) (@zf _ _ _ _) (fun _ _ => rfl)) (@zf _ _ _ _)) (@zf _ _ _ _) (zK _))))) (@zj _ _ _ (@zm _ _ (13) _ _ _ _ z7.nd rfl (Or.inl rfl) (@zbq _ _ _) (by rfl) (by trivial))) (@zZ _)) (by exact (@zj _ _ _ (@zbD _ _ _ _ (@zcN _ _ _ _ _ _ _ _ _ _ _ _ PySem.F.plainAttrs_list PySem.F.slot_list_append PySem.F.type_list_append (@zaV _) (@pvx _ 10 _ _ rfl) (@za _ _ _ _ _ (@pvx _ 13 _ _ rfl) (@ze _) (by rfl)) (by rfl) (by rfl) (by rfl) (by rfl) (by rfl)) (by rfl))))))))))) (by intro _; rfl)) (by exact (@zj _ _ _ (@zG _ _ _ _ (@zcE _ _ _ _ _ _ _ _ (@zB _ _ _ _ _ _ _ _ (@zcH _) (@zg _ _ _ _ _ _ _ _ (@zy _) (@zA _ _ _ _ _ _ _ (@zq _) (@pvx _ 8 _ _ rfl) (@zf _ _ _ _) (fun _ _ => rfl)) (@zf _ _ _ _)) (@zf _ _ _ _) (zK _)) (@zg _ _ _ _ _ _ _ _ (@zdM _) (@zU _ _ _ _ (@za _ _ _ _ _ (@zbq _ _ _) (@ze _) (by rfl))) (@zz _ _ _ _ _ _ _ _ _ (@zr _) (by rfl) T.len_ boot_len (@za _ _ _ _ _ (@pvx _ 10 _ _ rfl) (@ze _) (by rfl)) (by decide) (by decide) (by rfl) (by rfl))) (@pvx _ 10 _ _ rfl)))))))))))))))))),?_⟩
  have hsl:=sizeLine_eq
  refine ⟨_,rfl,c,_,rfl,SqT.of hc.1,rfl,_,_,rfl,_,_,rfl,_,_,rfl,rfl,?_⟩
  refine ⟨_,rfl,_,rfl,a,ns,at',16,27720,rfl,hS,hlen,a0,by omega,by decide,by decide,by decide,by decide,fun l ds H1 hl s1 hd h1l => ?_⟩
  have hdl : ds.length = 16:=hd.1
  refine ⟨3,rfl,by decide,by decide,z0 (n:=3) (fun i ys H' => zx H1 H' ∧ ∃ os : List Addr,os.length = i ∧ ys = os.map V.ref ∧ ∀ o ∈ os,∃ ms : List Int,H' o = some (.tup (ms.map V.int))) ⟨fun _ _ e => e,[],rfl,rfl,by simp⟩ (fun i ys H' hi _ => hi) (fun ys H' _ => Nat.le_refl _) ?_ ?_⟩
  ·rintro i xx ys H4 H5 hi ⟨s4,os,ho,rfl,hos⟩ ⟨rfl,rfl⟩
   refine gY ?_
   refine ⟨_,rfl,_,rfl,_,_,rfl,rfl,.inl ⟨by decide,by decide⟩,_,rfl,l,_,rfl,SqL.of (s4 _ _ h1l),fun z hz => ?_⟩
   obtain ⟨ms,ems,lms⟩:=zej ds (some (3 * (0 + (i : Int)))) none
   rw [ems]
   refine ⟨_,rfl,_,rfl,z,ms,p,k,rfl,SqL.of zb,by omega,p0,fun po poly H6 hpo s6 _ h6 => ?_⟩
   have s5:=(zd (o:=.lst (ms.map V.int)) hz).trans s6
   refine ⟨zV (by rw [List.length_map]; omega),s4.trans s5,os ++ [po],by rw [List.length_append,ho]; rfl,by rw [List.map_append]; rfl,fun o hm => ?_⟩
   rcases (List.mem_append.mp hm) with hm | hm
   ·obtain ⟨m2,e⟩:=hos o hm
    exact ⟨m2,s5 _ _ e⟩
   ·rw [List.mem_singleton.mp hm]; exact ⟨poly,h6⟩
  ·rintro ys H4 on ⟨s4,os,ho,rfl,hos⟩ hon
   have s5:=s1.trans (s4.trans (zd (o:=.lst (os.map V.ref)) hon))
   have hones : zd2 (upd H4 on (.lst (os.map V.ref))) on:=⟨os,ho,zb,fun o hm => let ⟨ms,e⟩:=hos o hm; ⟨ms,(zd hon) _ _ e⟩⟩
   generalize upd H4 on (.lst (os.map V.ref)) = H5 at s5 hones ⊢
   refine ⟨_,rfl,_,rfl,_,_,rfl,rfl,a,ns,at' + 1,20,27720,rfl,s5.seq hS,hlen,by omega,by omega,by decide,by decide,by decide,by decide,fun sl es H6 hsl6 s6 he h6s => ?_⟩
   have hel : es.length = 20:=he.1
   have her:=he.2
   have eat : ∀ m : Int,0 ≤ m → m < 20 → ∃ c : Int,atI (es.map V.int) m = some (.int c):=fun m h0 h1 => zcv h0 (by omega)
   obtain ⟨d16,e16⟩:=eat 16 (by decide) (by decide)
   obtain ⟨d17,e17⟩:=eat 17 (by decide) (by decide)
   obtain ⟨d18,e18⟩:=eat 18 (by decide) (by decide)
   obtain ⟨d19,e19⟩:=eat 19 (by decide) (by decide)
   have w0:=Int.emod_nonneg d16 (show (6 : Int) ≠ 0 by decide)
   have w1:=Int.emod_lt_of_pos d16 (show (0 : Int) < 6 by decide)
   refine ⟨_,rfl,sl,_,_,_,rfl,rfl,SqL.of h6s,e16,_,_,rfl,rfl,(by show (0 : Int) < 6; decide),?_⟩
   obtain ⟨way,hway⟩ : ∃ way,d16 % 6 = way:=⟨_,rfl⟩
   rw [hway] at w0 w1
   refine ⟨Nat.zero_le _,fun ro hro => ?_⟩
   have hslro : sl ≠ ro:=zD h6s hro
   have hroH : H ro = none:=(s5.trans s6).free hro
   have hro5 : H5 ro = none:=s6.free hro
   refine ⟨_,rfl,tt,_,rfl,.inr (SqT.of ((((s5.trans s6).trans (zd hro))) _ _ hc.2)),_,rfl,by rw [List.length_map]; omega,by rw [List.length_map]; omega,?_⟩
   rw [List.length_map,Int.toNat_natCast]
   refine za8 (lo:=0) (n:=pl.length) (fun i σ H' => ∃ (rw : List (Option Int)) (v11 v12 v13 : Option V),σ = [some (.ref a),some (.int at'),some (.ref c),some (.int p),some (.int k),some (.ref tt),some (.ref l),some (.ref on),some (.ref sl),some (.int way),some (.ref ro),v11,v12,v13] ∧
    rw.length = i ∧ zx H5 H' ∧ H' ro = some (.lst (rw.map enc)) ∧ H' sl = some (.lst (es.map V.int)) ∧ ∀ z,some z ∈ rw → 0 ≤ z ∧ z < p)
    ⟨[],none,none,none,by subst hway; rfl,rfl,s6.trans (zd hro),zb,by rw [zo hslro]; exact h6s,fun z hz => by simp at hz⟩ ?_ ?_
   ·rintro i σ H7 hi ⟨rw,v11,v12,v13,rfl,hrl,s7,h7r,h7s,hrg⟩
    obtain ⟨di,ei⟩:=eat (0 + (i : Int)) (by omega) (by omega)
    obtain ⟨x,hx⟩ : ∃ x,pl[i]? = some x:=⟨pl[i]'hi,by simp⟩
    obtain ⟨x0,x1⟩:=hpl x (List.mem_of_getElem? hx)
    have hxat : atI (pl.map V.int) (0 + (i : Int)) = some (.int x):=by rw [Int.zero_add]; exact zS (by rw [List.getElem?_map,hx]; rfl)
    have m20:=Int.emod_nonneg di (show (2 : Int) ≠ 0 by decide)
    have m21:=Int.emod_lt_of_pos di (show (0 : Int) < 2 by decide)
    have m30:=Int.emod_nonneg di (show (3 : Int) ≠ 0 by decide)
    have m31:=Int.emod_lt_of_pos di (show (0 : Int) < 3 by decide)
    obtain ⟨wh,ewh,wh0,wh1⟩:=ziW w0 w1 m20 (by omega) m30 m31
    refine ⟨_,rfl,_,rfl,sl,_,_,_,rfl,rfl,SqL.of h7s,ei,_,_,rfl,rfl,(by show (0 : Int) < 2; decide),_,rfl,_,rfl,sl,_,_,_,rfl,rfl,SqL.of h7s,ei,_,_,rfl,rfl,(by show (0 : Int) < 3; decide),by show 6 ≤ sizeLine; omega,fun l6 hl6 => ?_⟩
    refine ⟨_,rfl,l6,_,_,_,rfl,rfl,SqL.of zb,ewh,?_⟩
    have s8:=s7.trans (zd (o:=.lst [.int 0,.int 0,.int (di % 2),.int (di % 3),.int 0,.int 0]) hl6)
    have h8r:=(zd (o:=.lst [.int 0,.int 0,.int (di % 2),.int (di % 3),.int 0,.int 0]) hl6) _ _ h7r
    have h8s:=(zd (o:=.lst [.int 0,.int 0,.int (di % 2),.int (di % 3),.int 0,.int 0]) hl6) _ _ h7s
    obtain ⟨H8,hH8⟩ : ∃ H8,H8 = upd H7 l6 (.lst [.int 0,.int 0,.int (di % 2),.int (di % 3),.int 0,.int 0]):=⟨_,rfl⟩
    rw [← hH8] at s8 h8r h8s ⊢
    have hc8:=hc.same (s5.trans s8)
    obtain ⟨os8,o1,o2,o3⟩:=hones.same s8
    obtain ⟨ow,how⟩ : ∃ ow,os8[wh.toNat]? = some ow:=⟨os8[wh.toNat]'(by omega),by simp⟩
    obtain ⟨mw,hmw⟩:=o3 ow (List.mem_of_getElem? how)
    have hoat : atI (os8.map V.ref) wh = some (.ref ow):=by
     have e : ((wh.toNat : Nat) : Int) = wh:=by omega
     rw [← e]
     exact zS (by rw [List.getElem?_map,how]; rfl)
    refine ⟨_,rfl,_,rfl,_,rfl,on,_,_,_,rfl,rfl,SqL.of o2,hoat,_,rfl,_,rfl,tt,_,_,_,rfl,rfl,SqT.of hc8.2,hxat,p,x,ow,mw,rfl,.inr (SqT.of hmw),p0,p1,x0,x1,?_⟩
    obtain ⟨z6,ez6,z60⟩:=zhO w0 w1
    refine ⟨_,rfl,_,rfl,sl,_,_,_,rfl,rfl,SqL.of h8s,ei,_,_,rfl,rfl,⟨by decide,by decide⟩,by show 6 ≤ sizeLine; omega,fun l7 hl7 => ?_⟩
    have u7:=zd (o:=.lst [.int 4,.int 9,.int 9,.int 9,.int 2,.int 1]) hl7
    refine ⟨_,rfl,l7,_,_,_,rfl,rfl,SqL.of zb,ez6,_,_,rfl,rfl,z60,rfl,_,rfl,?_⟩
    have s9:=s8.trans u7
    have h9r:=u7 _ _ h8r
    have h9s:=u7 _ _ h8s
    generalize upd H8 l7 (.lst [.int 4,.int 9,.int 9,.int 9,.int 2,.int 1]) = H9 at s9 h9r h9s ⊢
    have t0:=Int.emod_nonneg d17 (show (2 : Int) ≠ 0 by decide)
    have t1:=Int.emod_lt_of_pos d17 (show (0 : Int) < 2 by decide)
    obtain ⟨z2,ez2,z20⟩:=zhP t0 t1
    refine zaa (fun _ => ⟨_,rfl,_,rfl,sl,_,_,_,rfl,rfl,SqL.of h9s,ei,_,_,rfl,rfl,⟨by decide,by decide⟩,_,rfl,_,_,rfl,rfl,p0,?_⟩) (fun _ => ?_)
    all_goals
     refine ⟨_,rfl,_,rfl,sl,_,_,_,rfl,rfl,SqL.of h9s,ei,_,_,rfl,rfl,⟨by decide,by decide⟩,zaO,fun l8 hl8 => ?_⟩
     have u8:=zd (o:=.lst [.int 9,.int 3]) hl8
     have sX:=s9.trans u8
     have hXr:=u8 _ _ h9r
     have hXs:=u8 _ _ h9s
     refine ⟨_,rfl,sl,_,_,_,rfl,rfl,SqL.of hXs,e17,_,_,rfl,rfl,(by show (0 : Int) < 2; decide),l8,_,_,_,rfl,rfl,SqL.of zb,ez2,_,_,rfl,rfl,z20,rfl,_,rfl,?_⟩; refine zaa (fun _ => ?_) (fun _ => ?_)
     ·refine ⟨_,rfl,sl,_,_,_,rfl,rfl,SqL.of hXs,e18,_,_,rfl,rfl,(by show (0 : Int) < 3; decide),_,_,rfl,rfl,_,rfl,?_⟩; refine zaa (fun _ => ?_) (fun _ => ?_)
      ·exact ⟨_,rfl,.inl ⟨rfl,_,SqL.of hXr⟩,_,rfl,ro,_,_,rfl,rfl,hXr,zV (by rw [List.length_map]; omega),rw ++ [none],_,_,_,rfl,by rw [List.length_append,hrl]; rfl,zX sX hro5,by rw [zb,List.map_append]; rfl,by rw [zo hslro]; exact hXs,zg2 hrg⟩
      ·exact ⟨_,rfl,.inl ⟨rfl,_,SqL.of hXr⟩,_,rfl,ro,_,_,rfl,rfl,hXr,zV (by rw [List.length_map]; omega),rw ++ [some _],_,_,_,rfl,by rw [List.length_append,hrl]; rfl,zX sX hro5,by rw [zb,List.map_append]; rfl,by rw [zo hslro]; exact hXs,zez hrg (by first | exact ⟨Int.emod_nonneg _ (by omega),Int.emod_lt_of_pos _ p0⟩ | exact zeA p0)⟩
     ·refine zc9 ?_
      exact ⟨_,rfl,.inl ⟨rfl,_,SqL.of hXr⟩,_,rfl,ro,_,_,rfl,rfl,hXr,zV (by rw [List.length_map]; omega),rw ++ [some _],_,_,_,rfl,by rw [List.length_append,hrl]; rfl,zX sX hro5,by rw [zb,List.map_append]; rfl,by rw [zo hslro]; exact hXs,zez hrg (by first | exact ⟨Int.emod_nonneg _ (by omega),Int.emod_lt_of_pos _ p0⟩ | exact zeA p0)⟩
   ·rintro σ H7 ⟨rw,v11,v12,v13,rfl,hrl,s7,h7r,h7s,hrg⟩
    refine ⟨_,rfl,sl,_,_,_,rfl,rfl,SqL.of h7s,e19,_,_,rfl,rfl,(by show (0 : Int) < 30; decide),rfl,_,rfl,?_⟩
    refine zaa (fun _ => ?_) (fun _ => ⟨_,rfl,q ro rw H7 hroH (s5.trans s7) hrl hrg h7r⟩)
    refine ⟨by show 1 ≤ sizeLine; omega,fun z hz => ⟨_,rfl,ro,_,rfl,.inl (SqL.of ((zd hz) _ _ h7r)),z,_,[.non],rfl,rfl,zb,by rw [List.length_map]; omega,by rw [List.length_map]; omega,by rw [List.length_map]; show 1 * _ ≤ sizeLine; omega,fun y hy => ?_⟩⟩
    have s8:=(s5.trans s7).trans (zd (o:=.lst [.non]) hz)
    refine q y (List.replicate pl.length none) _ (s8.free hy) (s8.trans (zd hy)) (by rw [List.length_replicate]) (fun z hz => by cases List.eq_of_mem_replicate hz) ?_
    rw [zb,List.length_map,zjz,hrl,Int.toNat_natCast]
theorem za4 : FnScope ["p","polynomial","x","value","number"] ["p","polynomial","x"] (zi zbl):=⟨rfl,rfl,rfl,by decide +kernel,rfl,by decide +kernel,by decide +kernel⟩
theorem zcl {fd : FuncData} (T : Txt K mg t) (F : Fun K "value_at" "value_at" zbl t.value_at fd) : FnOk P w K mg base CX0 1 t.value_at fd ["p","polynomial","x"] (zck K):=by
 refine F.ok za4 (fun vs H Q E h => ?_) (fun cdv A outer s H vs Q E hr h => ?_)
 ·obtain ⟨p,x,a,cs,rfl,_⟩:=h
  rfl
 ·obtain ⟨p,x,a,cs,rfl,hS,p0,p1,x0,x1,q⟩:=h
  refine ⟨_,(@zc _ _ _ _ _ (@zm _ _ (3) _ _ _ _ za4.nd rfl (Or.inl rfl) (@zf _ _ _ _) (by rfl) (by trivial)) (by exact (@zc _ _ _ _ _ (@zaz _ _ _ _ _ _ _ _ PassesOwn.never rfl (@ziA _ _ _ _ _ _ rfl T.reversed_ (@za _ _ _ _ _ (@pvx _ 1 _ _ rfl) (@ze _) (by rfl)) (by rfl)) (@zh _ _ (4) _ za4.nd rfl (Or.inl rfl) (by trivial)) (@zj _ _ _ (@zm _ _ (3) _ _ _ _ za4.nd rfl (Or.inl rfl) (@zg _ _ _ _ _ _ _ _ (@zy _) (@zg _ _ _ _ _ _ _ _ (@zE _) (@zg _ _ _ _ _ _ _ _ (@zJ _) (@pvx _ 3 _ _ rfl) (@pvx _ 2 _ _ rfl)) (@pvx _ 4 _ _ rfl)) (@pvx _ 0 _ _ rfl)) (by rfl) (by trivial))) (by intro _; rfl)) (by exact (@zj _ _ _ (@zG _ _ _ _ (@pvx _ 3 _ _ rfl))))))),?_⟩
  refine ⟨_,rfl,a,cs.map V.int,rfl,?_⟩
  rcases hS with hS | hS
  ·refine .inl ⟨hS,?_⟩
   rw [List.length_map]
   refine zca (n:=cs.length) (fun i σ H' => H' = H ∧ ∃ nb,σ = [some (.int p),some (.ref a),some (.int x),some (.int (zn p x (cs.drop (cs.length - i)))),nb]) ⟨rfl,none,by rw [Nat.sub_zero,List.drop_length]; rfl⟩
    (fun i σ H' hi ⟨e,_⟩ => ⟨hi,cs.map V.int,by rw [e]; exact hS,by rw [List.length_map]⟩) (fun σ H' _ => Nat.le_refl _) ?_ ?_
   ·rintro i y σ H1 H2 hi ⟨rfl,nb,rfl⟩ ⟨rfl,hy⟩
    obtain ⟨c,rfl,hc⟩:=zW (hy _ hS)
    have v0:=zad (x:=x) p0 (cs.drop (cs.length - i))
    have v1:=zae (x:=x) p0 (cs.drop (cs.length - i))
    refine ⟨_,rfl,_,rfl,_,_,rfl,rfl,.inl ⟨by omega,by omega⟩,_,rfl,_,_,rfl,rfl,_,rfl,_,_,rfl,rfl,p0,?_⟩
    refine ⟨rfl,some (.int c),?_⟩
    rw [zdB hi hc]
    show _ = [some (V.int p),_,_,some (V.int ((c + x * zn p x (cs.drop (cs.length - i))) % p)),_]
    rw [Int.add_comm c,Int.mul_comm x]
    rfl
   ·rintro σ H1 ⟨rfl,nb,rfl⟩
    rw [Nat.sub_self,List.drop_zero]
    exact ⟨_,rfl,q⟩
  ·refine .inr ⟨hS,?_⟩
   rw [List.length_map]
   refine zca (n:=cs.length) (fun i σ H' => H' = H ∧ ∃ nb,σ = [some (.int p),some (.ref a),some (.int x),some (.int (zn p x (cs.drop (cs.length - i)))),nb]) ⟨rfl,none,by rw [Nat.sub_zero,List.drop_length]; rfl⟩
    (fun i σ H' hi ⟨e,_⟩ => ⟨hi,cs.map V.int,by rw [e]; exact hS,by rw [List.length_map]⟩) (fun σ H' _ => Nat.le_refl _) ?_ ?_
   ·rintro i y σ H1 H2 hi ⟨rfl,nb,rfl⟩ ⟨rfl,hy⟩
    obtain ⟨c,rfl,hc⟩:=zW (hy _ hS)
    have v0:=zad (x:=x) p0 (cs.drop (cs.length - i))
    have v1:=zae (x:=x) p0 (cs.drop (cs.length - i))
    refine ⟨_,rfl,_,rfl,_,_,rfl,rfl,.inl ⟨by omega,by omega⟩,_,rfl,_,_,rfl,rfl,_,rfl,_,_,rfl,rfl,p0,?_⟩
    refine ⟨rfl,some (.int c),?_⟩
    rw [zdB hi hc]
    show _ = [some (V.int p),_,_,some (V.int ((c + x * zn p x (cs.drop (cs.length - i))) % p)),_]
    rw [Int.add_comm c,Int.mul_comm x]
    rfl
   ·rintro σ H1 ⟨rfl,nb,rfl⟩
    rw [Nat.sub_self,List.drop_zero]
    exact ⟨_,rfl,q⟩
theorem zaw : FnScope ["p","number","product","square","left"] ["p","number"] (zi zbM):=⟨rfl,rfl,rfl,by decide +kernel,rfl,by decide +kernel,by decide +kernel⟩
theorem zc4 {fd : FuncData} (T : Txt K mg t) (F : Fun K "inverse" "inverse" zbM t.inverse fd) : FnOk P w K mg base CX0 1 t.inverse fd ["p","number"] (zeU K):=by
 refine F.ok zaw (fun vs H Q E h => ?_) (fun cdv A outer s H vs Q E hr h => ?_)
 ·obtain ⟨p,h,rfl,_⟩:=h
  rfl
 ·obtain ⟨p,hh,rfl,mp,h0,h1,q⟩:=h
  refine ⟨_,(@zc _ _ _ _ _ (@zm _ _ (2) _ _ _ _ zaw.nd rfl (Or.inl rfl) (@zf _ _ _ _) (by rfl) (by trivial)) (by exact (@zc _ _ _ _ _ (@zm _ _ (3) _ _ _ _ zaw.nd rfl (Or.inl rfl) (@zg _ _ _ _ _ _ _ _ (@zy _) (@pvx _ 1 _ _ rfl) (@pvx _ 0 _ _ rfl)) (by rfl) (by trivial)) (by exact (@zc _ _ _ _ _ (@zm _ _ (4) _ _ _ _ zaw.nd rfl (Or.inl rfl) (@zg _ _ _ _ _ _ _ _ (@zbf _) (@pvx _ 0 _ _ rfl) (@zf _ _ _ _)) (by rfl) (by trivial)) (by exact (@zc _ _ _ _ _ (@zcF _ _ _ _ _ _ PassesOwn.never (@zB _ _ _ _ _ _ _ _ (@zfc _) (@pvx _ 4 _ _ rfl) (@zf _ _ _ _) (zK _)) (@zc _ _ _ _ _ (@zaM _ _ _ _ _ _ _ _ (@zB _ _ _ _ _ _ _ _ (@zcH _) (@zg _ _ _ _ _ _ _ _ (@zy _) (@pvx _ 4 _ _ rfl) (@zf _ _ _ _)) (@zf _ _ _ _) (zK _)) (@zj _ _ _ (@zm _ _ (2) _ _ _ _ zaw.nd rfl (Or.inl rfl) (@zg _ _ _ _ _ _ _ _ (@zy _) (@zg _ _ _ _ _ _ _ _ (@zJ _) (@pvx _ 2 _ _ rfl) (@pvx _ 3 _ _ rfl)) (@pvx _ 0 _ _ rfl)) (by rfl) (by trivial))) (@zZ _)) (by exact (@zc _ _ _ _ _ (@zm _ _ (3) _ _ _ _ zaw.nd rfl (Or.inl rfl) (@zg _ _ _ _ _ _ _ _ (@zy _) (@zg _ _ _ _ _ _ _ _ (@zJ _) (@pvx _ 3 _ _ rfl) (@pvx _ 3 _ _ rfl)) (@pvx _ 0 _ _ rfl)) (by rfl) (by trivial)) (by exact (@zj _ _ _ (@zgc _ _ (4) _ _ _ _ _ _ zaw.nd rfl (Or.inl rfl) (@zf _ _ _ _) zgg (by trivial)))))))) (by exact (@zj _ _ _ (@zG _ _ _ _ (@pvx _ 2 _ _ rfl))))))))))),?_⟩
  have rp:=zp mp
  have e0:=Int.emod_nonneg hh (show p ≠ 0 by omega)
  have e1:=Int.emod_lt_of_pos hh (show 0 < p by omega)
  refine ⟨_,rfl,_,rfl,_,_,rfl,rfl,(by show 0 < p; omega),_,rfl,_,_,rfl,rfl,?_⟩
  refine zgf (fun σ H' => H' = H ∧ ∃ (prod sq left : Int) (n : Nat),σ = [some (.int p),some (.int hh),some (.int prod),some (.int sq),some (.int left)] ∧ 0 ≤ prod ∧ prod < p ∧ 0 ≤ sq ∧ sq < p ∧ 0 ≤ left ∧ left < 2 ^ n ∧ zbG p n prod sq left = inv p hh) (fun σ _ => ziH σ)
   ⟨rfl,1,hh % p,p - 2,7,rfl,by omega,by omega,e0,e1,by omega,by omega,rfl⟩ ?_ ?_
  ·rintro σ H1 ⟨rfl,prod,sq,left,n,rfl,b0,b1,s0,s1,l0,l1,hi⟩
   refine ⟨_,rfl,_,_,rfl,rfl,_,rfl,?_⟩
   refine zaa (fun hl => ?_) (fun hl => ?_)
   ·have hl : 0 < left:=by simpa using hl
    obtain ⟨m,rfl⟩ : ∃ m,n = m + 1:=by
     cases n with
     | zero => omega
     | succ m => exact ⟨m,rfl⟩
    rw [zdR hl l1] at hi
    have l2 : left / 2 < 2 ^ m:=by
     have : (2 : Int) ^ (m + 1) = 2 ^ m * 2:=Int.pow_succ ..
     omega
    have m0:=Int.emod_nonneg (prod * sq) (show p ≠ 0 by omega)
    have m1:=Int.emod_lt_of_pos (prod * sq) (show 0 < p by omega)
    have n0:=Int.emod_nonneg (sq * sq) (show p ≠ 0 by omega)
    have n1:=Int.emod_lt_of_pos (sq * sq) (show 0 < p by omega)
    refine ⟨_,rfl,_,_,rfl,rfl,(by show (0 : Int) < 2; decide),rfl,_,rfl,?_⟩; refine zaa (fun ho => ?_) (fun ho => ?_)
    ·have ho : left % 2 = 1:=by simpa using ho
     rw [if_pos ho] at hi
     refine ⟨_,rfl,_,rfl,_,_,rfl,rfl,.inl ⟨by omega,by omega⟩,_,rfl,_,_,rfl,rfl,(by show 0 < p; omega),?_⟩
     refine ⟨_,rfl,_,rfl,_,_,rfl,rfl,.inl ⟨by omega,by omega⟩,_,rfl,_,_,rfl,rfl,(by show 0 < p; omega),?_⟩
     refine ⟨_,rfl,_,_,rfl,rfl,⟨by decide,by decide⟩,⟨rfl,_,_,_,m,rfl,m0,m1,n0,n1,by omega,l2,hi⟩,?_⟩
     show (left / 2).toNat < left.toNat
     omega
    ·have ho : ¬ left % 2 = 1:=by simpa using ho
     rw [if_neg ho] at hi
     refine ⟨_,rfl,_,rfl,_,_,rfl,rfl,.inl ⟨by omega,by omega⟩,_,rfl,_,_,rfl,rfl,(by show 0 < p; omega),?_⟩
     refine ⟨_,rfl,_,_,rfl,rfl,⟨by decide,by decide⟩,⟨rfl,_,_,_,m,rfl,b0,b1,n0,n1,by omega,l2,hi⟩,?_⟩
     show (left / 2).toNat < left.toNat
     omega
   ·have hl : ¬ 0 < left:=by simpa using hl
    have el : left = 0:=by omega
    subst el
    rw [zeh] at hi
    rw [← hi] at q
    exact ⟨_,rfl,q⟩
  ·rintro σ H1 Q1 Q2 hq ⟨v,e,i,j,e1,e2,k,e3,q⟩
   exact ⟨v,e,i,j,e1,e2,k,e3,hq _ _ q⟩
theorem za7 : FnScope ["p","polynomial","root","raised","kept"] ["p","polynomial","root"] (zi zaB):=⟨rfl,rfl,rfl,by decide +kernel,rfl,by decide +kernel,by decide +kernel⟩
theorem zdi {fd : FuncData} (T : Txt K mg t) (F : Fun K "times_root" "times_root" zaB t.times_root fd) : FnOk P w K mg base CX0 1 t.times_root fd ["p","polynomial","root"] (zdf K):=by
 refine F.ok za7 (fun vs H Q E h => ?_) (fun cdv A outer s H vs Q E hr h => ?_)
 ·obtain ⟨p,r,a,cs,rfl,_⟩:=h
  rfl
 ·obtain ⟨p,r,a,cs,rfl,ha,hlen,p0,r0,r1,q⟩:=h
  refine ⟨_,(@zc _ _ _ _ _ (@zm _ _ (3) _ _ _ _ za7.nd rfl (Or.inl rfl) (@zg _ _ _ _ _ _ _ _ (@zcO _) (@zU _ _ _ _ (@za _ _ _ _ _ (@zf _ _ _ _) (@ze _) (by rfl))) (@pvx _ 1 _ _ rfl)) (by rfl) (by trivial)) (by exact (@zc _ _ _ _ _ (@zm _ _ (4) _ _ _ _ za7.nd rfl (Or.inl rfl) (@zg _ _ _ _ _ _ _ _ (@zcO _) (@pvx _ 1 _ _ rfl) (@zU _ _ _ _ (@za _ _ _ _ _ (@zf _ _ _ _) (@ze _) (by rfl)))) (by rfl) (by trivial)) (by exact (@zj _ _ _ (@zG _ _ _ _ (@zao _ _ _ _ _ _ _ _ _ _ _ _ _ (CompSc.of (N':=["high","low","root","p"]) (ix:=[none,none,some 2,some 0]) (zi zaB) ["p","polynomial","root","raised","kept"] rfl rfl (by decide +kernel)) rfl (@zb9 _ _ _ _ (@zaf _ _ _ rfl (@zaf _ _ _ rfl (@zbE _)))) (@zcu _ _ _ _ _ _ _ _ _ rfl T.zip_ (@za _ _ _ _ _ (@pvx _ 3 _ _ rfl) (@za _ _ _ _ _ (@pvx _ 4 _ _ rfl) (@ze _) (by rfl)) (by rfl)) (by rfl) (by rfl)) (fun _ _ _ _ => (@zbF _ (K) _ _ _ (2) _ rfl rfl (@zl _ _ _ _ _ (@zh _ _ (0) _ (show (["high","low","root","p"] : List Str).Nodup by decide +kernel) rfl (Or.inl rfl) (by trivial)) (@zl _ _ _ _ _ (@zh _ _ (1) _ (show (["high","low","root","p"] : List Str).Nodup by decide +kernel) rfl (Or.inl rfl) (by trivial)) (@zR _) (by rfl)) (by rfl)) (by rfl) (by rfl))) (fun _ _ _ _ => (@zI _)) (fun _ _ _ _ => (@zg _ _ _ _ _ _ _ _ (@zy _) (@zg _ _ _ _ _ _ _ _ (@zbf _) (@pvx _ 0 _ _ rfl) (@zg _ _ _ _ _ _ _ _ (@zJ _) (@pvx _ 2 _ _ rfl) (@pvx _ 1 _ _ rfl))) (@pvx _ 3 _ _ rfl))) (by intro _; rfl)))))))),?_⟩
  have hsl:=sizeLine_eq
  refine ⟨by show 1 ≤ sizeLine; omega,fun z hz => ⟨_,rfl,z,a,[.int 0],cs.map V.int,rfl,rfl,zb,by rw [zo (zD ha hz)]; exact ha,by rw [List.length_map]; show 1 + cs.length ≤ sizeLine; omega,fun ra hra => ?_⟩⟩
  have s1 : zx H (upd (upd H z (.lst [.int 0])) ra (.lst ([.int 0] ++ cs.map V.int))):=(zd hz).trans (zd hra)
  refine ⟨_,rfl,by show 1 ≤ sizeLine; omega,fun z2 hz2 => ⟨a,z2,cs.map V.int,[.int 0],rfl,rfl,by rw [zo (zD (s1 _ _ ha) hz2)]; exact s1 _ _ ha,zb,by rw [List.length_map]; show cs.length + 1 ≤ sizeLine; omega,fun ke hke => ?_⟩⟩
  have s2:=s1.trans ((zd (o:=.lst [.int 0]) hz2).trans (zd (o:=.lst (cs.map V.int ++ [.int 0])) hke))
  have hra2 : upd (upd (upd (upd H z (.lst [.int 0])) ra (.lst ([.int 0] ++ cs.map V.int))) z2 (.lst [.int 0])) ke (.lst (cs.map V.int ++ [.int 0])) ra = some (.lst ((0 :: cs).map V.int)) :=
   ((zd (o:=.lst [.int 0]) hz2).trans (zd (o:=.lst (cs.map V.int ++ [.int 0])) hke)) _ _ zb
  have hke2 : upd (upd (upd (upd H z (.lst [.int 0])) ra (.lst ([.int 0] ++ cs.map V.int))) z2 (.lst [.int 0])) ke (.lst (cs.map V.int ++ [.int 0])) ke = some (.lst ((cs ++ [0]).map V.int)):=by rw [zb,List.map_append]; rfl
  generalize upd (upd (upd (upd H z (.lst [.int 0])) ra (.lst ([.int 0] ++ cs.map V.int))) z2 (.lst [.int 0])) ke (.lst (cs.map V.int ++ [.int 0])) = H2 at s2 hra2 hke2 ⊢
  refine ⟨_,rfl,_,rfl,ra,ke,_,_,rfl,SqL.of hra2,SqL.of hke2,z0 (n:=cs.length + 1) (fun i ys H' => ys = ((zb2 p r cs).take i).map V.int ∧ zx H2 H') ⟨by simp,fun _ _ e => e⟩ ?_ ?_ ?_ ?_⟩
  ·rintro i ys H3 hi ⟨_,s3⟩
   obtain ⟨x,hx⟩ : ∃ x,(0 :: cs)[i]? = some x:=⟨(0 :: cs)[i]'(by simpa using hi),by simp⟩
   obtain ⟨y,hy⟩ : ∃ y,(cs ++ [0])[i]? = some y:=⟨(cs ++ [0])[i]'(by simpa using hi),by simp⟩
   exact ⟨_,_,.int x,.int y,SqL.of (s3 _ _ hra2),SqL.of (s3 _ _ hke2),by rw [List.getElem?_map,hx]; rfl,by rw [List.getElem?_map,hy]; rfl⟩
  ·rintro ys H3 ⟨_,s3⟩
   exact ⟨_,_,SqL.of (s3 _ _ hra2),SqL.of (s3 _ _ hke2),.inl (by simp)⟩
  ·rintro i x ys H3 H4 hi ⟨rfl,s3⟩ ⟨T,u,v,hT,rfl,rfl,hu,hv⟩
   obtain ⟨x,rfl,hx⟩:=zW (hu _ (SqL.of (s3 _ _ hra2)))
   obtain ⟨y,rfl,hy⟩:=zW (hv _ (SqL.of (s3 _ _ hke2)))
   refine gY2 (SqT.of zb) ?_
   refine ⟨_,rfl,_,rfl,_,rfl,_,_,rfl,rfl,.inl ⟨by omega,by omega⟩,_,_,rfl,rfl,_,rfl,_,_,rfl,rfl,p0,zV ?_,?_,s3.trans (zd hT)⟩
   ·rw [List.length_map]
    exact Nat.le_trans (List.length_take_le _ _) (by omega)
   ·show _ = (List.take (i + 1) (List.zipWith (trF p r) (0 :: cs) (cs ++ [0]))).map V.int
    rw [zei hx hy,List.map_append]
    rfl
  ·rintro ys H3 D ⟨rfl,s3⟩ hD
   refine q D _ ((s2.trans s3).free hD) ((s2.trans s3).trans (zd hD)) ?_
   rw [zb,List.take_of_length_le (by rw [zdy]; exact Nat.le_refl _)]
theorem zg4 {p f : Int} : ∀ (cs vs : List Int),vs.length ≤ cs.length → ad p f cs vs = List.zipWith (fun number other => (number + f * other) % p) cs vs ++ cs.drop vs.length
 | [],[],_ => rfl
 | _ :: _,[],_ => rfl
 | [],_ :: _,h => by simp at h
 | c :: cs,v :: vs,h => by
  show (c + f * v) % p :: ad p f cs vs = (c + f * v) % p :: (List.zipWith _ cs vs ++ cs.drop vs.length)
  rw [zg4 cs vs (by simpa using h)]
theorem zeB {xs : List V} {k : Nat} (h : k ≤ xs.length) : zaE xs (some (k : Int)) none = xs.drop k:=by
 have e1 : HT.sIx xs.length 0 (some (k : Int)) = k:=by
  unfold HT.sIx
  simp
  split <;> omega
 have e2 : HT.sIx xs.length xs.length none = xs.length:=rfl
 unfold zaE
 rw [e1,e2]
 exact List.take_of_length_le (by rw [List.length_drop]; exact Nat.le_refl _)
def zhQ (K : PySem.W.Frag) : Sp:=fun vs H Q _ => ∃ (p x y : Int) (c v b : Addr) (cs ws : List Int),vs = [.int p,.ref c,.ref v,.ref b] ∧ H c = some (.lst (cs.map V.int)) ∧ H v = some (.lst (ws.map V.int)) ∧ H b = some (.tup [.int x,.int y]) ∧ p ∈ zk ∧ 0 ≤ x ∧ x < p ∧ 0 ≤ y ∧ y < 10000 ∧ 0 < zn p x ws ∧ zn p x ws < p ∧ ws.length ≤ cs.length ∧ cs.length ≤ 1000 ∧
 ∀ (l : Addr) (H' : Hp),H l = none → zx H H' → H' l = some (.lst ((ad p ((y - zn p x cs) * inv p (zn p x ws) % p) cs ws).map V.int)) → Q (.ref l) H'
theorem zbR : FnScope ["p","polynomial","vanishing","point","x","y","missing","factor","added"] ["p","polynomial","vanishing","point"] (zi zc1):=⟨rfl,rfl,rfl,by decide +kernel,rfl,by decide +kernel,by decide +kernel⟩
theorem zhR {fd : FuncData} (T : Txt K mg t) (F : Fun K "bent" "bent" zc1 t.bent fd) : FnOk P w K mg base CX0 2 t.bent fd ["p","polynomial","vanishing","point"] (zhQ K):=by
 obtain ⟨fd_value_at,F_value_at,b_value_at⟩:=T.f_value_at
 have G_value_at:=zcl (P:=P) (w:=w) (base:=base) T F_value_at
 obtain ⟨fd_inverse,F_inverse,b_inverse⟩:=T.f_inverse
 have G_inverse:=zc4 (P:=P) (w:=w) (base:=base) T F_inverse
 refine F.ok zbR (fun vs H Q E h => ?_) (fun cdv A outer s H vs Q E hr h => ?_)
 ·obtain ⟨p,x,y,c,v,b,cs,ws,rfl,_⟩:=h
  rfl
 ·obtain ⟨p,x,y,c,v,b,cs,ws,rfl,hc,hv,hb,mp,x0,x1,y0,y1,g0,g1,hle,hlen,q⟩:=h
  refine ⟨_,(@zc _ _ _ _ _ (@zaR _ _ _ _ _ _ (@pvx _ 3 _ _ rfl) (@zau _ _ _ _ _ _ rfl (@zl _ _ _ _ _ (@zh _ _ (4) _ zbR.nd rfl (Or.inl rfl) (by trivial)) (@zl _ _ _ _ _ (@zh _ _ (5) _ zbR.nd rfl (Or.inl rfl) (by trivial)) (@zR _) (by rfl)) (by rfl)) (by rfl) (by rfl)) (by rfl) (by rfl) (by rfl)) (by exact (@zc _ _ _ _ _ (@zm _ _ (6) _ _ _ _ zbR.nd rfl (Or.inl rfl) (@zg _ _ _ _ _ _ _ _ (@zbf _) (@pvx _ 5 _ _ rfl) (@zu _ _ _ _ _ _ _ _ _ _ _ _ _ _ _ _ G_value_at (hr.mono (by decide)) rfl T.m_value_at F_value_at.kp b_value_at .nil (@zP _) (@za _ _ _ _ _ (@pvx _ 0 _ _ rfl) (@za _ _ _ _ _ (@pvx _ 1 _ _ rfl) (@za _ _ _ _ _ (@pvx _ 4 _ _ rfl) (@ze _) (by rfl)) (by rfl)) (by rfl)) (by decide) (by rfl) (by rfl))) (by rfl) (by trivial)) (by exact (@zc _ _ _ _ _ (@zm _ _ (7) _ _ _ _ zbR.nd rfl (Or.inr rfl) (@zg _ _ _ _ _ _ _ _ (@zy _) (@zg _ _ _ _ _ _ _ _ (@zJ _) (@pvx _ 6 _ _ rfl) (@zu _ _ _ _ _ _ _ _ _ _ _ _ _ _ _ _ G_inverse (hr.mono (by decide)) rfl T.m_inverse F_inverse.kp b_inverse .nil (@zP _) (@za _ _ _ _ _ (@pvx _ 0 _ _ rfl) (@za _ _ _ _ _ (@zu _ _ _ _ _ _ _ _ _ _ _ _ _ _ _ _ G_value_at (hr.mono (by decide)) rfl T.m_value_at F_value_at.kp b_value_at .nil (@zP _) (@za _ _ _ _ _ (@pvx _ 0 _ _ rfl) (@za _ _ _ _ _ (@pvx _ 2 _ _ rfl) (@za _ _ _ _ _ (@pvx _ 4 _ _ rfl) (@ze _) (by rfl)) (by rfl)) (by rfl)) (by decide) (by rfl) (by rfl)) (@ze _) (by rfl)) (by rfl)) (by decide) (by rfl) (by rfl))) (@pvx _ 0 _ _ rfl)) (by rfl) (by trivial)) (by exact (@zc _ _ _ _ _ (@zac _ _ _ _ _ _ _ _ _ _ _ _ _ (8) _ _ _ zbR.nd rfl (Or.inl rfl) (CompSc.of (N':=["number","other","factor","p"]) (ix:=[none,none,some 7,some 0]) (zi zc1) ["p","polynomial","vanishing","point","x","y","missing","factor","added"] rfl rfl (by decide +kernel)) rfl (@zb9 _ _ _ _ (@zaf _ _ _ rfl (@zaf _ _ _ rfl (@zbE _)))) (@zcu _ _ _ _ _ _ _ _ _ rfl T.zip_ (@za _ _ _ _ _ (@pvx _ 1 _ _ rfl) (@za _ _ _ _ _ (@pvx _ 2 _ _ rfl) (@ze _) (by rfl)) (by rfl)) (by rfl) (by rfl)) (fun _ _ _ _ => (@zbF _ (K) _ _ _ (2) _ rfl rfl (@zl _ _ _ _ _ (@zh _ _ (0) _ (show (["number","other","factor","p"] : List Str).Nodup by decide +kernel) rfl (Or.inl rfl) (by trivial)) (@zl _ _ _ _ _ (@zh _ _ (1) _ (show (["number","other","factor","p"] : List Str).Nodup by decide +kernel) rfl (Or.inl rfl) (by trivial)) (@zR _) (by rfl)) (by rfl)) (by rfl) (by rfl))) (fun _ _ _ _ => (@zI _)) (fun _ _ _ _ => (@zg _ _ _ _ _ _ _ _ (@zy _) (@zg _ _ _ _ _ _ _ _ (@zE _) (@pvx _ 0 _ _ rfl) (@zg _ _ _ _ _ _ _ _ (@zJ _) (@pvx _ 2 _ _ rfl) (@pvx _ 1 _ _ rfl))) (@pvx _ 3 _ _ rfl))) (by rfl) (by intro _; rfl) (by trivial)) (by exact (@zj _ _ _ (@zG _ _ _ _ (@zg _ _ _ _ _ _ _ _ (@zcO _) (@pvx _ 8 _ _ rfl) (@zaN _ _ _ _ _ _ _ _ _ _ zb0 (@pvx _ 1 _ _ rfl) (@zaS _ _ _ (@zz _ _ _ _ _ _ _ _ _ (@zr _) (by rfl) T.len_ boot_len (@za _ _ _ _ _ (@pvx _ 8 _ _ rfl) (@ze _) (by rfl)) (by decide) (by decide) (by rfl) (by rfl))) (@zbg _))))))))))))),?_⟩
  have hsl:=sizeLine_eq
  have rp:=zp mp
  have p0 : 0 < p:=by omega
  have v0:=zad (x:=x) p0 cs
  have v1:=zae (x:=x) p0 cs
  refine ⟨_,rfl,b,_,rfl,SqT.of hb,rfl,_,_,rfl,_,_,rfl,rfl,?_⟩
  refine ⟨_,rfl,_,rfl,_,rfl,_,rfl,p,x,c,cs,rfl,.inl (SqL.of hc),p0,by omega,x0,x1,_,_,rfl,rfl,?_⟩
  refine ⟨_,rfl,_,rfl,_,rfl,_,rfl,_,rfl,p,x,v,ws,rfl,.inl (SqL.of hv),p0,by omega,x0,x1,p,_,rfl,mp,by omega,by omega,_,_,rfl,rfl,.inl ⟨by omega,by omega⟩,_,rfl,_,_,rfl,rfl,p0,?_⟩
  have f0:=Int.emod_nonneg ((y - zn p x cs) * inv p (zn p x ws)) (show p ≠ 0 by omega)
  have f1:=Int.emod_lt_of_pos ((y - zn p x cs) * inv p (zn p x ws)) p0
  refine ⟨_,rfl,_,rfl,c,v,_,_,rfl,SqL.of hc,SqL.of hv,zcb (n:=ws.length) (f:=fun number other => (number + ((y - zn p x cs) * inv p (zn p x ws) % p) * other) % p) hc hv hle (Nat.le_refl _) (.inr (Nat.le_refl _)) (by omega) ?_ ?_⟩
  ·intro j u w H6 T R B hu hv s6 hT hR
   refine gY2 (SqT.of zb) ?_
   exact ⟨_,rfl,_,rfl,_,rfl,_,_,rfl,rfl,.inl ⟨by omega,by omega⟩,_,_,rfl,rfl,_,rfl,_,_,rfl,rfl,p0,hR⟩
  ·intro D H6 s6 hD
   obtain ⟨f,hf⟩ : ∃ f,(y - zn p x cs) * inv p (zn p x ws) % p = f:=⟨_,rfl⟩
   rw [hf] at q ⊢
   have lz : (List.zipWith (fun number other => (number + f * other) % p) cs ws).length = ws.length:=by rw [List.length_zipWith]; omega
   have s7:=s6.trans (zd (o:=.lst ((List.zipWith (fun number other => (number + f * other) % p) cs ws).map V.int)) hD)
   have h7D : upd H6 D (.lst ((List.zipWith (fun number other => (number + f * other) % p) cs ws).map V.int)) D = some (.lst ((List.zipWith (fun number other => (number + f * other) % p) cs ws).map V.int)):=zb
   generalize upd H6 D (.lst ((List.zipWith (fun number other => (number + f * other) % p) cs ws).map V.int)) = H7 at s7 h7D ⊢
   have h7c:=s7 _ _ hc
   refine ⟨_,rfl,_,rfl,_,rfl,D,_,rfl,.inl (SqL.of h7D),?_⟩
   refine ⟨_,rfl,c,_,rfl,SqL.of h7c,fun z hz => ?_⟩
   have ec : zaE (cs.map V.int) (some ((((List.zipWith (fun number other => (number + f * other) % p) cs ws).map V.int).length : Nat) : Int)) none = (cs.drop ws.length).map V.int:=by
    rw [List.length_map,lz,zeB (by rw [List.length_map]; exact hle),List.map_drop]
   rw [ec]
   have s8:=zd (o:=.lst ((cs.drop ws.length).map V.int)) hz
   refine ⟨D,z,_,_,rfl,rfl,s8 _ _ h7D,zb,by rw [List.length_map,List.length_map,lz,List.length_drop]; omega,fun l hl => q l _ (((s7.trans s8).free hl)) ((s7.trans s8).trans (zd hl)) ?_⟩
   rw [zb,zg4 cs ws hle,List.map_append]
theorem zax : FnScope ["p","points","polynomial","vanishing","x","y"] ["p","points"] (zi zbN):=⟨rfl,rfl,rfl,by decide +kernel,rfl,by decide +kernel,by decide +kernel⟩
theorem ze2 {fd : FuncData} (T : Txt K mg t) (F : Fun K "through" "through" zbN t.through fd) : FnOk P w K mg base CX0 3 t.through fd ["p","points"] (zew K):=by
 obtain ⟨fd_bent,F_bent,b_bent⟩:=T.f_bent
 have G_bent:=zhR (P:=P) (w:=w) (base:=base) T F_bent
 obtain ⟨fd_times_root,F_times_root,b_times_root⟩:=T.f_times_root
 have G_times_root:=zdi (P:=P) (w:=w) (base:=base) T F_times_root
 refine F.ok zax (fun vs H Q E h => ?_) (fun cdv A outer s H vs Q E hr h => ?_)
 ·obtain ⟨p,a,pts,rfl,_⟩:=h
  rfl
 ·obtain ⟨p,a,pts,rfl,hP,hlen,mp,hp,hyr,q⟩:=h
  refine ⟨_,(@zc _ _ _ _ _ (@zm _ _ (2) _ _ _ _ zax.nd rfl (Or.inl rfl) (@zg _ _ _ _ _ _ _ _ (@zdM _) (@zU _ _ _ _ (@za _ _ _ _ _ (@zf _ _ _ _) (@ze _) (by rfl))) (@zz _ _ _ _ _ _ _ _ _ (@zr _) (by rfl) T.len_ boot_len (@za _ _ _ _ _ (@pvx _ 1 _ _ rfl) (@ze _) (by rfl)) (by decide) (by decide) (by rfl) (by rfl))) (by rfl) (by trivial)) (by exact (@zc _ _ _ _ _ (@zm _ _ (3) _ _ _ _ zax.nd rfl (Or.inl rfl) (@zU _ _ _ _ (@za _ _ _ _ _ (@zf _ _ _ _) (@ze _) (by rfl))) (by rfl) (by trivial)) (by exact (@zc _ _ _ _ _ (@zaz _ _ _ _ _ _ _ _ PassesOwn.never rfl (@zab _ _ _ _ (@pvx _ 1 _ _ rfl)) (@zau _ _ _ _ _ _ rfl (@zl _ _ _ _ _ (@zh _ _ (4) _ zax.nd rfl (Or.inl rfl) (by trivial)) (@zl _ _ _ _ _ (@zh _ _ (5) _ zax.nd rfl (Or.inl rfl) (by trivial)) (@zR _) (by rfl)) (by rfl)) (by rfl) (by rfl)) (@zc _ _ _ _ _ (@zm _ _ (2) _ _ _ _ zax.nd rfl (Or.inl rfl) (@zu _ _ _ _ _ _ _ _ _ _ _ _ _ _ _ _ G_bent (hr.mono (by decide)) rfl T.m_bent F_bent.kp b_bent .nil (@zP _) (@za _ _ _ _ _ (@pvx _ 0 _ _ rfl) (by exact (@za _ _ _ _ _ (@pvx _ 2 _ _ rfl) (@za _ _ _ _ _ (@pvx _ 3 _ _ rfl) (@za _ _ _ _ _ (@zaW _ _ _ _ _ (@za _ _ _ _ _ (@pvx _ 4 _ _ rfl) (@za _ _ _ _ _ (@pvx _ 5 _ _ rfl) (@ze _) (by rfl)) (by rfl))) (@ze _) (by rfl)) (by rfl)) (by rfl))) (by rfl)) (by decide) (by rfl) (by rfl)) (by rfl) (by trivial)) (by exact (@zj _ _ _ (@zm _ _ (3) _ _ _ _ zax.nd rfl (Or.inl rfl) (@zu _ _ _ _ _ _ _ _ _ _ _ _ _ _ _ _ G_times_root (hr.mono (by decide)) rfl T.m_times_root F_times_root.kp b_times_root .nil (@zP _) (@za _ _ _ _ _ (@pvx _ 0 _ _ rfl) (@za _ _ _ _ _ (@pvx _ 3 _ _ rfl) (@za _ _ _ _ _ (@pvx _ 4 _ _ rfl) (@ze _) (by rfl)) (by rfl)) (by rfl)) (by decide) (by rfl) (by rfl)) (by rfl) (by trivial))))) (by intro _; rfl)) (by exact (@zj _ _ _ (@zG _ _ _ _ (@zaD _ _ _ _ _ _ _ _ _ (@zaJ _) (by rfl) T.tuple_ boot_tuple (@za _ _ _ _ _ (@pvx _ 2 _ _ rfl) (@ze _) (by rfl)) (by decide) (by decide) (by rfl) (by rfl)))))))))),?_⟩
  have hsl:=sizeLine_eq
  have rp:=zp mp
  have p0 : 0 < p:=by omega
  obtain ⟨bs,hS,hbl,hb⟩:=id hP
  refine ⟨by show 1 ≤ sizeLine; omega,fun z hz => ⟨_,rfl,a,_,rfl,.inl ((zd hz).seq hS),z,_,[.int 0],rfl,rfl,zb,by rw [List.length_map]; omega,by rw [List.length_map]; omega,by rw [List.length_map]; show 1 * _ ≤ sizeLine; omega,fun c hc => ?_⟩⟩
  have s0:=zd (o:=.lst [.int 0]) hz
  have hcH : H c = none:=s0.free hc
  refine ⟨by show 1 ≤ sizeLine; omega,fun v hv => ?_⟩
  have hcv : c ≠ v:=zD zb hv
  rw [List.length_map,zb4,hbl,Int.toNat_natCast] at hv ⊢
  have s2 : zx H (upd (upd (upd H z (.lst [.int 0])) c (.lst ((List.replicate pts.length 0).map V.int))) v (.lst [.int 1])):=(s0.trans (zd hc)).trans (zd hv)
  refine ⟨_,rfl,a,rfl,⟨_,s2.seq hS⟩,zbZ (K:=K) (a:=a) (xs:=bs.map V.ref) (fun i σ H' => ∃ (c v : Addr) (s : List Int × List Int) (e4 e5 : Option V),σ = [some (.int p),some (.ref a),some (.ref c),some (.ref v),e4,e5] ∧
   s = (pts.take i).foldl (zbx p) (List.replicate pts.length 0,[1]) ∧ Nw p pts.length ((pts.take i).map (md p)) s ∧ zx H H' ∧ H' c = some (.lst (s.1.map V.int)) ∧ H' v = some (.lst (s.2.map V.int)))
   ⟨c,v,_,none,none,rfl,rfl,by rw [List.take_zero]; exact zeg mp _,s2,by rw [zo hcv]; exact zb,zb⟩ (fun i σ H' _ ⟨_,_,_,_,_,_,_,_,s3,_⟩ => s3.seq hS) ?_ ?_⟩
  ·rintro i y σ H1 hy ⟨c,v,s,e4,e5,rfl,hs,nw,s1,h1c,h1v⟩
   obtain ⟨b,rfl,hbi⟩:=zas hy
   obtain ⟨hi,_⟩:=List.getElem?_eq_some_iff.mp hbi
   obtain ⟨⟨x,y⟩,hq⟩ : ∃ q,pts[i]? = some q:=⟨pts[i]'(by omega),by simp⟩
   have hbq:=s1 _ _ (hb i b _ hbi hq)
   have hsp:=zeV hq
   have hp':=hp
   rw [hsp,List.map_append,List.map_cons] at hp'
   have hap:=hp'.apart
   obtain ⟨x0,x1,m0,m1⟩:=hp.rg _ (List.mem_map.mpr ⟨_,List.mem_of_getElem? hq,rfl⟩)
   obtain ⟨y0,y1⟩:=hyr _ (List.mem_of_getElem? hq)
   dsimp only [md] at x0 x1 m0 m1 y0 y1
   have hil : i < pts.length:=by omega
   have htl : (pts.take i).length = i:=by rw [List.length_take]; omega
   have nw2:=zfk mp nw (q:=md p (x,y)) (by rw [List.length_map,htl]; exact hil) x0 x1 m0 m1 hap
   rw [zeu] at nw2
   obtain ⟨hg0,hg1⟩:=zfj mp nw (q:=(x,y)) x0 x1 (fun a ha => ⟨(hap a ha).1,(hap a ha).2.1,(hap a ha).2.2.1⟩)
   dsimp only at hg0 hg1
   have hst : zbx p s (x,y) = (ad p ((y - zn p x s.1) * inv p (zn p x s.2) % p) s.1 s.2,zb2 p x s.2):=rfl
   rw [hst] at nw2
   have l1:=nw.lc
   have l2:=nw.lv
   rw [List.length_map,htl] at l2
   refine ⟨b,_,rfl,SqT.of hbq,rfl,_,_,rfl,_,_,rfl,rfl,?_⟩
   refine ⟨_,rfl,_,rfl,_,rfl,_,rfl,_,rfl,by show 2 ≤ sizeLine; omega,fun tt ht => ?_⟩
   have t1:=zd (o:=.tup [.int x,.int y]) ht
   refine ⟨p,x,y,c,v,tt,s.1,s.2,rfl,t1 _ _ h1c,t1 _ _ h1v,zb,mp,x0,x1,y0,y1,hg0,hg1,by omega,by omega,fun l H3 hl s3 h3l => ?_⟩
   have s4:=t1.trans s3
   refine ⟨_,rfl,_,rfl,_,rfl,p,x,v,s.2,rfl,s4 _ _ h1v,by omega,p0,x0,by omega,fun l2 H4 hl2 s5 h4l => ?_⟩
   refine ⟨l,l2,zbx p s (x,y),_,_,rfl,?_,?_,(s1.trans s4).trans s5,?_,?_⟩
   ·rw [take_snoc hq,List.foldl_append,← hs]
    rfl
   ·rw [take_snoc hq,hst,List.map_append]
    exact nw2
   ·rw [hst]
    exact s5 _ _ h3l
   ·rw [hst]
    exact h4l
  ·rintro σ H1 ⟨c,v,s,e4,e5,rfl,hs,nw,s1,h1c,h1v⟩
   rw [List.length_map,hbl,List.take_length] at hs
   refine ⟨_,rfl,c,_,rfl,.inl ⟨SqL.of h1c,fun l hl => q l _ (s1.free hl) (s1.trans (zd hl)) ?_⟩⟩
   rw [zb,hs,ziT]
   rfl
theorem zat : FnScope ["code","row","p","k","places"] ["code","row"] (zi zal):=⟨rfl,rfl,rfl,by decide +kernel,rfl,by decide +kernel,by decide +kernel⟩
theorem zcs {fd : FuncData} (T : Txt K mg t) (F : Fun K "heard_points" "heard_points" zal t.heard_points fd) : FnOk P w K mg base CX0 1 t.heard_points fd ["code","row"] (zhE K):=by
 refine F.ok zat (fun vs H Q E h => ?_) (fun cdv A outer s H vs Q E hr h => ?_)
 ·obtain ⟨c,tt,r,p,k,pl,rw,rfl,_⟩:=h
  rfl
 ·obtain ⟨c,tt,r,p,k,pl,rw,rfl,hc,hr',hn,q⟩:=h
  refine ⟨_,(@zc _ _ _ _ _ (@zaR _ _ _ _ _ _ (@pvx _ 0 _ _ rfl) (@zau _ _ _ _ _ _ rfl (@zl _ _ _ _ _ (@zh _ _ (2) _ zat.nd rfl (Or.inl rfl) (by trivial)) (@zl _ _ _ _ _ (@zh _ _ (3) _ zat.nd rfl (Or.inl rfl) (by trivial)) (@zl _ _ _ _ _ (@zh _ _ (4) _ zat.nd rfl (Or.inl rfl) (by trivial)) (@zR _) (by rfl)) (by rfl)) (by rfl)) (by rfl) (by rfl)) (by rfl) (by rfl) (by rfl)) (by exact (@zj _ _ _ (@zG _ _ _ _ (@zao _ _ _ _ _ _ _ _ _ _ _ _ _ (CompSc.of (N':=["place","entry"]) (ix:=[none,none]) (zi zal) ["code","row","p","k","places"] rfl rfl (by decide +kernel)) rfl (@zb9 _ _ _ _ (@zaf _ _ _ rfl (@zaf _ _ _ rfl (@zbE _)))) (@zgD _ _ _ _ _ _ _ _ _ rfl T.zip_ (@za _ _ _ _ _ (@pvx _ 4 _ _ rfl) (@za _ _ _ _ _ (@pvx _ 1 _ _ rfl) (@ze _) (by rfl)) (by rfl)) (by rfl) (by rfl)) (fun _ _ _ _ => (@zbF _ (K) _ _ _ (2) _ rfl rfl (@zl _ _ _ _ _ (@zh _ _ (0) _ (show (["place","entry"] : List Str).Nodup by decide +kernel) rfl (Or.inl rfl) (by trivial)) (@zl _ _ _ _ _ (@zh _ _ (1) _ (show (["place","entry"] : List Str).Nodup by decide +kernel) rfl (Or.inl rfl) (by trivial)) (@zR _) (by rfl)) (by rfl)) (by rfl) (by rfl))) (fun _ _ _ _ => (@zcP _ _ _ (@zB _ _ _ _ _ _ _ _ (@zdI _) (@pvx _ 1 _ _ rfl) (@zbq _ _ _) (zK _)))) (fun _ _ _ _ => (@zaW _ _ _ _ _ (@za _ _ _ _ _ (@pvx _ 0 _ _ rfl) (@za _ _ _ _ _ (@pvx _ 1 _ _ rfl) (@ze _) (by rfl)) (by rfl)))) (by intro _; rfl)))))),?_⟩
  have hsl:=sizeLine_eq
  have hl:=hr'.len
  refine ⟨_,rfl,c,_,rfl,SqT.of hc.1,rfl,_,_,rfl,_,_,rfl,_,_,rfl,rfl,?_⟩
  refine ⟨_,rfl,_,rfl,tt,r,_,_,rfl,SqT.of hc.2,hr'.at',z0 (n:=pl.length) (fun i ys H' => zx H H' ∧ ∃ us : List Addr,ys = us.map V.ref ∧ PtB H' us (hps (pl.take i) (rw.take i))) ⟨fun _ _ e => e,[],rfl,.nil⟩ ?_ ?_ ?_ ?_⟩
  ·rintro i ys H3 hi ⟨s3,_⟩
   obtain ⟨o,ho⟩ : ∃ o,rw[i]? = some o:=⟨rw[i]'(by omega),by simp⟩
   exact ⟨_,_,.int pl[i],enc o,SqT.of (s3 _ _ hc.2),s3.seq hr'.at',by rw [List.getElem?_map,List.getElem?_eq_getElem hi]; rfl,by rw [List.getElem?_map,ho]; rfl⟩
  ·rintro ys H3 ⟨s3,_⟩
   exact ⟨_,_,SqT.of (s3 _ _ hc.2),s3.seq hr'.at',.inl (by rw [List.length_map])⟩
  ·rintro i xx ys H3 H4 hi ⟨s3,us,rfl,hus⟩ ⟨T,u,v,hT,rfl,rfl,hu,hv⟩
   obtain ⟨x,rfl,hx⟩:=zW (hu _ (SqT.of (s3 _ _ hc.2)))
   obtain ⟨o,rfl,ho⟩:=zcx (hv _ (s3.seq hr'.at'))
   have v4:=zd (o:=.tup [.int x,enc o]) hT
   have s4:=s3.trans v4
   have hs:=zcX hx ho
   have hul:=hus.length
   have hb:=zbJ (pl.take i) (rw.take i)
   rw [List.length_take] at hb
   refine ⟨T,_,rfl,SqT.of zb,rfl,_,_,rfl,_,_,rfl,rfl,?_⟩
   refine ⟨_,rfl,rfl,_,rfl,?_⟩
   cases o with
   | none =>
    refine zc9 ⟨s4,us,rfl,?_⟩
    rw [hs,List.append_nil]
    exact hus.same v4
   | some z =>
    refine zjo ⟨_,rfl,_,rfl,by show 2 ≤ sizeLine; omega,fun T2 hT2 => ⟨by rw [List.length_map]; omega,s4.trans (zd hT2),us ++ [T2],by rw [List.map_append]; rfl,?_⟩⟩
    rw [hs]
    exact Paired.snoc (hus.same (v4.trans (zd hT2))) zb
  ·rintro ys H3 D ⟨s3,us,rfl,hus⟩ hD
   rw [List.take_length,List.take_of_length_le (by omega)] at hus
   exact q D us _ (s3.free hD) (s3.trans (zd hD)) zb (hus.same (zd hD))
end
end My
end
section
set_option maxHeartbeats 3999000
namespace My
open PySem L2 PyProof.Rows
section
variable {P : Program} {w : World} {K : PySem.W.Frag} {mg : Str → Option Value} {base : Heap} {t : Adr}
theorem ze3 : FnScope ["p","vector","times","other"] ["p","vector","times","other"] (zi zbc):=⟨rfl,rfl,rfl,by decide +kernel,rfl,by decide +kernel,by decide +kernel⟩
theorem ze4 {fd : FuncData} (T : Txt K mg t) (F : Fun K "without" "without" zbc t.without fd) : FnOk P w K mg base CX0 1 t.without fd ["p","vector","times","other"] (zeY K):=by
 refine F.ok ze3 (fun vs H Q E h => ?_) (fun cdv A outer s H vs Q E hr h => ?_)
 ·obtain ⟨p,tm,a,b,as,bs,rfl,_⟩:=h
  rfl
 ·obtain ⟨p,tm,a,b,as,bs,rfl,ha,hb,hl,hn,p0,t0,t1,q⟩:=h
  refine ⟨_,(@zj _ _ _ (@zG _ _ _ _ (@zao _ _ _ _ _ _ _ _ _ _ _ _ _ (CompSc.of (N':=["number","less","times","p"]) (ix:=[none,none,some 2,some 0]) (zi zbc) ["p","vector","times","other"] rfl rfl (by decide +kernel)) rfl (@zb9 _ _ _ _ (@zaf _ _ _ rfl (@zaf _ _ _ rfl (@zbE _)))) (@zcu _ _ _ _ _ _ _ _ _ rfl T.zip_ (@za _ _ _ _ _ (@pvx _ 1 _ _ rfl) (@za _ _ _ _ _ (@pvx _ 3 _ _ rfl) (@ze _) (by rfl)) (by rfl)) (by rfl) (by rfl)) (fun _ _ _ _ => (@zbF _ (K) _ _ _ (2) _ rfl rfl (@zl _ _ _ _ _ (@zh _ _ (0) _ (show (["number","less","times","p"] : List Str).Nodup by decide +kernel) rfl (Or.inl rfl) (by trivial)) (@zl _ _ _ _ _ (@zh _ _ (1) _ (show (["number","less","times","p"] : List Str).Nodup by decide +kernel) rfl (Or.inl rfl) (by trivial)) (@zR _) (by rfl)) (by rfl)) (by rfl) (by rfl))) (fun _ _ _ _ => (@zI _)) (fun _ _ _ _ => (@zg _ _ _ _ _ _ _ _ (@zy _) (@zg _ _ _ _ _ _ _ _ (@zbf _) (@pvx _ 0 _ _ rfl) (@zg _ _ _ _ _ _ _ _ (@zJ _) (@pvx _ 2 _ _ rfl) (@pvx _ 1 _ _ rfl))) (@pvx _ 3 _ _ rfl))) (by intro _; rfl)))),?_⟩
  have hsl:=sizeLine_eq
  refine ⟨_,rfl,_,rfl,a,b,_,_,rfl,SqL.of ha,SqL.of hb,zcb (n:=as.length) (f:=fun x y => (x - tm * y) % p) ha hb (Nat.le_refl _) (by omega) (.inl (Nat.le_refl _)) (by omega) ?_ ?_⟩
  ·intro j u w H6 T R B hu hv s6 hT hR
   refine gY2 (SqT.of zb) ?_
   exact ⟨_,rfl,_,rfl,_,rfl,_,_,rfl,rfl,.inl ⟨by omega,by omega⟩,_,_,rfl,rfl,_,rfl,_,_,rfl,rfl,p0,hR⟩
  ·intro D H6 s6 hD
   exact q D _ (s6.free hD) (s6.trans (zd hD)) zb
theorem zw : FnScope ["p","vectors","length","cleared","count","vector","whole","lead","other","leads","factor"] ["p","vectors"] (zi zT):=⟨rfl,rfl,rfl,by decide +kernel,rfl,by decide +kernel,by decide +kernel⟩
theorem zb8 {fd : FuncData} (T : Txt K mg t) (F : Fun K "first_relation" "first_relation" zT t.first_relation fd) : FnOk P w K mg base CX0 2 t.first_relation fd ["p","vectors"] (zb5 K):=by
 obtain ⟨fd_without,F_without,b_without⟩:=T.f_without
 have G_without:=ze4 (P:=P) (w:=w) (base:=base) T F_without
 obtain ⟨fd_inverse,F_inverse,b_inverse⟩:=T.f_inverse
 have G_inverse:=zc4 (P:=P) (w:=w) (base:=base) T F_inverse
 refine F.ok zw (fun vs H Q E h => ?_) (fun cdv A outer s H vs Q E hr h => ?_)
 ·obtain ⟨p,a,ls,vv,L,rfl,_⟩:=h
  rfl
 ·obtain ⟨p,a,ls,vv,L,rfl,ha,hls,hne,hN,hL,hvv,hp,qn,qs⟩:=h
  refine ⟨_,(@zc _ _ _ _ _ (@zm _ _ (2) _ _ _ _ zw.nd rfl (Or.inl rfl) (@zz _ _ _ _ _ _ _ _ _ (@zr _) (by rfl) T.len_ boot_len (@za _ _ _ _ _ (@zA _ _ _ _ _ _ _ (@zq _) (@pvx _ 1 _ _ rfl) (@zf _ _ _ _) (fun _ _ => rfl)) (@ze _) (by rfl)) (by decide) (by decide) (by rfl) (by rfl)) (by rfl) (by trivial)) (by exact (@zc _ _ _ _ _ (@zm _ _ (3) _ _ _ _ zw.nd rfl (Or.inl rfl) (@zU _ _ _ _ (@ze _)) (by rfl) (by trivial)) (by exact (@zc _ _ _ _ _ (@zaz _ _ _ _ _ _ _ _ PassesOwn.never rfl (@zb1 _ _ _ _ _ _ _ _ rfl T.enumerate_ (@za _ _ _ _ _ (@pvx _ 1 _ _ rfl) (@ze _) (by rfl)) (by rfl)) (@zau _ _ _ _ _ _ rfl (@zl _ _ _ _ _ (@zh _ _ (4) _ zw.nd rfl (Or.inl rfl) (by trivial)) (@zl _ _ _ _ _ (@zh _ _ (5) _ zw.nd rfl (Or.inl rfl) (by trivial)) (@zR _) (by rfl)) (by rfl)) (by rfl) (by rfl)) (@zc _ _ _ _ _ (@zm _ _ (6) _ _ _ _ zw.nd rfl (Or.inr rfl) (@zg _ _ _ _ _ _ _ _ (@zcO _) (@pvx _ 5 _ _ rfl) (@zg _ _ _ _ _ _ _ _ (@zdM _) (@zU _ _ _ _ (@za _ _ _ _ _ (@zf _ _ _ _) (@ze _) (by rfl))) (@zz _ _ _ _ _ _ _ _ _ (@zr _) (by rfl) T.len_ boot_len (@za _ _ _ _ _ (@pvx _ 1 _ _ rfl) (@ze _) (by rfl)) (by decide) (by decide) (by rfl) (by rfl)))) (by rfl) (by trivial)) (by exact (@zc _ _ _ _ _ (@zaR _ _ _ _ _ _ (@zf _ _ _ _) (@zdH _ _ _ _ _ _ _ (@pvx _ 6 _ _ rfl) (@zg _ _ _ _ _ _ _ _ (@zE _) (@pvx _ 2 _ _ rfl) (@pvx _ 4 _ _ rfl)) set_list (by intro _; rfl)) (by rfl) (by rfl) (by rfl)) (by exact (@zc _ _ _ _ _ (@zaz _ _ _ _ _ _ _ _ PassesOwn.never rfl (@zab _ _ _ _ (@pvx _ 3 _ _ rfl)) (@zau _ _ _ _ _ _ rfl (@zl _ _ _ _ _ (@zh _ _ (7) _ zw.nd rfl (Or.inl rfl) (by trivial)) (@zl _ _ _ _ _ (@zh _ _ (8) _ zw.nd rfl (Or.inl rfl) (by trivial)) (@zR _) (by rfl)) (by rfl)) (by rfl) (by rfl)) (@zj _ _ _ (@zm _ _ (6) _ _ _ _ zw.nd rfl (Or.inr rfl) (@zu _ _ _ _ _ _ _ _ _ _ _ _ _ _ _ _ G_without (hr.mono (by decide)) rfl T.m_without F_without.kp b_without .nil (@zP _) (@za _ _ _ _ _ (@pvx _ 0 _ _ rfl) (by exact (@za _ _ _ _ _ (@pvx _ 6 _ _ rfl) (@za _ _ _ _ _ (@zA _ _ _ _ _ _ _ (@zq _) (@pvx _ 6 _ _ rfl) (@pvx _ 7 _ _ rfl) (fun _ _ => rfl)) (@za _ _ _ _ _ (@pvx _ 8 _ _ rfl) (@ze _) (by rfl)) (by rfl)) (by rfl))) (by rfl)) (by decide) (by rfl) (by rfl)) (by rfl) (by trivial))) (by intro _; rfl)) (by exact (@zc _ _ _ _ _ (@zac _ _ _ _ _ _ _ _ _ _ _ _ _ (9) _ _ _ zw.nd rfl (Or.inl rfl) (CompSc.of (N':=["at","whole"]) (ix:=[none,some 6]) (zi zT) ["p","vectors","length","cleared","count","vector","whole","lead","other","leads","factor"] rfl rfl (by decide +kernel)) rfl (@z8 _ _ rfl) (@zay _ _ _ _ _ _ rfl T.range_ (@za _ _ _ _ _ (@pvx _ 2 _ _ rfl) (@ze _) (by rfl)) (by rfl)) (fun _ _ _ _ => (@zh _ _ (0) _ (show (["at","whole"] : List Str).Nodup by decide +kernel) rfl (Or.inl rfl) (by trivial))) (fun _ _ _ _ => (@zcP _ _ _ (@zB _ _ _ _ _ _ _ _ (@zcI _) (@zA _ _ _ _ _ _ _ (@zbw _ (K) rfl) (@pvx _ 1 _ _ rfl) (@pvx _ 0 _ _ rfl) (fun _ _ => rfl)) (@zf _ _ _ _) (zK _)))) (fun _ _ _ _ => (@pvx _ 0 _ _ rfl)) (by rfl) (by intro _; rfl) (by trivial)) (by exact (@zc _ _ _ _ _ (@zaM _ _ _ _ _ _ _ _ (@zcD _ _ _ _ (@zgk _ _ _ (@pvx _ 9 _ _ rfl) (fun _ => rfl))) (@zj _ _ _ (@zG _ _ _ _ (@zaN _ _ _ _ _ _ _ _ _ _ zb0 (@pvx _ 6 _ _ rfl) (@zaS _ _ _ (@pvx _ 2 _ _ rfl)) (@zaS _ _ _ (@zg _ _ _ _ _ _ _ _ (@zE _) (@zg _ _ _ _ _ _ _ _ (@zE _) (@pvx _ 2 _ _ rfl) (@pvx _ 4 _ _ rfl)) (@zf _ _ _ _)))))) (@zZ _)) (by exact (@zc _ _ _ _ _ (@zm _ _ (10) _ _ _ _ zw.nd rfl (Or.inr rfl) (@zu _ _ _ _ _ _ _ _ _ _ _ _ _ _ _ _ G_inverse (hr.mono (by decide)) rfl T.m_inverse F_inverse.kp b_inverse .nil (@zP _) (@za _ _ _ _ _ (@pvx _ 0 _ _ rfl) (@za _ _ _ _ _ (@zA _ _ _ _ _ _ _ (@zq _) (@pvx _ 6 _ _ rfl) (@zA _ _ _ _ _ _ _ (@zq _) (@pvx _ 9 _ _ rfl) (@zf _ _ _ _) (fun _ _ => rfl)) (fun _ _ => rfl)) (@ze _) (by rfl)) (by rfl)) (by decide) (by rfl) (by rfl)) (by rfl) (by trivial)) (by exact (@zj _ _ _ (@zbD _ _ _ _ (@zcN _ _ _ _ _ _ _ _ _ _ _ _ PySem.F.plainAttrs_list PySem.F.slot_list_append PySem.F.type_list_append (@zaV _) (@pvx _ 3 _ _ rfl) (@za _ _ _ _ _ (@zaW _ _ _ _ _ (@za _ _ _ _ _ (@zA _ _ _ _ _ _ _ (@zq _) (@pvx _ 9 _ _ rfl) (@zf _ _ _ _) (fun _ _ => rfl)) (@za _ _ _ _ _ (@zao _ _ _ _ _ _ _ _ _ _ _ _ _ (CompSc.of (N':=["number","factor","p"]) (ix:=[none,some 10,some 0]) (zi zT) ["p","vectors","length","cleared","count","vector","whole","lead","other","leads","factor"] rfl rfl (by decide +kernel)) rfl (@z8 _ _ rfl) (@zab _ _ _ _ (@pvx _ 6 _ _ rfl)) (fun _ _ _ _ => (@zh _ _ (0) _ (show (["number","factor","p"] : List Str).Nodup by decide +kernel) rfl (Or.inl rfl) (by trivial))) (fun _ _ _ _ => (@zI _)) (fun _ _ _ _ => (@zg _ _ _ _ _ _ _ _ (@zy _) (@zg _ _ _ _ _ _ _ _ (@zJ _) (@pvx _ 0 _ _ rfl) (@pvx _ 1 _ _ rfl)) (@pvx _ 2 _ _ rfl))) (by intro _; rfl)) (@ze _) (by rfl)) (by rfl))) (@ze _) (by rfl)) (by rfl) (by rfl) (by rfl) (by rfl) (by rfl)) (by rfl))))))))))))))) (by intro _; rfl)) (by exact (@zj _ _ _ (@zG _ _ _ _ (@zbq _ _ _))))))))),?_⟩
  have hsl:=sizeLine_eq
  have rp:=zp hp
  have p0 : 0 < p:=by omega
  have hll:=hls.length
  have hN0 : 0 < vv.length:=List.length_pos_iff.mpr hne
  obtain ⟨l0,hl0⟩ : ∃ l0,ls[0]? = some l0:=⟨ls[0]'(by omega),by simp⟩
  obtain ⟨v0,hv0,hv0a⟩:=Paired.get hls hl0
  have hv0L:=(hvv v0 (List.mem_of_getElem? hv0)).1
  refine ⟨_,rfl,a,_,_,.ref l0,rfl,rfl,SqL.of ha,zS (j:=0) (by rw [List.getElem?_map,hl0]; rfl),l0,_,rfl,.inl (SqL.of hv0a),?_⟩
  rw [List.length_map,hv0L]
  refine ⟨by show 0 ≤ sizeLine; omega,fun ca hca => ?_⟩
  have u1:=zd (o:=.lst []) hca
  refine ⟨_,rfl,a,_,rfl,SqL.of (u1 _ _ ha),zca (n:=vv.length) (fun i σ H' => ∃ (cs : List Addr) (cl : List (Nat × List Int)) (e4 e5 e6 e7 e8 e9 e10 : Option V),σ = [some (.int p),some (.ref a),some (.int (L : Int)),some (.ref ca),e4,e5,e6,e7,e8,e9,e10] ∧ zx H H' ∧ H' ca = some (.lst (cs.map V.ref)) ∧ ClA ca H' cs cl ∧ Ech p L vv.length i vv cl)
   ⟨[],[],none,none,none,none,none,none,none,rfl,u1,zb,.nil,Ech.start p L vv.length vv⟩ ?_ ?_ ?_ ?_⟩
  ·rintro i σ H1 hi ⟨cs,cl,e4,e5,e6,e7,e8,e9,e10,rfl,s1,_⟩
   exact ⟨_,.ref (ls[i]'(by omega)),SqL.of (s1 _ _ ha),by rw [List.getElem?_map,List.getElem?_eq_getElem (by omega)]; rfl⟩
  ·rintro σ H1 ⟨cs,cl,e4,e5,e6,e7,e8,e9,e10,rfl,s1,_⟩
   exact ⟨_,SqL.of (s1 _ _ ha),by rw [List.length_map]; omega⟩
  ·rintro i x σ H1 H2 hi ⟨cs,cl,e4,e5,e6,e7,e8,e9,e10,rfl,s1,h1c,hcl,E⟩ ⟨T,v,hT,rfl,rfl,hv⟩
   obtain ⟨lv,rfl,hlv⟩:=zas (hv _ (SqL.of (s1 _ _ ha)))
   obtain ⟨vec,hvec,hva⟩:=Paired.get hls hlv
   obtain ⟨hvl,hvr⟩:=hvv vec (List.mem_of_getElem? hvec)
   have t2:=zd (o:=.tup [.int (i : Int),.ref lv]) hT
   refine ⟨T,_,rfl,SqT.of zb,rfl,_,_,rfl,_,_,rfl,rfl,?_⟩
   have s2:=s1.trans t2
   have h2c:=t2 _ _ h1c
   have hcl2:=hcl.same t2
   generalize upd H1 T (.tup [.int (i : Int),.ref lv]) = H2 at t2 s2 h2c hcl2 ⊢
   refine ⟨_,rfl,by show 1 ≤ sizeLine; omega,fun z hz => ⟨_,rfl,a,_,rfl,.inl (SqL.of ((s2.trans (zd hz)) _ _ ha)),z,_,[.int 0],rfl,rfl,zb,by rw [List.length_map]; omega,by rw [List.length_map]; omega,by rw [List.length_map]; show 1 * _ ≤ sizeLine; omega,fun y hy => ?_⟩⟩
   rw [List.length_map,zb4,hll,Int.toNat_natCast]
   have t3:=(zd (o:=.lst [.int 0]) hz).trans (zd (o:=.lst ((List.replicate vv.length (0 : Int)).map V.int)) hy)
   have h3y : upd (upd H2 z (.lst [.int 0])) y (.lst ((List.replicate vv.length (0 : Int)).map V.int)) y = some (.lst ((List.replicate vv.length (0 : Int)).map V.int)):=zb
   generalize upd (upd H2 z (.lst [.int 0])) y (.lst ((List.replicate vv.length (0 : Int)).map V.int)) = H3 at t3 h3y ⊢
   refine ⟨lv,y,_,_,rfl,rfl,(s2.trans t3) _ _ hva,h3y,by rw [List.length_map,List.length_map,List.length_replicate]; omega,fun wl hwl => ?_⟩
   rw [← List.map_append]
   have t4:=zd (o:=.lst ((vec ++ List.replicate vv.length (0 : Int)).map V.int)) hwl
   refine ⟨_,rfl,_,rfl,_,rfl,_,_,rfl,rfl,wl,_,_,L + i,rfl,rfl,zb,?_,?_⟩
   ·rw [← Int.natCast_add]
    exact zcw (by rw [List.length_map,List.length_append,List.length_replicate]; omega)
   have ew : ((vec ++ List.replicate vv.length (0 : Int)).map V.int).set (L + i) (.int 1) = ((vec ++ List.replicate vv.length (0 : Int)).set (L + i) 1).map V.int:=by rw [List.map_set]
   rw [ew,ze6]
   have t4:=t3.trans (zd (o:=.lst (((vec ++ List.replicate vv.length (0 : Int)).set (L + i) 1).map V.int)) hwl)
   have h4w : upd H3 wl (.lst (((vec ++ List.replicate vv.length (0 : Int)).set (L + i) 1).map V.int)) wl = some (.lst (((vec ++ List.replicate vv.length (0 : Int)).set (L + i) 1).map V.int)):=zb
   have W0:=zes hp (N:=vv.length) hi hvec hvl hvr
   have hwc : wl ≠ ca:=fun e => by
    have:=t3 _ _ h2c
    rw [← e,hwl] at this
    cases this
   generalize upd H3 wl (.lst (((vec ++ List.replicate vv.length (0 : Int)).set (L + i) 1).map V.int)) = H4 at t4 h4w ⊢
   generalize (vec ++ List.replicate vv.length (0 : Int)).set (L + i) 1 = w0 at W0 h4w ⊢
   have s4:=s2.trans t4
   have h4c:=t4 _ _ h2c
   have hcl4:=hcl2.same t4
   have hcll:=hcl4.length
   refine ⟨_,rfl,ca,rfl,⟨_,SqL.of h4c⟩,zbZ (K:=K) (a:=ca) (xs:=cs.map V.ref) (fun j σ H' => ∃ (wa : Addr) (w : List Int) (e7 e8 : Option V),σ = [some (.int p),some (.ref a),some (.int (L : Int)),some (.ref ca),some (.int (i : Int)),some (.ref lv),some (.ref wa),e7,e8,e9,e10] ∧ zx H4 H' ∧ H' wa = some (.lst (w.map V.int)) ∧ wa ≠ ca ∧ Wh p L vv.length i vv (cl.take j) w)
    ⟨wl,w0,_,_,rfl,fun _ _ e => e,h4w,hwc,W0⟩ (fun j σ H' _ ⟨_,_,_,_,_,s5,_⟩ => SqL.of (s5 _ _ h4c)) ?_ ?_⟩
   ·rintro j y σ H5 hy ⟨wa,w,e7,e8,rfl,s5,h5w,hwa,W⟩
    obtain ⟨b,rfl,hb⟩:=zas hy
    obtain ⟨aa,haa,oa,hb1,hb2,hb3⟩:=Paired.get hcl4 hb
    obtain ⟨o1,o2,o3,_⟩:=E.one j aa haa
    refine ⟨b,_,rfl,SqT.of (s5 _ _ hb1),rfl,_,_,rfl,_,_,rfl,rfl,?_⟩
    have hg:=zbk p0 W.rg aa.1
    refine ⟨_,rfl,_,rfl,_,rfl,_,rfl,wa,_,_,.int (gl w aa.1),rfl,rfl,SqL.of h5w,zS (by rw [List.getElem?_map,zaG (by rw [W.ln]; omega)]; rfl),_,rfl,p,gl w aa.1,wa,oa,w,aa.2,rfl,h5w,s5 _ _ hb2,by rw [W.ln,o2],by rw [W.ln]; omega,p0,hg.1,by omega,fun l H6 hl s6 h6l => ?_⟩
    refine ⟨l,_,_,_,rfl,s5.trans s6,h6l,fun e => ?_,zfv hp E hi haa W⟩
    have:=s5 _ _ h4c
    rw [← e,hl] at this
    cases this
   ·rintro σ H5 ⟨wa,w,e7,e8,rfl,s5,h5w,hwa,W⟩
    rw [List.length_map,hcll,List.take_length] at W
    have h5c:=s5 _ _ h4c
    have hcl5:=hcl4.same s5
    have s15:=s4.trans s5
    refine ⟨_,rfl,_,rfl,by omega,by omega,?_⟩
    rw [Int.toNat_natCast]
    refine z0 (n:=L) (fun j ys H' => H' = H5 ∧ ys = (((List.range j).filter fun m => decide (gl w m ≠ 0)).map fun m : Nat => (m : Int)).map V.int) ⟨rfl,rfl⟩ (fun j ys H' hj _ => hj) (fun ys H' _ => Nat.le_refl _) ?_ ?_
    ·rintro j xx ys H6 H7 hj ⟨rfl,rfl⟩ ⟨rfl,rfl⟩
     have hgj : (w.map V.int)[j]? = some (.int (gl w j)):=by rw [List.getElem?_map,zaG (by rw [W.ln]; omega)]; rfl
     refine ⟨_,rfl,_,rfl,wa,_,_,.int (gl w j),rfl,rfl,SqL.of h5w,by rw [Int.zero_add]; exact zS hgj,rfl,_,rfl,?_⟩
     have hfl:=List.length_filter_le (fun m => decide (gl w m ≠ 0)) (List.range j)
     rw [List.length_range] at hfl
     rw [List.range_succ,List.filter_append,List.map_append,List.map_append]
     by_cases h0 : gl w j = 0
     ·refine zaa (fun h => absurd h (by rw [h0]; simp)) (fun _ => ⟨rfl,?_⟩)
      rw [List.filter_cons_of_neg (by simpa using h0),List.filter_nil,List.map_nil,List.map_nil,List.append_nil]
     ·refine zaa (fun _ => ⟨_,rfl,zV (by rw [List.length_map,List.length_map]; omega),rfl,?_⟩) (fun h => absurd (by simpa using h0) h)
      rw [List.filter_cons_of_pos (by simpa using h0),List.filter_nil,Int.zero_add]
      rfl
    ·rintro ys H6 D ⟨rfl,rfl⟩ hD
     have t7:=zd (o:=.lst ((((List.range L).filter fun m => decide (gl w m ≠ 0)).map fun m : Nat => (m : Int)).map V.int)) hD
     have h7D : upd H6 D (.lst ((((List.range L).filter fun m => decide (gl w m ≠ 0)).map fun m : Nat => (m : Int)).map V.int)) D = _:=zb
     generalize upd H6 D (.lst ((((List.range L).filter fun m => decide (gl w m ≠ 0)).map fun m : Nat => (m : Int)).map V.int)) = H7 at t7 h7D ⊢
     have s7:=s15.trans t7
     have h7w:=t7 _ _ h5w
     have h7c:=t7 _ _ h5c
     have hcl7:=hcl5.same t7
     refine ⟨_,rfl,_,.inl ⟨_,SqL.of h7D,rfl⟩,?_⟩
     cases hlds : (List.range L).filter fun m => decide (gl w m ≠ 0) with
     | nil =>
      refine zaa (fun _ => ?_) (fun h => absurd rfl h)
      have hz : ∀ x,x < L → gl w x = 0:=fun x hx => by
       have:=List.filter_eq_nil_iff.mp hlds x (List.mem_range.mpr hx)
       simpa using this
      refine ⟨_,rfl,_,rfl,_,rfl,_,rfl,_,rfl,_,_,rfl,rfl,_,_,rfl,rfl,_,rfl,wa,_,rfl,SqL.of h7w,fun l hl => ?_⟩
      have ec : zaE (w.map V.int) (some (L : Int)) (some ((L : Int) + (i : Int) + 1)) = ((w.drop L).take (i + 1)).map V.int:=by
       rw [show (L : Int) + (i : Int) + 1 = ((L + i + 1 : Nat) : Int) by omega,zhK (by rw [List.length_map,W.ln]; omega),← List.map_drop,← List.map_take,show L + i + 1 - L = i + 1 by omega]
      rw [ec]
      obtain ⟨d1,d2,d3⟩:=zgN W hi hz
      exact qs l _ i _ (s7.free hl) (s7.trans (zd hl)) zb d1 hi d2 d3
     | cons ld lds =>
      refine zaa (fun h => absurd h (by simp)) (fun _ => ?_)
      have hm : ld ∈ (List.range L).filter fun m => decide (gl w m ≠ 0):=by rw [hlds]; exact List.mem_cons_self
      (obtain ⟨hm1,hm2⟩:=List.mem_filter.mp hm)
      have hld : ld < L:=List.mem_range.mp hm1
      have hg0 : gl w ld ≠ 0:=by simpa using hm2
      obtain ⟨g0,g1⟩:=zbk p0 W.rg ld
      rw [hlds] at h7D
      have hat0 : atI ((((ld :: lds).map fun m : Nat => (m : Int))).map V.int) 0 = some (.int (ld : Int)):=zS (j:=0) rfl
      refine ⟨_,rfl,_,rfl,_,rfl,D,_,_,.int (ld : Int),rfl,rfl,SqL.of h7D,hat0,wa,_,_,.int (gl w ld),rfl,rfl,SqL.of h7w,zS (by rw [List.getElem?_map,zaG (by rw [W.ln]; omega)]; rfl),p,gl w ld,rfl,hp,g0,g1,?_⟩
      refine ⟨_,rfl,.inl ⟨rfl,_,SqL.of h7c⟩,_,rfl,D,_,_,.int (ld : Int),rfl,rfl,SqL.of h7D,hat0,_,rfl,wa,rfl,⟨_,SqL.of h7w⟩,zbH (fs:=(w.map fun x => x * inv p (gl w ld) % p).map V.int) (SqL.of h7w) (by rw [List.length_map,List.length_map,List.length_map]) (by rw [List.length_map,W.ln]; omega) ?_ ?_⟩
      ·intro j x y R B hx hy hR
       obtain ⟨n,rfl,hn⟩:=zW hx
       obtain ⟨n',rfl,hn'⟩:=zW hy
       rw [List.getElem?_map,hn] at hn'
       cases hn'
       have hnr:=W.rg n (List.mem_of_getElem? hn)
       exact gY ⟨_,rfl,_,rfl,_,_,rfl,rfl,.inl ⟨by omega,by omega⟩,_,rfl,_,_,rfl,rfl,p0,hR⟩
      ·intro D2 hD2
       have t8:=zd (o:=.lst ((w.map fun x => x * inv p (gl w ld) % p).map V.int)) hD2
       have h8D : upd H7 D2 (.lst ((w.map fun x => x * inv p (gl w ld) % p).map V.int)) D2 = some (.lst ((w.map fun x => x * inv p (gl w ld) % p).map V.int)):=zb
       have hDc : D2 ≠ ca:=fun e => by rw [e,h7c] at hD2; cases hD2
       generalize upd H7 D2 (.lst ((w.map fun x => x * inv p (gl w ld) % p).map V.int)) = H8 at t8 h8D ⊢
       refine ⟨by show 2 ≤ sizeLine; omega,fun tb htb => ?_⟩
       have t9:=zd (o:=.tup [.int (ld : Int),.ref D2]) htb
       have h9t : upd H8 tb (.tup [.int (ld : Int),.ref D2]) tb = some (.tup [.int (ld : Int),.ref D2]):=zb
       have h9c:=t9 _ _ (t8 _ _ h7c)
       have s9:=(s7.trans t8).trans t9
       have hcl9:=(hcl7.same t8).same t9
       have h9D:=t9 _ _ h8D
       generalize upd H8 tb (.tup [.int (ld : Int),.ref D2]) = H9 at t9 h9t h9c s9 hcl9 h9D ⊢
       have hln:=E.ln
       refine ⟨ca,_,_,rfl,rfl,h9c,by rw [List.length_map,hcll,hln]; omega,cs ++ [tb],_,_,_,_,_,_,_,_,rfl,zX s9 hca,by rw [zb,List.map_append]; rfl,Paired.snoc (hcl9.put h9c) ⟨D2,?_,?_,hDc⟩,zet hp E hi W hld hg0⟩
       ·rw [zo (fun e => by rw [e,h9c] at h9t; cases h9t)]
        exact h9t
       ·rw [zo hDc]
        exact h9D
  ·rintro σ H1 ⟨cs,cl,e4,e5,e6,e7,e8,e9,e10,rfl,s1,h1c,hcl,E⟩
   exact qn H1 s1 (zgM E)
theorem zcf : FnScope ["p","left","points"] ["p","left","points"] (zi zag):=⟨rfl,rfl,rfl,by decide +kernel,rfl,by decide +kernel,by decide +kernel⟩
theorem zcg {fd : FuncData} (T : Txt K mg t) (F : Fun K "times_entries" "times_entries" zag t.times_entries fd) : FnOk P w K mg base CX0 4 t.times_entries fd ["p","left","points"] (zcd K):=by
 obtain ⟨fd_through,F_through,b_through⟩:=T.f_through
 have G_through:=ze2 (P:=P) (w:=w) (base:=base) T F_through
 obtain ⟨fd_value_at,F_value_at,b_value_at⟩:=T.f_value_at
 have G_value_at:=zcl (P:=P) (w:=w) (base:=base) T F_value_at
 refine F.ok zcf (fun vs H Q E h => ?_) (fun cdv A outer s H vs Q E hr h => ?_)
 ·obtain ⟨p,la,a,l,bs,pts,rfl,_⟩:=h
  rfl
 ·obtain ⟨p,la,a,l,bs,pts,rfl,hla,ha,hB,hn,hp,hP,q⟩:=h
  refine ⟨_,(@zj _ _ _ (@zG _ _ _ _ (@zu _ _ _ _ _ _ _ _ _ _ _ _ _ _ _ _ G_through (hr.mono (by decide)) rfl T.m_through F_through.kp b_through .nil (@zP _) (@za _ _ _ _ _ (@pvx _ 0 _ _ rfl) (@za _ _ _ _ _ (@zao _ _ _ _ _ _ _ _ _ _ _ _ _ (CompSc.of (N':=["x","y","p","left"]) (ix:=[none,none,some 0,some 1]) (zi zag) ["p","left","points"] rfl rfl (by decide +kernel)) rfl (@zb9 _ _ _ _ (@zaf _ _ _ rfl (@zaf _ _ _ rfl (@zbE _)))) (@zab _ _ _ _ (@pvx _ 2 _ _ rfl)) (fun _ _ _ _ => (@zbF _ (K) _ _ _ (2) _ rfl rfl (@zl _ _ _ _ _ (@zh _ _ (0) _ (show (["x","y","p","left"] : List Str).Nodup by decide +kernel) rfl (Or.inl rfl) (by trivial)) (@zl _ _ _ _ _ (@zh _ _ (1) _ (show (["x","y","p","left"] : List Str).Nodup by decide +kernel) rfl (Or.inl rfl) (by trivial)) (@zR _) (by rfl)) (by rfl)) (by rfl) (by rfl))) (fun _ _ _ _ => (@zI _)) (fun _ _ _ _ => (@zaW _ _ _ _ _ (@za _ _ _ _ _ (@pvx _ 0 _ _ rfl) (@za _ _ _ _ _ (@zg _ _ _ _ _ _ _ _ (@zJ _) (@zu _ _ _ _ _ _ _ _ _ _ _ _ _ _ _ _ G_value_at (hr.mono (by decide)) rfl T.m_value_at F_value_at.kp b_value_at .nil (@zP _) (@za _ _ _ _ _ (@pvx _ 2 _ _ rfl) (@za _ _ _ _ _ (@pvx _ 3 _ _ rfl) (@za _ _ _ _ _ (@pvx _ 0 _ _ rfl) (@ze _) (by rfl)) (by rfl)) (by rfl)) (by decide) (by rfl) (by rfl)) (@pvx _ 1 _ _ rfl)) (@ze _) (by rfl)) (by rfl)))) (by intro _; rfl)) (@ze _) (by rfl)) (by rfl)) (by decide) (by rfl) (by rfl)))),?_⟩
  have hsl:=sizeLine_eq
  have rp:=zp hp
  have p0 : 0 < p:=by omega
  have hbl:=hB.length
  refine ⟨_,rfl,_,rfl,a,rfl,⟨_,ha⟩,z0 (n:=bs.length) (fun i ys H' => zx H H' ∧ ∃ us : List Addr,ys = us.map V.ref ∧ PtB H' us ((pts.take i).map fun a => (a.1,zn p a.1 l * a.2))) ⟨fun _ _ e => e,[],rfl,.nil⟩ ?_ ?_ ?_ ?_⟩
  ·rintro i ys H1 hi ⟨s1,_⟩
   exact ⟨_,.ref bs[i],s1.seq ha,by rw [List.getElem?_map,List.getElem?_eq_getElem hi]; rfl⟩
  ·rintro ys H1 ⟨s1,_⟩
   exact ⟨_,s1.seq ha,by rw [List.length_map]; exact Nat.le_refl _⟩
  ·rintro i y ys H1 H2 hi ⟨s1,us,rfl,hus⟩ ⟨rfl,hy⟩
   obtain ⟨b,rfl,hb⟩:=zas (hy _ (s1.seq ha))
   obtain ⟨pt,hpt,hat⟩:=Paired.get hB hb
   obtain ⟨x0,x1,y0,y1⟩:=hP.rg pt (List.mem_of_getElem? hpt)
   have hul:=hus.length
   rw [List.length_map,List.length_take] at hul
   have v0:=zad (x:=pt.1) p0 l
   have v1:=zae (x:=pt.1) p0 l
   refine gY2 (SqT.of (s1 _ _ hat)) ⟨_,rfl,_,rfl,_,rfl,_,rfl,p,pt.1,la,l,rfl,.inr (ziU s1 hla),p0,by omega,x0,x1,_,rfl,_,_,rfl,rfl,.inl ⟨by omega,by omega⟩,by show 2 ≤ sizeLine; omega,fun z hz => ?_⟩
   refine ⟨by rw [List.length_map]; omega,s1.trans (zd hz),us ++ [z],by rw [List.map_append]; rfl,?_⟩
   rw [take_snoc hpt,List.map_append]
   exact Paired.snoc (hus.same (zd hz)) zb
  ·rintro ys H1 D ⟨s1,us,rfl,hus⟩ hD
   rw [hbl,List.take_length] at hus
   have t2:=zd (o:=.lst (us.map V.ref)) hD
   have h2D : upd H1 D (.lst (us.map V.ref)) D = some (.lst (us.map V.ref)):=zb
   have hus2:=hus.same t2
   generalize upd H1 D (.lst (us.map V.ref)) = H2 at t2 h2D hus2 ⊢
   refine ⟨p,D,_,rfl,hus2.pts h2D,by rw [List.length_map]; omega,hp,by rw [zgT]; exact zbL p0 hP,fun q hq => ?_,fun z H3 hz s3 h3 => q z H3 ((s1.trans t2).free hz) ((s1.trans t2).trans s3) (by rw [zgT] at h3; exact h3)⟩
   obtain ⟨b,hb,rfl⟩:=List.mem_map.mp hq
   obtain ⟨_,_,y0,y1⟩:=hP.rg b hb
   have v0:=zad (x:=b.1) p0 l
   have v1:=zae (x:=b.1) p0 l
   dsimp only
   have h1 : zn p b.1 l * b.2 ≤ 97 * 97:=Int.mul_le_mul (by omega) (by omega) y0 (by omega)
   have h2:=Int.mul_nonneg v0 y0
   omega
theorem zf3 : FnScope ["rights","many"] ["rights","many"] (zi zbA):=⟨rfl,rfl,rfl,by decide +kernel,rfl,by decide +kernel,by decide +kernel⟩
theorem zf4 {fd : FuncData} (T : Txt K mg t) (F : Fun K "beyond" "beyond" zbA t.beyond fd) : FnOk P w K mg base CX0 1 t.beyond fd ["rights","many"] (zfW K):=by
 refine F.ok zf3 (fun vs H Q E h => ?_) (fun cdv A outer s H vs Q E hr h => ?_)
 ·obtain ⟨a,m,bs,rs,rfl,_⟩:=h
  rfl
 ·obtain ⟨a,m,bs,rs,rfl,ha,hT,hlen,q⟩:=h
  refine ⟨_,(@zj _ _ _ (@zG _ _ _ _ (@zhB _ _ _ _ _ _ _ _ _ _ _ _ _ _ _ _ _ _ _ _ _ (CompSc.of (N':=["right","number","many"]) (ix:=[none,none,some 1]) (zi zbA) ["rights","many"] rfl rfl (by decide +kernel)) rfl (zfp (js:=[0]) (i:=0) (by decide)) (zfp (js:=[1]) (i:=1) (by decide)) (by decide) (by decide) (@zab _ _ _ _ (@pvx _ 0 _ _ rfl)) (fun _ _ _ _ => (@zh _ _ (0) _ (show (["right","number","many"] : List Str).Nodup by decide +kernel) rfl (Or.inl rfl) (by trivial))) (fun _ _ _ _ => (@zI _)) (fun _ _ _ _ => (@zhG _ (K) _ _ _ rfl (@zaN _ _ _ _ _ _ _ _ _ _ (zgR (K:=K) rfl) (@pvx _ 0 _ _ rfl) (@zaS _ _ _ (@pvx _ 2 _ _ rfl)) (@zbg _)))) (fun _ _ _ _ => (@zh _ _ (1) _ (show (["right","number","many"] : List Str).Nodup by decide +kernel) rfl (Or.inl rfl) (by trivial))) (fun _ _ _ _ => (@zI _)) (fun _ _ _ _ => (@pvx _ 1 _ _ rfl)) (by intro _; rfl) (by intros; rfl)))),?_⟩
  have hsl:=sizeLine_eq
  have hbl:=hT.length
  refine ⟨_,rfl,a,rfl,⟨_,ha⟩,zh8 (n:=bs.length) (fun i ys H' => ys = (bey m (rs.take i)).map V.int ∧ zx H H') ⟨rfl,fun _ _ e => e⟩ ?_ ?_ ?_ ?_⟩
  ·rintro i ys H1 hi ⟨_,s1⟩
   exact ⟨_,.ref bs[i],s1.seq ha,by rw [List.getElem?_map,List.getElem?_eq_getElem hi]; rfl⟩
  ·rintro ys H1 ⟨_,s1⟩
   exact ⟨_,s1.seq ha,by rw [List.length_map]; exact Nat.le_refl _⟩
  ·rintro i y ys H1 H2 hi ⟨rfl,s1⟩ ⟨rfl,hy⟩
   obtain ⟨b,rfl,hb⟩:=zas (hy _ (s1.seq ha))
   obtain ⟨r,hr',hat⟩:=Paired.get hT hb
   have hlen1:=hlen (i + 1)
   rw [zex m hr',List.length_append] at hlen1
   refine gY ⟨_,rfl,_,rfl,_,rfl,b,_,rfl,SqT.of (s1 _ _ hat),fun z H3 t2 h2z => ?_⟩
   have ec : zaE (r.map V.int) (some (m : Int)) none = (r.drop m).map V.int:=by
    unfold zaE
    rw [HT.sIx_nat,HT.sIx_none,List.length_map,List.map_drop,List.take_of_length_le (by rw [List.length_drop,List.length_map]; exact Nat.le_refl _)]
    by_cases h : m ≤ r.length
    ·rw [Nat.min_eq_left h]
    ·rw [show min m r.length = r.length by omega,List.drop_of_length_le (by rw [List.length_map]; exact Nat.le_refl _),List.drop_of_length_le (by rw [List.length_map]; omega)]
   rw [ec] at h2z
   refine ⟨z,rfl,⟨_,h2z⟩,zh8 (n:=(r.drop m).length) (fun j ys H' => ys = (bey m (rs.take i) ++ (r.drop m).take j).map V.int ∧ H' = H3) ⟨by rw [List.take_zero,List.append_nil],rfl⟩ ?_ ?_ ?_ ?_⟩
   ·rintro j ys H4 hj ⟨_,rfl⟩
    exact ⟨_,.int (r.drop m)[j],h2z,by rw [List.getElem?_map,List.getElem?_eq_getElem hj]; rfl⟩
   ·rintro ys H4 ⟨_,rfl⟩
    exact ⟨_,h2z,by rw [List.length_map]; exact Nat.le_refl _⟩
   ·rintro j y ys H4 H5 hj ⟨rfl,rfl⟩ ⟨rfl,hy⟩
    obtain ⟨n,rfl,hn⟩:=zW (hy _ (h2z))
    refine gY ⟨_,rfl,?_,?_,rfl⟩
    ·rw [List.length_map,List.length_append,List.length_take]
     omega
    ·rw [take_snoc hn,← List.append_assoc,List.map_append (l₂:=[n])]
     rfl
   ·rintro ys H4 ⟨rfl,rfl⟩
    exact ⟨by rw [List.take_length,zex m hr'],s1.trans t2⟩
  ·rintro ys H1 ⟨rfl,s1⟩ D hD
   rw [hbl,List.take_length] at *
   exact q D _ (s1.free hD) (s1.trans (zd hD)) zb
theorem zg5 : FnScope ["polynomial","many"] ["polynomial","many"] (zi zcA):=⟨rfl,rfl,rfl,by decide +kernel,rfl,by decide +kernel,by decide +kernel⟩
theorem zg6 {fd : FuncData} (T : Txt K mg t) (F : Fun K "sized" "sized" zcA t.sized fd) : FnOk P w K mg base CX0 1 t.sized fd ["polynomial","many"] (zgU K):=by
 refine F.ok zg5 (fun vs H Q E h => ?_) (fun cdv A outer s H vs Q E hr h => ?_)
 ·obtain ⟨a,m,q,rfl,_⟩:=h
  rfl
 ·obtain ⟨a,m,cs,rfl,ha,m1,hlen,q⟩:=h
  refine ⟨_,(@zj _ _ _ (@zG _ _ _ _ (@zaN _ _ _ _ _ _ _ _ _ _ zhI (@zg _ _ _ _ _ _ _ _ (@zfx _) (@pvx _ 0 _ _ rfl) (@zg _ _ _ _ _ _ _ _ (@zhJ _) (@zaW _ _ _ _ _ (@za _ _ _ _ _ (@zf _ _ _ _) (@ze _) (by rfl))) (@pvx _ 1 _ _ rfl))) (@zbg _) (@zaS _ _ _ (@pvx _ 1 _ _ rfl))))),?_⟩
  have hsl:=sizeLine_eq
  refine ⟨_,rfl,by show 1 ≤ sizeLine; omega,fun t1 ht1 => ⟨_,rfl,t1,_,[.int 0],rfl,rfl,zb,by simp,by omega,by omega,by show 1 * _ ≤ sizeLine; omega,fun z H1 s1 h1z => ?_⟩⟩
  rw [Int.toNat_natCast,zb4] at h1z
  have s01:=(zd (o:=.tup [.int 0]) ht1).trans s1
  refine ⟨a,z,_,_,rfl,rfl,s01 _ _ ha,h1z,by rw [List.length_map,List.length_map,List.length_replicate]; omega,fun e => ?_,fun y H2 s2 h2y => ?_⟩
  ·have:=congrArg List.length e
   rw [List.length_map,List.length_replicate] at this
   exact absurd this (by show ¬ m = 0; omega)
  rw [← List.map_append] at h2y
  refine ⟨_,rfl,_,rfl,y,_,rfl,h2y,fun x H3 s3 h3x => ?_⟩
  have ec : zaE ((cs ++ List.replicate m 0).map V.int) none (some (m : Int)) = (szd cs m).map V.int:=by
   unfold zaE szd
   rw [HT.sIx_nat,HT.sIx_none,List.drop_zero,Nat.sub_zero,List.length_map,List.length_append,List.length_replicate,Nat.min_eq_left (by omega),List.map_take]
  rw [ec] at h3x
  exact q x H3 ((s01.trans s2).trans s3) h3x
theorem zt : FnScope ["code","rows","p","k","places","parts","e","needed","relation","power","left"] ["code","rows"] (zi zL):=⟨rfl,rfl,rfl,by decide +kernel,rfl,by decide +kernel,by decide +kernel⟩
theorem zch {fd : FuncData} (T : Txt K mg t) (F : Fun K "joint_locator" "joint_locator" zL t.joint_locator fd) : FnOk P w K mg base CX0 5 t.joint_locator fd ["code","rows"] (zce K):=by
 obtain ⟨fd_heard_points,F_heard_points,b_heard_points⟩:=T.f_heard_points
 have G_heard_points:=zcs (P:=P) (w:=w) (base:=base) T F_heard_points
 obtain ⟨fd_times_entries,F_times_entries,b_times_entries⟩:=T.f_times_entries
 have G_times_entries:=zcg (P:=P) (w:=w) (base:=base) T F_times_entries
 obtain ⟨fd_first_relation,F_first_relation,b_first_relation⟩:=T.f_first_relation
 have G_first_relation:=zb8 (P:=P) (w:=w) (base:=base) T F_first_relation
 obtain ⟨fd_beyond,F_beyond,b_beyond⟩:=T.f_beyond
 have G_beyond:=zf4 (P:=P) (w:=w) (base:=base) T F_beyond
 obtain ⟨fd_sized,F_sized,b_sized⟩:=T.f_sized
 have G_sized:=zg6 (P:=P) (w:=w) (base:=base) T F_sized
 refine F.ok zt (fun vs H Q E h => ?_) (fun cdv A outer s H vs Q E hr h => ?_)
 ·obtain ⟨c,tt,ra,p,k,pl,rbs,rws,rfl,_⟩:=h
  rfl
 ·obtain ⟨c,tt,ra,p,k,pl,rbs,rws,rfl,hc,hra,hrw,hrn,hn,hp,hnd,hpl,hok,k0,k1,q⟩:=h
  refine ⟨_,(@zc _ _ _ _ _ (@zaR _ _ _ _ _ _ (@pvx _ 0 _ _ rfl) (@zau _ _ _ _ _ _ rfl (@zl _ _ _ _ _ (@zh _ _ (2) _ zt.nd rfl (Or.inr rfl) (by trivial)) (@zl _ _ _ _ _ (@zh _ _ (3) _ zt.nd rfl (Or.inr rfl) (by trivial)) (@zl _ _ _ _ _ (@zh _ _ (4) _ zt.nd rfl (Or.inl rfl) (by trivial)) (@zR _) (by rfl)) (by rfl)) (by rfl)) (by rfl) (by rfl)) (by rfl) (by rfl) (by rfl)) (by exact (@zc _ _ _ _ _ (@zac _ _ _ _ _ _ _ _ _ _ _ _ _ (5) _ _ _ zt.nd rfl (Or.inl rfl) (CompSc.of (N':=["row","code"]) (ix:=[none,some 0]) (zi zL) ["code","rows","p","k","places","parts","e","needed","relation","power","left"] rfl rfl (by decide +kernel)) rfl (@z8 _ _ rfl) (@zab _ _ _ _ (@pvx _ 1 _ _ rfl)) (fun _ _ _ _ => (@zh _ _ (0) _ (show (["row","code"] : List Str).Nodup by decide +kernel) rfl (Or.inl rfl) (by trivial))) (fun _ _ _ _ => (@zI _)) (fun _ _ _ _ => (@zu _ _ _ _ _ _ _ _ _ _ _ _ _ _ _ _ G_heard_points (hr.mono (by decide)) rfl T.m_heard_points F_heard_points.kp b_heard_points .nil (@zP _) (@za _ _ _ _ _ (@pvx _ 1 _ _ rfl) (@za _ _ _ _ _ (@pvx _ 0 _ _ rfl) (@ze _) (by rfl)) (by rfl)) (by decide) (by rfl) (by rfl))) (by rfl) (by intro _; rfl) (by trivial)) (by exact (@zc _ _ _ _ _ (@zm _ _ (6) _ _ _ _ zt.nd rfl (Or.inr rfl) (@zh1 _ _ _ _ _ _ zgh (@zf _ _ _ _)) (by rfl) (by trivial)) (by exact (@zc _ _ _ _ _ (@zm _ _ (7) _ _ _ _ zt.nd rfl (Or.inl rfl) (@zU _ _ _ _ (@ze _)) (by rfl) (by trivial)) (by exact (@zc _ _ _ _ _ (@zm _ _ (8) _ _ _ _ zt.nd rfl (Or.inl rfl) (@zbq _ _ _) (by rfl) (by trivial)) (by exact (@zc _ _ _ _ _ (@zcF _ _ _ _ _ _ PassesOwn.never (@zB _ _ _ _ _ _ _ _ (@ziq _) (@pvx _ 8 _ _ rfl) (@zbq _ _ _) (zK _)) (@zc _ _ _ _ _ (@zgc _ _ (6) _ _ _ _ _ _ zt.nd rfl (Or.inr rfl) (@zf _ _ _ _) zhl (by trivial)) (by exact (@zc _ _ _ _ _ (ziS (@zm _ _ (9) _ _ _ _ zt.nd rfl (Or.inr rfl) (@zg _ _ _ _ _ _ _ _ (@zdC _ (K) rfl) (@zg _ _ _ _ _ _ _ _ (@zhF _) (@zaW _ _ _ _ _ (@za _ _ _ _ _ (@zf _ _ _ _) (@ze _) (by rfl))) (@pvx _ 6 _ _ rfl)) (@zaW _ _ _ _ _ (@za _ _ _ _ _ (@zf _ _ _ _) (@ze _) (by rfl)))) (by rfl) (by trivial))) (by exact (@zc _ _ _ _ _ (@zbD _ _ _ _ (@zcN _ _ _ _ _ _ _ _ _ _ _ _ PySem.F.plainAttrs_list PySem.F.slot_list_append PySem.F.type_list_append (@zaV _) (@pvx _ 7 _ _ rfl) (@za _ _ _ _ _ (@zao _ _ _ _ _ _ _ _ _ _ _ _ _ (CompSc.of (N':=["points","p","power"]) (ix:=[none,some 2,some 9]) (zi zL) ["code","rows","p","k","places","parts","e","needed","relation","power","left"] rfl rfl (by decide +kernel)) rfl (@z8 _ _ rfl) (@zab _ _ _ _ (@pvx _ 5 _ _ rfl)) (fun _ _ _ _ => (@zh _ _ (0) _ (show (["points","p","power"] : List Str).Nodup by decide +kernel) rfl (Or.inl rfl) (by trivial))) (fun _ _ _ _ => (@zI _)) (fun _ _ _ _ => (@zu _ _ _ _ _ _ _ _ _ _ _ _ _ _ _ _ G_times_entries (hr.mono (by decide)) rfl T.m_times_entries F_times_entries.kp b_times_entries .nil (@zP _) (@za _ _ _ _ _ (@pvx _ 1 _ _ rfl) (@za _ _ _ _ _ (@pvx _ 2 _ _ rfl) (@za _ _ _ _ _ (@pvx _ 0 _ _ rfl) (@ze _) (by rfl)) (by rfl)) (by rfl)) (by decide) (by rfl) (by rfl))) (by intro _; rfl)) (@ze _) (by rfl)) (by rfl) (by rfl) (by rfl) (by rfl) (by rfl)) (by rfl)) (by exact (@zj _ _ _ (@zm _ _ (8) _ _ _ _ zt.nd rfl (Or.inl rfl) (@zu _ _ _ _ _ _ _ _ _ _ _ _ _ _ _ _ G_first_relation (hr.mono (by decide)) rfl T.m_first_relation F_first_relation.kp b_first_relation .nil (@zP _) (@za _ _ _ _ _ (@pvx _ 2 _ _ rfl) (@za _ _ _ _ _ (@zao _ _ _ _ _ _ _ _ _ _ _ _ _ (CompSc.of (N':=["rights","k","e"]) (ix:=[none,some 3,some 6]) (zi zL) ["code","rows","p","k","places","parts","e","needed","relation","power","left"] rfl rfl (by decide +kernel)) rfl (@z8 _ _ rfl) (@zab _ _ _ _ (@pvx _ 7 _ _ rfl)) (fun _ _ _ _ => (@zh _ _ (0) _ (show (["rights","k","e"] : List Str).Nodup by decide +kernel) rfl (Or.inl rfl) (by trivial))) (fun _ _ _ _ => (@zI _)) (fun _ _ _ _ => (@zu _ _ _ _ _ _ _ _ _ _ _ _ _ _ _ _ G_beyond (hr.mono (by decide)) rfl T.m_beyond F_beyond.kp b_beyond .nil (@zP _) (@za _ _ _ _ _ (@pvx _ 0 _ _ rfl) (@za _ _ _ _ _ (@zg _ _ _ _ _ _ _ _ (@zE _) (@pvx _ 1 _ _ rfl) (@pvx _ 2 _ _ rfl)) (@ze _) (by rfl)) (by rfl)) (by decide) (by rfl) (by rfl))) (by intro _; rfl)) (@ze _) (by rfl)) (by rfl)) (by decide) (by rfl) (by rfl)) (by rfl) (by trivial)))))))))) (by exact (@zc _ _ _ _ _ (@zm _ _ (10) _ _ _ _ zt.nd rfl (Or.inr rfl) (@zu _ _ _ _ _ _ _ _ _ _ _ _ _ _ _ _ G_sized (hr.mono (by decide)) rfl T.m_sized F_sized.kp b_sized .nil (@zP _) (@za _ _ _ _ _ (@zaD _ _ _ _ _ _ _ _ _ (@zaJ _) (by rfl) T.tuple_ boot_tuple (@za _ _ _ _ _ (@pvx _ 8 _ _ rfl) (@ze _) (by rfl)) (by decide) (by decide) (by rfl) (by rfl)) (@za _ _ _ _ _ (@zg _ _ _ _ _ _ _ _ (@zE _) (@pvx _ 6 _ _ rfl) (@zf _ _ _ _)) (@ze _) (by rfl)) (by rfl)) (by decide) (by rfl) (by rfl)) (by rfl) (by trivial)) (by exact (@zj _ _ _ (@zG _ _ _ _ (@zaW _ _ _ _ _ (@za _ _ _ _ _ (@pvx _ 6 _ _ rfl) (@za _ _ _ _ _ (@pvx _ 10 _ _ rfl) (@za _ _ _ _ _ (@zao _ _ _ _ _ _ _ _ _ _ _ _ _ (CompSc.of (N':=["points","p","left","k","e"]) (ix:=[none,some 2,some 10,some 3,some 6]) (zi zL) ["code","rows","p","k","places","parts","e","needed","relation","power","left"] rfl rfl (by decide +kernel)) rfl (@z8 _ _ rfl) (@zab _ _ _ _ (@pvx _ 5 _ _ rfl)) (fun _ _ _ _ => (@zh _ _ (0) _ (show (["points","p","left","k","e"] : List Str).Nodup by decide +kernel) rfl (Or.inl rfl) (by trivial))) (fun _ _ _ _ => (@zI _)) (fun _ _ _ _ => (@zu _ _ _ _ _ _ _ _ _ _ _ _ _ _ _ _ G_sized (hr.mono (by decide)) rfl T.m_sized F_sized.kp b_sized .nil (@zP _) (@za _ _ _ _ _ (@zu _ _ _ _ _ _ _ _ _ _ _ _ _ _ _ _ G_times_entries (hr.mono (by decide)) rfl T.m_times_entries F_times_entries.kp b_times_entries .nil (@zP _) (@za _ _ _ _ _ (@pvx _ 1 _ _ rfl) (@za _ _ _ _ _ (@pvx _ 2 _ _ rfl) (@za _ _ _ _ _ (@pvx _ 0 _ _ rfl) (@ze _) (by rfl)) (by rfl)) (by rfl)) (by decide) (by rfl) (by rfl)) (@za _ _ _ _ _ (@zg _ _ _ _ _ _ _ _ (@zE _) (@pvx _ 3 _ _ rfl) (@pvx _ 4 _ _ rfl)) (@ze _) (by rfl)) (by rfl)) (by decide) (by rfl) (by rfl))) (by intro _; rfl)) (@ze _) (by rfl)) (by rfl)) (by rfl))))))))))))))))))),?_⟩
  have hsl:=sizeLine_eq
  have rp:=zp hp
  have p0 : 0 < p:=by omega
  have hrl:=hrw.length
  obtain ⟨ptss,hptss⟩ : ∃ ptss,ptss = rws.map (hps pl):=⟨_,rfl⟩
  have hP : ∀ pts ∈ ptss,Pts p pts:=fun pts h => by
   rw [hptss] at h
   obtain ⟨rw,h1,rfl⟩:=List.mem_map.mp h
   exact zhD hnd hpl (hok rw h1)
  have hPl : ∀ pts ∈ ptss,pts.length ≤ 16:=fun pts h => by
   rw [hptss] at h
   obtain ⟨rw,h1,rfl⟩:=List.mem_map.mp h
   exact Nat.le_trans (zbJ pl rw) hn
  have hpt : ptss.length = rws.length:=by rw [hptss,List.length_map]
  refine ⟨_,rfl,c,_,rfl,SqT.of hc.1,rfl,_,_,rfl,_,_,rfl,_,_,rfl,rfl,?_⟩
  refine ⟨_,rfl,ra,rfl,⟨_,hra⟩,z0 (n:=rbs.length) (fun i ys H' => zx H H' ∧ ∃ us : List Addr,ys = us.map V.ref ∧ zd1 H' us (ptss.take i)) ⟨fun _ _ e => e,[],rfl,.nil⟩ ?_ ?_ ?_ ?_⟩
  ·rintro i ys H1 hi ⟨s1,_⟩
   exact ⟨_,.ref rbs[i],s1.seq hra,by rw [List.getElem?_map,List.getElem?_eq_getElem hi]; rfl⟩
  ·rintro ys H1 ⟨s1,_⟩
   exact ⟨_,s1.seq hra,by rw [List.length_map]; exact Nat.le_refl _⟩
  ·rintro i y ys H1 H2 hi ⟨s1,us,rfl,hus⟩ ⟨rfl,hy⟩
   obtain ⟨b,rfl,hb⟩:=zas (hy _ (s1.seq hra))
   obtain ⟨rw,hrwi,hat,hrwl⟩:=Paired.get hrw hb
   have hul:=hus.length
   rw [List.length_take] at hul
   refine gY ⟨_,rfl,_,rfl,c,tt,b,p,k,pl,rw,rfl,hc.same s1,⟨SqL.of (s1 _ _ hat),hrwl⟩,by omega,fun l bs H3 hl3 s3 h3l hB => ?_⟩
   refine ⟨by rw [List.length_map]; omega,s1.trans s3,us ++ [l],by rw [List.map_append]; rfl,?_⟩
   have hpi : ptss[i]? = some (hps pl rw):=by rw [hptss,List.getElem?_map,hrwi]; rfl
   rw [take_snoc hpi]
   exact Paired.snoc (hus.same s3) ⟨bs,h3l,hB⟩
  ·rintro ys H1 pa ⟨s1,us,rfl,hus⟩ hpa
   rw [hrl,← hpt,List.take_length] at hus
   have t2:=zd (o:=.lst (us.map V.ref)) hpa
   have h2p : upd H1 pa (.lst (us.map V.ref)) pa = some (.lst (us.map V.ref)):=zb
   have hus2:=hus.same t2
   have s2:=s1.trans t2
   generalize upd H1 pa (.lst (us.map V.ref)) = H2 at t2 h2p hus2 s2 ⊢
   have hul:=hus2.length
   refine ⟨_,rfl,Nat.zero_le _,fun na hna => ?_⟩
   have t3:=zd (o:=.lst []) hna
   refine ⟨fun m σ H' => ∃ (n : Nat) (ns : List Addr) (ev : Int) (rel : V) (e9 e10 : Option V),σ = [some (.ref c),some (.ref ra),some (.int p),some (.int (k : Int)),some (.ref tt),some (.ref pa),some (.int ev),some (.ref na),some rel,e9,e10] ∧ zx H2 H' ∧ H' na = some (.lst (ns.map V.ref)) ∧ NdA p ptss na H' ns (List.range n) ∧
    ((rel = .non ∧ ev = (n : Int) - 1 ∧ m = 20 - n ∧ n ≤ 16 ∧ ∀ e',e' < n → Indep p (zbz k e' ptss) (zaA p k e' ptss)) ∨ (∃ (rl : Addr) (cc : List Int) (mm e : Nat),rel = .ref rl ∧ ev = (e : Int) ∧ e ≤ 16 ∧ H' rl = some (.lst (cc.map V.int)) ∧ IsP p (mm + 1) cc ∧ mm < e + 1 ∧ gl cc mm = 1 ∧ Dep p (zbz k e ptss) (zaA p k e ptss) cc ∧ ∀ e',e' < e → Indep p (zbz k e' ptss) (zaA p k e' ptss))),
    ⟨20,0,[],_,_,_,_,rfl,t3,zb,.nil,.inl ⟨rfl,rfl,rfl,by omega,fun _ h => by omega⟩⟩,?_⟩
   rintro m σ H3 ⟨n,ns,ev,rel,e9,e10,rfl,s3,h3n,hnd3,hst⟩
   have hnl:=hnd3.length
   rw [List.length_range] at hnl
   rcases hst with ⟨rfl,rfl,rfl,hn16,hind⟩ | ⟨rl,cc,mm,e,rfl,rfl,he16,h3r,hcc,hmm,hc1,hdep,hind⟩
   ·refine ⟨_,rfl,rfl,_,rfl,?_⟩
    refine zaa (fun _ => ?_) (fun h => absurd rfl h)
    refine ⟨fun σ' H' => ∃ m',m' < 20 - n ∧ ∃ (n : Nat) (ns : List Addr) (ev : Int) (rel : V) (e9 e10 : Option V),σ' = [some (.ref c),some (.ref ra),some (.int p),some (.int (k : Int)),some (.ref tt),some (.ref pa),some (.int ev),some (.ref na),some rel,e9,e10] ∧ zx H2 H' ∧ H' na = some (.lst (ns.map V.ref)) ∧ NdA p ptss na H' ns (List.range n) ∧
     ((rel = .non ∧ ev = (n : Int) - 1 ∧ m' = 20 - n ∧ n ≤ 16 ∧ ∀ e',e' < n → Indep p (zbz k e' ptss) (zaA p k e' ptss)) ∨ (∃ (rl : Addr) (cc : List Int) (mm e : Nat),rel = .ref rl ∧ ev = (e : Int) ∧ e ≤ 16 ∧ H' rl = some (.lst (cc.map V.int)) ∧ IsP p (mm + 1) cc ∧ mm < e + 1 ∧ gl cc mm = 1 ∧ Dep p (zbz k e ptss) (zaA p k e ptss) cc ∧ ∀ e',e' < e → Indep p (zbz k e' ptss) (zaA p k e' ptss))),fun _ _ z => z,?_⟩
    refine ⟨_,rfl,_,_,rfl,rfl,?_⟩
    have e1 : (n : Int) - 1 + 1 = (n : Int):=by omega
    refine ⟨fun σ' H' => ∃ pw : Addr,σ' = [some (.ref c),some (.ref ra),some (.int p),some (.int (k : Int)),some (.ref tt),some (.ref pa),some (.int (n : Int)),some (.ref na),some .non,some (.ref pw),e10] ∧ zx H3 H' ∧ SqT K H' pw ((unit n).map V.int),?_,?_⟩
    ·refine ⟨by show 1 ≤ sizeLine; omega,fun t1 ht1 => ⟨_,rfl,t1,_,[.int 0],rfl,rfl,SqT.of zb,by simp,by omega,by omega,by show 1 * _ ≤ sizeLine; omega,fun z H4 s4 h4z => ?_⟩⟩
     rw [e1,Int.toNat_natCast,zb4] at h4z
     have s34:=(zd (o:=.tup [.int 0]) ht1).trans s4
     refine ⟨by show 1 ≤ sizeLine; omega,fun t2 ht2 => ⟨z,t2,_,_,rfl,rfl,ziU (zd ht2) h4z,SqT.of zb,by simp,by rw [List.length_map,List.length_replicate]; show n + 1 ≤ sizeLine; omega,fun e0 => ?_,fun _ pw hpw => ?_⟩⟩
     ·have hn0 : n = 0:=by
       have:=congrArg List.length e0
       rw [List.length_map,List.length_replicate] at this
       exact this
      subst hn0
      exact ⟨t2,congrArg (fun v : Int => [some (V.ref c),some (.ref ra),some (.int p),some (.int (k : Int)),some (.ref tt),some (.ref pa),some (.int v),some (.ref na),some .non,some (.ref t2),e10]) e1,s34.trans (zd ht2),SqT.of zb⟩
     ·refine ⟨pw,congrArg (fun v : Int => [some (V.ref c),some (.ref ra),some (.int p),some (.int (k : Int)),some (.ref tt),some (.ref pa),some (.int v),some (.ref na),some .non,some (.ref pw),e10]) e1,(s34.trans (zd ht2)).trans (zd hpw),?_⟩
      have : (unit n).map V.int = (List.replicate n (0 : Int)).map V.int ++ [.int 1]:=by unfold unit; rw [List.map_append]; rfl
      rw [this]
      exact SqT.of zb
    ·rintro σ' H4 ⟨pw,rfl,s4,h4p⟩
     have s24:=s3.trans s4
     have h4a:=s24 _ _ h2p
     have hus4:=hus2.same s24
     have h4n:=s4 _ _ h3n
     have hnd4:=hnd3.same s4
     refine ⟨_,rfl,.inl ⟨rfl,_,SqL.of h4n⟩,_,rfl,pa,rfl,⟨_,SqL.of h4a⟩,z0 (n:=us.length) (fun i ys H' => zx H4 H' ∧ ∃ ws : List Addr,ys = ws.map V.ref ∧ zcY H' ws ((ptss.take i).map fun pts => Tp p pts n)) ⟨fun _ _ e => e,[],rfl,.nil⟩ ?_ ?_ ?_ ?_⟩
     ·rintro i ys H5 hi ⟨s5,_⟩
      exact ⟨_,.ref us[i],SqL.of (s5 _ _ h4a),by rw [List.getElem?_map,List.getElem?_eq_getElem hi]; rfl⟩
     ·rintro ys H5 ⟨s5,_⟩
      exact ⟨_,SqL.of (s5 _ _ h4a),by rw [List.length_map]; exact Nat.le_refl _⟩
     ·rintro i y ys H5 H6 hi ⟨s5,ws,rfl,hws⟩ ⟨rfl,hy⟩
      obtain ⟨b,rfl,hb⟩:=zas (hy _ (SqL.of (s5 _ _ h4a)))
      obtain ⟨pts,hpts,bs,hat,hB⟩:=Paired.get hus4 hb
      have hwl:=hws.length
      rw [List.length_map,List.length_take] at hwl
      have hm:=List.mem_of_getElem? hpts
      refine gY ⟨_,rfl,_,rfl,_,rfl,p,pw,b,unit n,bs,pts,rfl,ziU s5 h4p,SqL.of (s5 _ _ hat),hB.same s5,Nat.le_trans (hPl pts hm) (by decide),hp,hP pts hm,fun z H7 hz s7 h7z => ?_⟩
      refine ⟨by rw [List.length_map]; omega,s5.trans s7,ws ++ [z],by rw [List.map_append]; rfl,?_⟩
      rw [take_snoc hpts,List.map_append]
      exact Paired.snoc (hws.same s7) h7z
     ·rintro ys H5 D2 ⟨s5,ws,rfl,hws⟩ hD2
      rw [hul,List.take_length] at hws
      have t6:=zd (o:=.lst (ws.map V.ref)) hD2
      have h6D : upd H5 D2 (.lst (ws.map V.ref)) D2 = some (.lst (ws.map V.ref)):=zb
      have hDn : D2 ≠ na:=fun e => by
       have:=s5 _ _ h4n
       rw [← e,hD2] at this
       cases this
      have s46:=s5.trans t6
      have hws6:=hws.same t6
      generalize upd H5 D2 (.lst (ws.map V.ref)) = H6 at t6 h6D s46 hws6 ⊢
      have h6n:=s46 _ _ h4n
      have hnd6:=hnd4.same s46
      refine ⟨na,_,_,rfl,rfl,h6n,by rw [List.length_map]; omega,?_⟩
      have s27 : zx H2 (upd H6 na (.lst (ns.map V.ref ++ [.ref D2]))):=zX (s24.trans s46) hna
      have h7n : upd H6 na (.lst (ns.map V.ref ++ [.ref D2])) na = some (.lst ((ns ++ [D2]).map V.ref)):=by rw [zb,List.map_append]; rfl
      have hnd7 : NdA p ptss na (upd H6 na (.lst (ns.map V.ref ++ [.ref D2]))) (ns ++ [D2]) (List.range (n + 1)):=by
       rw [List.range_succ]
       exact Paired.snoc (hnd6.put h6n) ⟨ws,by rw [zo hDn]; exact h6D,hDn,hws6.put h6n⟩
      generalize upd H6 na (.lst (ns.map V.ref ++ [.ref D2])) = H7 at s27 h7n hnd7 ⊢
      have hn7:=hnd7.length
      rw [List.length_range] at hn7
      refine ⟨_,rfl,_,rfl,na,rfl,⟨_,SqL.of h7n⟩,z0 (n:=(ns ++ [D2]).length) (fun i ys H' => zx H7 H' ∧ ∃ vs : List Addr,ys = vs.map V.ref ∧ LsA H' vs ((zaA p k n ptss).take i)) ⟨fun _ _ e => e,[],rfl,.nil⟩ ?_ ?_ ?_ ?_⟩
      ·rintro i ys H8 hi ⟨s8,_⟩
       exact ⟨_,.ref (ns ++ [D2])[i],SqL.of (s8 _ _ h7n),by rw [List.getElem?_map,List.getElem?_eq_getElem hi]; rfl⟩
      ·rintro ys H8 ⟨s8,_⟩
       exact ⟨_,SqL.of (s8 _ _ h7n),by rw [List.length_map]; exact Nat.le_refl _⟩
      ·rintro i y ys H8 H9 hi ⟨s8,vs,rfl,hvs⟩ ⟨rfl,hy⟩
       obtain ⟨b,rfl,hb⟩:=zas (hy _ (SqL.of (s8 _ _ h7n)))
       obtain ⟨i',hi',us',hat,_,hT⟩:=Paired.get hnd7 hb
       have hin : i < n + 1:=by omega
       rw [List.getElem?_range hin] at hi'
       cases hi'
       have hvl:=hvs.length
       rw [List.length_take] at hvl
       refine gY ⟨_,rfl,_,rfl,_,rfl,_,_,rfl,rfl,b,k + n,us',_,(by show [V.ref b,V.int ((k : Int) + (n : Int))] = _; rw [Int.natCast_add]),SqL.of (s8 _ _ hat),hT.same s8,fun j => ?_,fun z Ha hz sa haz => ?_⟩
       ·rw [← List.map_take,zcz hp fun q hq => hP q (List.mem_of_mem_take hq)]
        refine Nat.le_trans (zeZ (b:=16) fun q hq => ?_) ?_
        ·have:=hPl q (List.mem_of_mem_take hq)
         omega
        ·rw [List.length_take]
         omega
       ·refine ⟨by rw [List.length_map]; omega,s8.trans sa,vs ++ [z],by rw [List.map_append]; rfl,?_⟩
        have hvi : (zaA p k n ptss)[i]? = some (bey (k + n) (ptss.map fun pts => Tp p pts i)):=by
         unfold zaA
         rw [List.getElem?_map,List.getElem?_range hin]
         rfl
        rw [take_snoc hvi]
        exact Paired.snoc (hvs.same sa) haz
      ·rintro ys H8 D3 ⟨s8,vs,rfl,hvs⟩ hD3
       have hvn : (zaA p k n ptss).length = n + 1:=by unfold zaA; rw [List.length_map,List.length_range]
       rw [hn7,← hvn,List.take_length] at hvs
       have t9:=zd (o:=.lst (vs.map V.ref)) hD3
       have h9D : upd H8 D3 (.lst (vs.map V.ref)) D3 = some (.lst (vs.map V.ref)):=zb
       have hvs9:=hvs.same t9
       have s79:=s8.trans t9
       generalize upd H8 D3 (.lst (vs.map V.ref)) = H9 at t9 h9D hvs9 s79 ⊢
       refine ⟨p,D3,vs,zaA p k n ptss,zbz k n ptss,rfl,h9D,hvs9,(fun e => by (rw [e] at hvn; cases hvn)),by omega,?_,zhM hp hP,hp,fun Ha sa hI => ?_,fun l cc mm Ha hl sa hal hcc hmm hc1 hD => ?_⟩
       ·refine Nat.le_trans (zeZ (b:=16) fun q hq => ?_) (by omega)
        have:=hPl q hq
        omega
       ·have hlt:=zg0 hp hPl hI
        refine ⟨20 - (n + 1),by omega,n + 1,ns ++ [D2],_,_,_,_,rfl,s27.trans (s79.trans sa),(s79.trans sa) _ _ h7n,hnd7.same (s79.trans sa),.inl ⟨rfl,by omega,rfl,by omega,fun e' he' => ?_⟩⟩
        by_cases e : e' = n
        ·subst e; exact hI
        ·exact hind e' (by omega)
       ·exact ⟨0,by omega,n + 1,ns ++ [D2],_,_,_,_,rfl,s27.trans (s79.trans sa),(s79.trans sa) _ _ h7n,hnd7.same (s79.trans sa),.inr ⟨l,cc,mm,n,rfl,rfl,hn16,hal,hcc,by omega,hc1,hD,hind⟩⟩
   ·refine ⟨_,rfl,rfl,_,rfl,?_⟩
    refine zaa (fun h => absurd h (by simp)) (fun _ => ?_)
    have h3a:=s3 _ _ h2p
    have hus3:=hus2.same s3
    have hcl : cc.length = mm + 1:=hcc.1
    refine ⟨_,rfl,rl,_,rfl,.inl ⟨SqL.of h3r,fun tl htl => ?_⟩⟩
    have t4:=zd (o:=.tup (cc.map V.int)) htl
    have h4t : upd H3 tl (.tup (cc.map V.int)) tl = some (.tup (cc.map V.int)):=zb
    generalize upd H3 tl (.tup (cc.map V.int)) = H4 at t4 h4t ⊢
    refine ⟨_,rfl,_,_,rfl,rfl,tl,e + 1,cc,rfl,h4t,by omega,by omega,fun lf H5 s5 h5f => ?_⟩
    have L:=ziV hp (k:=k) hP hcc hmm hc1 hdep hind
    generalize szd cc (e + 1) = left at h5f L ⊢
    have s35:=t4.trans s5
    have h5a:=s35 _ _ h3a
    have hus5:=hus3.same s35
    refine ⟨_,rfl,_,rfl,_,rfl,pa,rfl,⟨_,SqL.of h5a⟩,z0 (n:=us.length) (fun i ys H' => zx H5 H' ∧ ∃ ws : List Addr,ys = ws.map V.ref ∧ zcY H' ws ((ptss.take i).map fun pts => szd (thr p (tmP p left pts)) (k + e))) ⟨fun _ _ e => e,[],rfl,.nil⟩ ?_ ?_ ?_ ?_⟩
    ·rintro i ys H6 hi ⟨s6,_⟩
     exact ⟨_,.ref us[i],SqL.of (s6 _ _ h5a),by rw [List.getElem?_map,List.getElem?_eq_getElem hi]; rfl⟩
    ·rintro ys H6 ⟨s6,_⟩
     exact ⟨_,SqL.of (s6 _ _ h5a),by rw [List.length_map]; exact Nat.le_refl _⟩
    ·rintro i y ys H6 H7 hi ⟨s6,ws,rfl,hws⟩ ⟨rfl,hy⟩
     obtain ⟨b,rfl,hb⟩:=zas (hy _ (SqL.of (s6 _ _ h5a)))
     obtain ⟨pts,hpts,bs,hat,hB⟩:=Paired.get hus5 hb
     have hwl:=hws.length
     rw [List.length_map,List.length_take] at hwl
     have hm:=List.mem_of_getElem? hpts
     have hl16:=hPl pts hm
     refine gY ⟨_,rfl,_,rfl,_,rfl,p,lf,b,left,bs,pts,rfl,SqT.of (s6 _ _ h5f),SqL.of (s6 _ _ hat),hB.same s6,Nat.le_trans hl16 (by decide),hp,hP pts hm,fun z H8 hz s8 h8z => ?_⟩
     refine ⟨_,rfl,_,rfl,_,_,rfl,rfl,z,k + e,_,(by show [V.ref z,V.int ((k : Int) + (e : Int))] = _; rw [Int.natCast_add]),h8z,by omega,by rw [zbW hp (hP pts hm)]; omega,fun x H9 s9 h9x => ?_⟩
     refine ⟨by rw [List.length_map]; omega,s6.trans (s8.trans s9),ws ++ [x],by rw [List.map_append]; rfl,?_⟩
     rw [take_snoc hpts,List.map_append]
     exact Paired.snoc (hws.same (s8.trans s9)) h9x
    ·rintro ys H6 D2 ⟨s6,ws,rfl,hws⟩ hD2
     rw [hul,List.take_length] at hws
     have t7:=zd (o:=.lst (ws.map V.ref)) hD2
     have h7D : upd H6 D2 (.lst (ws.map V.ref)) D2 = some (.lst (ws.map V.ref)):=zb
     have hws7:=hws.same t7
     have s57:=s6.trans t7
     generalize upd H6 D2 (.lst (ws.map V.ref)) = H7 at t7 h7D hws7 s57 ⊢
     refine ⟨by show 3 ≤ sizeLine; omega,fun z hz => ?_⟩
     have t8:=zd (o:=.tup [.int (e : Int),.ref lf,.ref D2]) hz
     have s27:=(s2.trans s3).trans (s35.trans s57)
     exact q z lf D2 ws e left _ _ (s27.trans t8) zb ((s57.trans t8) _ _ h5f) (t8 _ _ h7D) (hws7.same t8) he16 (by rw [← hptss]; exact L)
theorem zaL : FnScope ["code","row","e","left","rights"] ["code","row"] (zi zaU):=⟨rfl,rfl,rfl,by decide +kernel,rfl,by decide +kernel,by decide +kernel⟩
theorem zdj {fd : FuncData} (T : Txt K mg t) (F : Fun K "locator_of" "locator_of" zaU t.locator_of fd) : FnOk P w K mg base CX0 6 t.locator_of fd ["code","row"] (zdh K):=by
 obtain ⟨fd_joint_locator,F_joint_locator,b_joint_locator⟩:=T.f_joint_locator
 have G_joint_locator:=zch (P:=P) (w:=w) (base:=base) T F_joint_locator
 refine F.ok zaL (fun vs H Q E h => ?_) (fun cdv A outer s H vs Q E hr h => ?_)
 ·obtain ⟨c,tt,r,p,k,pl,rw,rfl,_⟩:=h
  rfl
 ·obtain ⟨c,tt,r,p,k,pl,rw,rfl,hc,hra,hrl,hn,hp,hnd,hpl,hrg,k0,k1,q⟩:=h
  refine ⟨_,(@zc _ _ _ _ _ (@zaR _ _ _ _ _ _ (@zu _ _ _ _ _ _ _ _ _ _ _ _ _ _ _ _ G_joint_locator (hr.mono (by decide)) rfl T.m_joint_locator F_joint_locator.kp b_joint_locator .nil (@zP _) (@za _ _ _ _ _ (@pvx _ 0 _ _ rfl) (@za _ _ _ _ _ (@zU _ _ _ _ (@za _ _ _ _ _ (@pvx _ 1 _ _ rfl) (@ze _) (by rfl))) (@ze _) (by rfl)) (by rfl)) (by decide) (by rfl) (by rfl)) (@zau _ _ _ _ _ _ rfl (@zl _ _ _ _ _ (@zh _ _ (2) _ zaL.nd rfl (Or.inl rfl) (by trivial)) (@zl _ _ _ _ _ (@zh _ _ (3) _ zaL.nd rfl (Or.inl rfl) (by trivial)) (@zl _ _ _ _ _ (@zh _ _ (4) _ zaL.nd rfl (Or.inl rfl) (by trivial)) (@zR _) (by rfl)) (by rfl)) (by rfl)) (by rfl) (by rfl)) (by rfl) (by rfl) (by rfl)) (by exact (@zj _ _ _ (@zG _ _ _ _ (@zaW _ _ _ _ _ (@za _ _ _ _ _ (@pvx _ 2 _ _ rfl) (@za _ _ _ _ _ (@pvx _ 3 _ _ rfl) (@za _ _ _ _ _ (@zA _ _ _ _ _ _ _ (@zq _) (@pvx _ 4 _ _ rfl) (@zf _ _ _ _) (fun _ _ => rfl)) (@ze _) (by rfl)) (by rfl)) (by rfl))))))),?_⟩
  have hsl:=sizeLine_eq
  refine ⟨_,rfl,_,rfl,by show 1 ≤ sizeLine; omega,fun ra hrA => ?_⟩
  have t1:=zd (o:=.lst [.ref r]) hrA
  refine ⟨c,tt,ra,p,k,pl,[r],[rw],rfl,hc.same t1,SqL.of zb,.cons ⟨t1 _ _ hra,hrl⟩ .nil,(by show 1 ≤ 10; decide),hn,hp,hnd,hpl,fun rw' h => ?_,k0,k1,fun z la l3 us e left rights H2 s2 h2z h2l h2r hT he L => ?_⟩
  ·obtain rfl : rw' = rw:=by simpa using h
   exact hrg
  have hl:=hT.length
  have hr1 : rights.length = 1:=by rw [L.rt]; rfl
  obtain ⟨u0,rfl⟩ : ∃ u0,us = [u0]:=List.length_eq_one_iff.mp (by omega)
  obtain ⟨right,rfl⟩ : ∃ r0,rights = [r0]:=List.length_eq_one_iff.mp hr1
  obtain ⟨r',hr',hu⟩:=Paired.get hT (i:=0) (a:=u0) rfl
  cases hr'
  refine ⟨z,_,rfl,SqT.of h2z,rfl,_,_,rfl,_,_,rfl,_,_,rfl,rfl,?_⟩
  refine ⟨_,rfl,_,rfl,_,rfl,l3,_,_,_,rfl,rfl,SqL.of h2r,rfl,by show 3 ≤ sizeLine; omega,fun y hy => ?_⟩
  have s12:=t1.trans s2
  exact q y la u0 e left right _ (s12.trans (zd hy)) zb ((zd hy) _ _ h2l) ((zd hy) _ _ hu) he L
end
end My
end
section
set_option maxHeartbeats 3999000
namespace My
open PySem L2 PyProof.Rows
theorem zc5 {S : List Nat} : ∀ {l : List Nat},l.Nodup → l.length ≤ (l.filter fun i => decide (i ∉ S)).length + S.length:=by
 induction S with
 | nil =>
  intro l _
  rw [List.filter_eq_self.mpr (by simp)]
  exact Nat.le_refl _
 | cons a S ih =>
  intro l hl
  have h1:=ih hl
  have h2 : l.filter (fun i => decide (i ∉ a :: S)) = (l.filter fun i => decide (i ∉ S)).filter (fun i => i != a):=by
   rw [List.filter_filter]
   refine List.filter_congr fun i _ => ?_
   by_cases e : i = a <;> by_cases e2 : i ∈ S <;> simp [e,e2]
  have h3:=List.Nodup.erase_eq_filter (hl.filter fun i => decide (i ∉ S)) a
  have h4 : (l.filter fun i => decide (i ∉ S)).length ≤ ((l.filter fun i => decide (i ∉ S)).erase a).length + 1:=by
   rw [List.length_erase]
   split <;> omega
  rw [h2,← h3,List.length_cons]
  omega
theorem zc6 {f : Nat → Int} (m : Nat) : ∀ n,sm (m + n) f = sm m f + sm n fun j => f (m + j)
 | 0 => by show sm m f = sm m f + 0; omega
 | n + 1 => by
  show sm (m + n) f + f (m + n) = sm m f + (sm n (fun j => f (m + j)) + f (m + n))
  rw [zc6 m n]
  omega
end My
end
section
set_option maxHeartbeats 3999000
namespace My
open PySem L2 PyProof.Rows
theorem zeC {l : List Nat} {d : Nat} (h : l.Nodup) (hl : ∀ x ∈ l,x < d) : l.length ≤ d:=by
 have h1:=zc5 (S:=List.range d) h
 rw [List.filter_eq_nil_iff.mpr (fun x hx => by have:=hl x hx; simpa using this),List.length_range] at h1
 simpa using h1
theorem zfD {p : Int} (hp : p ∈ zk) {L N m : Nat} {vs : List (List Int)} {cl : List (Nat × List Int)} (E : Ech p L N m vs cl) (hm : m < N) {w0 : List Int} (W0 : Wh p L N m vs [] w0) : ∀ i,i ≤ cl.length → ∃ w,Wh p L N m vs (cl.take i) w
 | 0,_ => ⟨w0,by rw [List.take_zero]; exact W0⟩
 | i + 1,hi => by
  obtain ⟨w,W⟩:=zfD hp E hm W0 i (by omega)
  exact ⟨_,zfv hp E hm (List.getElem?_eq_getElem (by omega)) W⟩
theorem zg7 {p : Int} (hp : p ∈ zk) {L : Nat} {vs : List (List Int)} (hv : ∀ v ∈ vs,v.length = L ∧ ∀ c ∈ v,0 ≤ c ∧ c < p) (hI : Indep p L vs) : ∀ m,m ≤ vs.length → ∃ cl,Ech p L vs.length m vs cl
 | 0,_ => ⟨[],Ech.start p L vs.length vs⟩
 | m + 1,hm => by
  have rp:=zp hp
  obtain ⟨cl,E⟩:=zg7 hp hv hI m (by omega)
  have hvm : vs[m]? = some (vs[m]'(by omega)):=List.getElem?_eq_getElem (by omega)
  obtain ⟨h1,h2⟩:=hv _ (List.mem_of_getElem? hvm)
  obtain ⟨w,W⟩:=zfD hp E (by omega) (zes hp (N:=vs.length) (by omega) hvm h1 h2) cl.length (Nat.le_refl _)
  rw [List.take_length] at W
  by_cases hz : ∀ x,x < L → gl w x = 0
  ·exfalso
   obtain ⟨_,d2,d3⟩:=zgN W (by omega) hz
   have:=hI _ d3 m (by omega)
   rw [d2] at this
   have:=this.eq (by omega) (by omega) (Int.le_refl _) (by omega)
   omega
  ·obtain ⟨x,hx⟩:=Classical.not_forall.mp hz
   obtain ⟨hx1,hx2⟩:=Classical.not_imp.mp hx
   exact ⟨_,zet hp E (by omega) W hx1 hx2⟩
theorem zg8 {p : Int} (hp : p ∈ zk) {L : Nat} {vs : List (List Int)} (hv : ∀ v ∈ vs,v.length = L ∧ ∀ c ∈ v,0 ≤ c ∧ c < p) (hI : Indep p L vs) : vs.length ≤ L:=by
 obtain ⟨cl,E⟩:=zg7 hp hv hI vs.length (Nat.le_refl _)
 have hn : (cl.map (·.1)).Nodup:=by
  rw [List.nodup_iff_pairwise_ne,List.pairwise_map,List.pairwise_iff_getElem]
  intro i j hi hj hij e
  have h1:=E.up i j _ _ (List.getElem?_eq_getElem hi) (List.getElem?_eq_getElem hj) hij
  have h2:=(E.one j _ (List.getElem?_eq_getElem hj)).2.2.2.2.1
  rw [e,h2] at h1
  cases h1
 have:=zeC hn fun x hx => by
  obtain ⟨a,ha,rfl⟩:=List.mem_map.mp hx
  obtain ⟨j,hj⟩:=List.getElem?_of_mem ha
  exact (E.one j a hj).1
 rw [List.length_map,E.ln] at this
 exact this
def dot (n : Nat) (row : List Int) (v : Nat → Int) : Int:=sm n fun j => gl row j * v j
def Sol (p : Int) (n : Nat) (M : List (List Int)) (v : Nat → Int) : Prop:=∀ (i : Nat) (row : List Int),M[i]? = some row → Cg p (dot n row v) 0
theorem zhS {n N : Nat} {row : List Int} {u : Nat → Int} {V : Nat → Nat → Int} : dot n row (fun j => sm N fun t => u t * V t j) = sm N fun t => u t * dot n row (V t):=by
 unfold dot
 have e : (fun j => gl row j * sm N fun t => u t * V t j) = fun j => sm N fun t => u t * (gl row j * V t j):=by
  funext j
  rw [← zaX]
  exact zM fun t _ => by grind
 rw [e,zdY]
 exact zM fun t _ => zaX _
structure RK (p : Int) (n : Nat) (M : List (List Int)) (pv : List Nat) : Prop where
 nd : pv.Nodup
 lt : ∀ c ∈ pv,c < n
 U : ∀ v,Sol p n M v → (∀ j,j < n → j ∉ pv → Cg p (v j) 0) → ∀ j,j < n → Cg p (v j) 0
 E : ∀ w : Nat → Int,∃ v,Sol p n M v ∧ ∀ j,j < n → j ∉ pv → v j = w j
structure Gs (p : Int) (n : Nat) (M : List (List Int)) (at' : Nat) (pv : List Nat) (R : List (List Int)) : Prop where
 ln : R.length = M.length
 rw : ∀ row ∈ R,row.length = n ∧ ∀ c ∈ row,0 ≤ c ∧ c < p
 sol : ∀ v,Sol p n R v ↔ Sol p n M v
 pvl : pv.length ≤ R.length
 piv : ∀ (i c : Nat) (row : List Int),pv[i]? = some c → R[i]? = some row → c < at' ∧ gl row c ≠ 0 ∧ ∀ j,j < c → gl row j = 0
 low : ∀ (i : Nat) (row : List Int),pv.length ≤ i → R[i]? = some row → ∀ j,j < at' → gl row j = 0
 nd : pv.Nodup
 plt : ∀ c ∈ pv,c < at'
theorem zhT {p : Int} {n : Nat} {M : List (List Int)} {at' : Nat} {pv : List Nat} {R : List (List Int)} (G : Gs p n M at' pv R) (h : ∀ (i : Nat) (row : List Int),pv.length ≤ i → R[i]? = some row → gl row at' = 0) : Gs p n M (at' + 1) pv R:=by
 refine ⟨G.ln,G.rw,G.sol,G.pvl,fun i c row h1 h2 => ?_,fun i row h1 h2 j hj => ?_,G.nd,fun c hc => by have:=G.plt c hc; omega⟩
 ·obtain ⟨a,b⟩:=G.piv i c row h1 h2
  exact ⟨by omega,b⟩
 ·by_cases e : j = at'
  ·rw [e]; exact h i row h1 h2
  ·exact G.low i row h1 h2 j (by omega)
structure El (p : Int) (n : Nat) (M : List (List Int)) (at' : Nat) (pv : List Nat) (first : List Int) (k : Nat) (R : List (List Int)) : Prop where
 ln : R.length = M.length
 rw : ∀ row ∈ R,row.length = n ∧ ∀ c ∈ row,0 ≤ c ∧ c < p
 sol : ∀ v,Sol p n R v ↔ Sol p n M v
 fs : R[pv.length]? = some first
 f0 : gl first at' ≠ 0
 piv : ∀ (i c : Nat) (row : List Int),pv[i]? = some c → R[i]? = some row → c < at' ∧ gl row c ≠ 0 ∧ ∀ j,j < c → gl row j = 0
 low : ∀ (i : Nat) (row : List Int),pv.length ≤ i → R[i]? = some row → ∀ j,j < at' → gl row j = 0
 cl : ∀ (i : Nat) (row : List Int),pv.length < i → i < k → R[i]? = some row → gl row at' = 0
 nd : pv.Nodup
 plt : ∀ c ∈ pv,c < at'
theorem zg9 {p : Int} {n : Nat} {M : List (List Int)} {at' : Nat} {pv : List Nat} {R : List (List Int)} (G : Gs p n M at' pv R) {k0 : Nat} {first other : List Int} (hk : pv.length ≤ k0) (h1 : R[k0]? = some first) (h2 : R[pv.length]? = some other) (h0 : gl first at' ≠ 0) :
  El p n M at' pv first (pv.length + 1) ((R.set k0 other).set pv.length first):=by
 have hk0:=(List.getElem?_eq_some_iff.mp h1).1
 have hp0:=(List.getElem?_eq_some_iff.mp h2).1
 have hg : ∀ i,((R.set k0 other).set pv.length first)[i]? = if i = pv.length then some first else if i = k0 then some other else R[i]?:=fun i => by
  by_cases e : i = pv.length
  ·subst e
   rw [if_pos rfl,List.getElem?_set_self (by rw [List.length_set]; exact hp0)]
  ·rw [if_neg e,List.getElem?_set_ne (Ne.symm e)]
   by_cases e2 : i = k0
   ·subst e2
    rw [if_pos rfl,List.getElem?_set_self hk0]
   ·rw [if_neg e2,List.getElem?_set_ne (Ne.symm e2)]
 have hsrc : ∀ (i : Nat) (row : List Int),((R.set k0 other).set pv.length first)[i]? = some row → ∃ j : Nat,R[j]? = some row ∧ (pv.length ≤ i → pv.length ≤ j):=fun i row h => by
  rw [hg] at h
  by_cases e : i = pv.length
  ·rw [if_pos e] at h
   exact ⟨k0,by rw [h1]; exact h,fun _ => hk⟩
  ·rw [if_neg e] at h
   by_cases e2 : i = k0
   ·rw [if_pos e2] at h
    exact ⟨pv.length,by rw [h2]; exact h,fun _ => Nat.le_refl _⟩
   ·rw [if_neg e2] at h
    exact ⟨i,h,id⟩
 refine ⟨by rw [List.length_set,List.length_set]; exact G.ln,fun row hr => ?_,fun v => ?_,by rw [hg,if_pos rfl],h0,fun i c row hc hr => ?_,fun i row hi hr => ?_,fun i row hi hk hr => by omega,G.nd,G.plt⟩
 ·obtain ⟨i,hi⟩:=List.getElem?_of_mem hr
  obtain ⟨j,hj,_⟩:=hsrc i row hi
  exact G.rw row (List.mem_of_getElem? hj)
 ·rw [← G.sol v]
  constructor
  ·intro h j row hj
   by_cases e : j = k0
   ·refine h pv.length row ?_
    rw [hg,if_pos rfl,← h1,← e]; exact hj
   ·by_cases e2 : j = pv.length
    ·refine h k0 row ?_
     rw [hg,if_neg (fun e3 => e (by rw [e2,e3])),if_pos rfl,← h2,← e2]; exact hj
    ·refine h j row ?_
     rw [hg,if_neg e2,if_neg e]; exact hj
  ·intro h i row hi
   obtain ⟨j,hj,_⟩:=hsrc i row hi
   exact h j row hj
 ·have hil : i < pv.length:=(List.getElem?_eq_some_iff.mp hc).1
  rw [hg,if_neg (by omega),if_neg (by omega)] at hr
  exact G.piv i c row hc hr
 ·obtain ⟨j,hj,hle⟩:=hsrc i row hr
  exact G.low j row (hle hi) hj
theorem zhU {p : Int} {n : Nat} {M : List (List Int)} {at' : Nat} {pv : List Nat} {first : List Int} {k : Nat} {R : List (List Int)} (L : El p n M at' pv first k R) {row : List Int} (hr : R[k]? = some row) (h0 : gl row at' = 0) : El p n M at' pv first (k + 1) R:=by
 refine ⟨L.ln,L.rw,L.sol,L.fs,L.f0,L.piv,L.low,fun i row' h1 h2 h3 => ?_,L.nd,L.plt⟩
 by_cases e : i = k
 ·subst e
  rw [hr] at h3
  cases h3
  exact h0
 ·exact L.cl i row' h1 (by omega) h3
theorem zhV {p : Int} (hp : p ∈ zk) {n : Nat} {M : List (List Int)} {at' : Nat} {pv : List Nat} {first : List Int} {k : Nat} {R : List (List Int)} (L : El p n M at' pv first k R) (hat : at' < n) (hk : pv.length < k) {row : List Int} (hr : R[k]? = some row) :
  El p n M at' pv first (k + 1) (R.set k (List.zipWith (fun one other => (one * gl first at' - gl row at' * other) % p) row first)):=by
 have rp:=zp hp
 obtain ⟨r1,r2⟩:=L.rw row (List.mem_of_getElem? hr)
 obtain ⟨f1,f2⟩:=L.rw first (List.mem_of_getElem? L.fs)
 have hkl:=(List.getElem?_eq_some_iff.mp hr).1
 obtain ⟨nw,hnw⟩ : ∃ nw,nw = List.zipWith (fun one other => (one * gl first at' - gl row at' * other) % p) row first:=⟨_,rfl⟩
 rw [← hnw]
 have hg : ∀ y,y < n → gl nw y = (gl row y * gl first at' - gl row at' * gl first y) % p:=fun y hy => by rw [hnw]; exact zgL (by omega) (by omega)
 have hgn : ∀ i,(R.set k nw)[i]? = if i = k then some nw else R[i]?:=fun i => by
  by_cases e : i = k
  ·subst e; rw [if_pos rfl,List.getElem?_set_self hkl]
  ·rw [if_neg e,List.getElem?_set_ne (Ne.symm e)]
 have hdot : ∀ v,Cg p (dot n nw v) (gl first at' * dot n row v - gl row at' * dot n first v):=fun v => by
  unfold dot
  have e : gl first at' * sm n (fun j => gl row j * v j) - gl row at' * sm n (fun j => gl first j * v j) = sm n (fun j => (gl row j * gl first at' - gl row at' * gl first j) * v j):=by
   rw [show ∀ a b c : Int,a - b * c = a + (-b) * c by intros; grind,← zaX,← zaX,← zdW]
   exact zM fun j _ => by grind
  rw [e]
  exact za2 fun j hj => by
   rw [hg j hj]
   exact (Cg.emod _ _).mul (Cg.refl p _)
 refine ⟨by rw [List.length_set]; exact L.ln,fun row' h => ?_,fun v => ?_,by rw [hgn,if_neg (by omega)]; exact L.fs,L.f0,fun i c row' hc h => ?_,fun i row' hi h j hj => ?_,fun i row' hi hik h => ?_,L.nd,L.plt⟩
 ·rcases List.mem_or_eq_of_mem_set h with h | rfl
  ·exact L.rw row' h
  ·rw [hnw]
   refine ⟨by rw [List.length_zipWith]; omega,fun c hc => ?_⟩
   obtain ⟨x,y,rfl⟩:=zb3 hc
   exact ⟨Int.emod_nonneg _ (by omega),Int.emod_lt_of_pos _ (by omega)⟩
 ·rw [← L.sol v]
  constructor
  ·intro h i row' hi
   by_cases e : i = k
   ·subst e
    rw [hr] at hi
    cases hi
    have h1:=h i nw (by rw [hgn,if_pos rfl])
    have h2:=h pv.length first (by rw [hgn,if_neg (by omega)]; exact L.fs)
    have h3:=((hdot v).symm.trans h1).add ((Cg.refl p (gl row at')).mul h2)
    obtain ⟨g0,g1⟩:=zbk (show 0 < p by omega) f2 at'
    refine zbI hp (a:=gl first at') (by rw [Int.emod_eq_of_lt g0 g1]; exact L.f0) ?_
    exact (Cg.of_eq (by omega)).trans (h3.trans (Cg.of_eq (by omega)))
   ·exact h i row' (by rw [hgn,if_neg e]; exact hi)
  ·intro h i row' hi
   rw [hgn] at hi
   by_cases e : i = k
   ·rw [if_pos e] at hi
    cases hi
    have h1:=h k row hr
    have h2:=h pv.length first L.fs
    exact (hdot v).trans ((((Cg.refl p _).mul h1).sub ((Cg.refl p _).mul h2)).trans (Cg.of_eq (by omega)))
   ·rw [if_neg e] at hi
    exact h i row' hi
 ·have hil : i < pv.length:=(List.getElem?_eq_some_iff.mp hc).1
  rw [hgn,if_neg (by omega)] at h
  exact L.piv i c row' hc h
 ·rw [hgn] at h
  by_cases e : i = k
  ·rw [if_pos e] at h
   cases h
   rw [hg j (by omega),L.low k row (by omega) hr j hj,L.low pv.length first (Nat.le_refl _) L.fs j hj,Int.zero_mul,Int.mul_zero]
   rfl
  ·rw [if_neg e] at h
   exact L.low i row' hi h j hj
 ·rw [hgn] at h
  by_cases e : i = k
  ·rw [if_pos e] at h
   cases h
   rw [hg at' hat,show gl row at' * gl first at' - gl row at' * gl first at' = 0 by omega]
   rfl
  ·rw [if_neg e] at h
   exact L.cl i row' hi (by omega) h
theorem ziX {p : Int} {n : Nat} {M : List (List Int)} {at' : Nat} {pv : List Nat} {first : List Int} {k : Nat} {R : List (List Int)} (L : El p n M at' pv first k R) (hk : R.length ≤ k) : Gs p n M (at' + 1) (pv ++ [at']) R:=by
 have hf:=(List.getElem?_eq_some_iff.mp L.fs).1
 refine ⟨L.ln,L.rw,L.sol,by rw [List.length_append]; show pv.length + 1 ≤ _; omega,fun i c row hc hr => ?_,fun i row hi hr j hj => ?_,?_,fun c hc => ?_⟩
 ·by_cases hi : i < pv.length
  ·rw [List.getElem?_append_left hi] at hc
   obtain ⟨a,b⟩:=L.piv i c row hc hr
   exact ⟨by omega,b⟩
  ·have hil:=(List.getElem?_eq_some_iff.mp hc).1
   rw [List.length_append] at hil
   have hip : i = pv.length:=by have : i < pv.length + 1:=hil; omega
   subst hip
   rw [List.getElem?_append_right (Nat.le_refl _),Nat.sub_self] at hc
   cases hc
   rw [L.fs] at hr
   cases hr
   exact ⟨by omega,L.f0,L.low pv.length first (Nat.le_refl _) L.fs⟩
 ·rw [List.length_append] at hi
  have hi : pv.length + 1 ≤ i:=hi
  by_cases e : j = at'
  ·rw [e]
   exact L.cl i row (by omega) (by have:=(List.getElem?_eq_some_iff.mp hr).1; omega) hr
  ·exact L.low i row (by omega) hr j (by omega)
 ·rw [List.nodup_append]
  exact ⟨L.nd,by simp,fun a ha b hb e => by
   have:=L.plt a ha
   have hb : b = at':=by simpa using hb
   omega⟩
 ·rcases List.mem_append.mp hc with h | h
  ·have:=L.plt c h
   omega
  ·have : c = at':=by simpa using h
   omega
theorem zeD {n c : Nat} {row : List Int} {v : Nat → Int} (hc : c ≤ n) (h : ∀ j,j < c → gl row j = 0) : dot n row v = sm (n - c) fun j => gl row (c + j) * v (c + j):=by
 unfold dot
 induction n with
 | zero => rw [show 0 - c = 0 by omega]; rfl
 | succ n ih =>
  by_cases e : c = n + 1
  ·subst e
   rw [Nat.sub_self]
   exact zai fun j hj => by rw [h j hj,Int.zero_mul]
  ·rw [show n + 1 - c = (n - c) + 1 by omega]
   show sm n _ + _ = sm (n - c) _ + _
   rw [ih (by omega)]
   dsimp only
   rw [show c + (n - c) = n by omega]
theorem zjA {p : Int} (hp : p ∈ zk) {n : Nat} {M : List (List Int)} {pv : List Nat} {R : List (List Int)} (G : Gs p n M n pv R) : RK p n M pv:=by
 have rp:=zp hp
 have hrow : ∀ i,i < pv.length → ∃ row,R[i]? = some row:=fun i hi => ⟨R[i]'(by have:=G.pvl; omega),by simp⟩
 have hrg : ∀ (i : Nat) (row : List Int),R[i]? = some row → ∀ y,0 ≤ gl row y ∧ gl row y < p:=fun i row h y => zbk (show 0 < p by omega) (G.rw row (List.mem_of_getElem? h)).2 y
 refine ⟨G.nd,G.plt,fun v hv h0 => ?_,fun w => ?_⟩
 ·have hv:=(G.sol v).mpr hv
  have key : ∀ t,t ≤ n → ∀ j,n - t ≤ j → j < n → Cg p (v j) 0:=by
   intro t
   induction t with
   | zero => intro _ j h1 h2; omega
   | succ t ih =>
    intro ht j h1 h2
    have ih:=ih (by omega)
    by_cases e : n - t ≤ j
    ·exact ih j e h2
    ·have hj : j = n - (t + 1):=by omega
     by_cases hpj : j ∈ pv
     ·obtain ⟨i,hi⟩:=List.getElem?_of_mem hpj
      obtain ⟨row,hr⟩:=hrow i (List.getElem?_eq_some_iff.mp hi).1
      obtain ⟨_,g1,g2⟩:=G.piv i j row hi hr
      have hd:=hv i row hr
      rw [zeD (by omega) g2,show n - j = (n - j - 1) + 1 by omega,zcy] at hd
      have hz : Cg p (sm (n - j - 1) fun i => gl row (j + (i + 1)) * v (j + (i + 1))) 0:=(za2 (g:=fun _ => 0) fun m hm => ((Cg.refl p _).mul (ih (j + (m + 1)) (by omega) (by omega))).trans (Cg.of_eq (Int.mul_zero _))).trans (Cg.of_eq (zai fun _ _ => rfl))
      obtain ⟨q0,q1⟩:=hrg i row hr j
      refine zbI hp (a:=gl row j) (by rw [Int.emod_eq_of_lt q0 q1]; exact g1) ?_
      have:=hd.sub hz
      exact (Cg.of_eq (by rw [Nat.add_zero]; omega)).trans (this.trans (Cg.of_eq (by omega)))
     ·exact h0 j h2 hpj
  exact fun j hj => key n (Nat.le_refl _) j (by omega) hj
 ·have key : ∀ t,t ≤ n → ∃ v : Nat → Int,(∀ j,n - t ≤ j → j < n → j ∉ pv → v j = w j) ∧ ∀ (i c : Nat) (row : List Int),pv[i]? = some c → R[i]? = some row → n - t ≤ c → Cg p (dot n row v) 0:=by
   intro t
   induction t with
   | zero => exact fun _ => ⟨fun _ => 0,fun j h1 h2 => by omega,fun i c row h1 _ h3 => by have:=G.plt c (List.mem_of_getElem? h1); omega⟩
   | succ t ih =>
    intro ht
    obtain ⟨v,hv1,hv2⟩:=ih (by omega)
    have hsame : ∀ (z : Int) (i c : Nat) (row : List Int),pv[i]? = some c → R[i]? = some row → n - t ≤ c → dot n row (fun j => if j = n - (t + 1) then z else v j) = dot n row v:=fun z i c row h1 h2 h3 => by
     unfold dot
     refine zM fun j _ => ?_
     dsimp only
     by_cases e : j = n - (t + 1)
     ·rw [(G.piv i c row h1 h2).2.2 j (by omega),Int.zero_mul,Int.zero_mul]
     ·rw [if_neg e]
    by_cases hpj : n - (t + 1) ∈ pv
    ·obtain ⟨i0,hi0⟩:=List.getElem?_of_mem hpj
     obtain ⟨row0,hr0⟩:=hrow i0 (List.getElem?_eq_some_iff.mp hi0).1
     obtain ⟨_,g1,g2⟩:=G.piv i0 _ row0 hi0 hr0
     obtain ⟨q0,q1⟩:=hrg i0 row0 hr0 (n - (t + 1))
     obtain ⟨rest,hrest⟩ : ∃ rest,rest = sm (n - (n - (t + 1)) - 1) (fun i => gl row0 (n - (t + 1) + (i + 1)) * v (n - (t + 1) + (i + 1))):=⟨_,rfl⟩
     refine ⟨fun j => if j = n - (t + 1) then -(inv p (gl row0 (n - (t + 1))) * rest) else v j,fun j h1 h2 h3 => ?_,fun i c row h1 h2 h3 => ?_⟩
     ·dsimp only
      by_cases e : j = n - (t + 1)
      ·exact absurd hpj (e ▸ h3)
      ·rw [if_neg e]; exact hv1 j (by omega) h2 h3
     ·by_cases e : n - t ≤ c
      ·rw [hsame _ i c row h1 h2 e]
       exact hv2 i c row h1 h2 e
      ·have hc : c = n - (t + 1):=by omega
       subst hc
       have hii : i = i0:=(List.getElem?_inj (List.getElem?_eq_some_iff.mp h1).1 G.nd).mp (h1.trans hi0.symm)
       subst hii
       rw [hr0] at h2
       cases h2
       rw [zeD (by omega) g2,show n - (n - (t + 1)) = (n - (n - (t + 1)) - 1) + 1 by omega,zcy]
       have e2 : sm (n - (n - (t + 1)) - 1) (fun i => gl row0 (n - (t + 1) + (i + 1)) * (if n - (t + 1) + (i + 1) = n - (t + 1) then -(inv p (gl row0 (n - (t + 1))) * rest) else v (n - (t + 1) + (i + 1)))) = rest:=by
        rw [hrest]
        exact zM fun j _ => by rw [if_neg (by omega)]
       rw [e2,Nat.add_zero,if_pos rfl]
       have hi1:=zcR hp (h:=gl row0 (n - (t + 1))) (by omega) q1
       have h4 : Cg p (inv p (gl row0 (n - (t + 1))) * gl row0 (n - (t + 1)) * rest) (1 * rest):=hi1.mul (Cg.refl p rest)
       have h5:=(Cg.refl p rest).sub h4
       exact (Cg.of_eq (by grind)).trans (h5.trans (Cg.of_eq (by omega)))
    ·refine ⟨fun j => if j = n - (t + 1) then w (n - (t + 1)) else v j,fun j h1 h2 h3 => ?_,fun i c row h1 h2 h3 => ?_⟩
     ·dsimp only
      by_cases e : j = n - (t + 1)
      ·rw [if_pos e,e]
      ·rw [if_neg e]; exact hv1 j (by omega) h2 h3
     ·have hne : c ≠ n - (t + 1):=fun e => hpj (e ▸ List.mem_of_getElem? h1)
      rw [hsame _ i c row h1 h2 (by omega)]
      exact hv2 i c row h1 h2 (by omega)
  obtain ⟨v,h1,h2⟩:=key n (Nat.le_refl _)
  refine ⟨v,(G.sol v).mp fun i row hr => ?_,fun j hj hn => h1 j (by omega) hj hn⟩
  by_cases hi : i < pv.length
  ·obtain ⟨c,hc⟩ : ∃ c,pv[i]? = some c:=⟨pv[i],by simp⟩
   exact h2 i c row hc hr (by omega)
  ·refine Cg.of_eq ?_
   unfold dot
   exact zai fun j hj => by rw [G.low i row (by omega) hr j hj,Int.zero_mul]
theorem zhW {p a b : Int} (h1 : Cg p (a + b) 0) (h2 : Cg p a 0) : Cg p b 0:=by
 have h3:=h1.sub h2
 exact (Cg.of_eq (by omega)).trans (h3.trans (Cg.of_eq (by omega)))
theorem zhX {p : Int} (hp : p ∈ zk) {c d : Nat} {A : List (List Int)} {pa pb : List Nat} (RA : RK p (c + d) A pa) (RB : RK p d (A.map fun row => row.drop c) pb) (hH : ∀ v,Sol p (c + d) A v → ∀ j,j < c → Cg p (v j) 0) : pb.length + c ≤ pa.length:=by
 have rp:=zp hp
 obtain ⟨fA,hfA⟩ : ∃ fA,fA = (List.range (c + d)).filter fun i => decide (i ∉ pa):=⟨_,rfl⟩
 obtain ⟨fB,hfB⟩ : ∃ fB,fB = (List.range d).filter fun i => decide (i ∉ pb):=⟨_,rfl⟩
 have hA1:=zc5 (S:=pa) (List.nodup_range (n:=c + d))
 rw [List.length_range,← hfA] at hA1
 have mB : ∀ i,i ∈ fB ↔ i < d ∧ i ∉ pb:=fun i => by rw [hfB,List.mem_filter,List.mem_range]; simp
 have mA : ∀ i,i ∈ fA ↔ i < c + d ∧ i ∉ pa:=fun i => by rw [hfA,List.mem_filter,List.mem_range]; simp
 have nA : fA.Nodup:=by rw [hfA]; exact List.nodup_range.filter _
 have hB1 : (fB ++ pb).length ≤ d:=zeC (by
  rw [List.nodup_append]
  exact ⟨by rw [hfB]; exact List.nodup_range.filter _,RB.nd,fun a ha b hb e => ((mB a).mp ha).2 (e ▸ hb)⟩) fun x hx => by
  rcases List.mem_append.mp hx with h | h
  ·exact ((mB x).mp h).1
  ·exact RB.lt x h
 rw [List.length_append] at hB1
 have hV : ∀ t : Nat,∃ v : Nat → Int,Sol p (c + d) A v ∧ ∀ j,j < c + d → j ∉ pa → v j = if fA[t]? = some j then 1 else 0:=fun t => RA.E _
 obtain ⟨V,hV⟩:=Classical.axiomOfChoice hV
 obtain ⟨vs,hvs⟩ : ∃ vs,vs = (List.range fA.length).map fun t => fB.map fun s => V t (c + s) % p:=⟨_,rfl⟩
 have hvl : vs.length = fA.length:=by rw [hvs,List.length_map,List.length_range]
 have hvx : ∀ t x s,t < fA.length → fB[x]? = some s → vx vs t x = V t (c + s) % p:=fun t x s ht hs => by
  unfold vx
  rw [hvs,List.getD_eq_getElem?_getD,List.getElem?_map,List.getElem?_range ht]
  exact zbb (by show (fB.map _)[x]? = _; rw [List.getElem?_map,hs]; rfl)
 have hI : Indep p fB.length vs:=fun u hu t ht => by
  rw [hvl] at hu ht
  have hSol : Sol p (c + d) A (fun j => sm fA.length fun t => u t * V t j):=fun i row hr => by
   rw [zhS]
   exact (za2 (g:=fun _ => 0) fun t _ => ((Cg.refl p _).mul ((hV t).1 i row hr)).trans (Cg.of_eq (Int.mul_zero _))).trans (Cg.of_eq (zai fun _ _ => rfl))
  have hL:=hH _ hSol
  have hR:=RB.U (fun j => sm fA.length fun t => u t * V t (c + j)) (fun i row hr => by
   rw [List.getElem?_map] at hr
   cases hA : A[i]? with
   | none => rw [hA] at hr; cases hr
   | some row0 =>
    rw [hA] at hr
    cases hr
    have h1:=hSol i row0 hA
    have h2 : dot (c + d) row0 (fun j => sm fA.length fun t => u t * V t j) = sm c (fun j => gl row0 j * sm fA.length fun t => u t * V t j) + dot d (row0.drop c) (fun j => sm fA.length fun t => u t * V t (c + j)):=by
     unfold dot
     rw [zc6]
     congr 1
     exact zM fun j _ => by rw [zfA]
    rw [h2] at h1
    have h3 : Cg p (sm c fun j => gl row0 j * sm fA.length fun t => u t * V t j) 0:=(za2 (g:=fun _ => 0) fun j hj => ((Cg.refl p _).mul (hL j hj)).trans (Cg.of_eq (Int.mul_zero _))).trans (Cg.of_eq (zai fun _ _ => rfl))
    exact zhW h1 h3) (fun j hj hn => by
   obtain ⟨x,hx⟩:=List.getElem?_of_mem ((mB j).mpr ⟨hj,hn⟩)
   have:=hu x (List.getElem?_eq_some_iff.mp hx).1
   refine Cg.trans (za2 fun t ht => ?_) this
   rw [hvx t x j ht hx]
   exact (Cg.refl p _).mul (Cg.emod _ _).symm)
  obtain ⟨jt,hjt⟩ : ∃ j,fA[t]? = some j:=⟨fA[t],by simp⟩
  obtain ⟨j1,j2⟩:=(mA jt).mp (List.mem_of_getElem? hjt)
  have hall : Cg p (sm fA.length fun s => u s * V s jt) 0:=by
   by_cases hjc : jt < c
   ·exact hL jt hjc
   ·have:=hR (jt - c) (by omega)
    rw [show c + (jt - c) = jt by omega] at this
    exact this
  rw [zdX (j:=t) ht fun s hs hne => by
   rw [(hV s).2 jt j1 j2,if_neg (fun e => hne ((List.getElem?_inj hs nA).mp (e.trans hjt.symm))),Int.mul_zero],(hV t).2 jt j1 j2,if_pos hjt,Int.mul_one] at hall
  exact hall
 have hle:=zg8 hp (fun v hv => by
  rw [hvs] at hv
  obtain ⟨t,_,rfl⟩:=List.mem_map.mp hv
  refine ⟨by rw [List.length_map],fun x hx => ?_⟩
  obtain ⟨s,_,rfl⟩:=List.mem_map.mp hx
  exact ⟨Int.emod_nonneg _ (by omega),Int.emod_lt_of_pos _ (by omega)⟩) hI
 rw [hvl] at hle
 omega
end My
end
section
set_option maxHeartbeats 3999000
namespace My
open PySem L2 PyProof.Rows
section
variable {P : Program} {w : World} {K : PySem.W.Frag} {mg : Str → Option Value} {base : Heap} {t : Adr}
def za0 (p x : Int) (m : Nat) : List Int:=(List.range m).map fun i => x ^ i % p
theorem zdD (p x : Int) (m : Nat) : za0 p x (m + 1) = za0 p x m ++ [x ^ m % p]:=by
 unfold za0
 rw [List.range_succ,List.map_append]
 rfl
theorem z9 (p x : Int) (m : Nat) : (za0 p x m).length = m:=by unfold za0; rw [List.length_map,List.length_range]
theorem zha {p x : Int} {m i : Nat} (h : i < m) : gl (za0 p x m) i = x ^ i % p:=zbb (by unfold za0; rw [List.getElem?_map,List.getElem?_range h]; rfl)
theorem zhY {xs : List V} {v : V} : atI (xs ++ [v]) (-1) = some v:=by
 unfold atI ixN
 rw [if_neg (by decide),if_pos (by rw [List.length_append]; show -((xs.length + 1 : Nat) : Int) ≤ -1; omega)]
 show (xs ++ [v])[(-1 + ((xs ++ [v]).length : Int)).toNat]? = some v
 rw [List.length_append,show (-1 + ((xs.length + [v].length : Nat) : Int)).toNat = xs.length by show (-1 + ((xs.length + 1 : Nat) : Int)).toNat = _; omega,List.getElem?_append_right (Nat.le_refl _),Nat.sub_self]
 rfl
def zeE (K : PySem.W.Frag) : Sp:=fun vs H Q _ => ∃ (p x : Int) (m : Nat),vs = [.int p,.int x,.int (m : Int)] ∧ 5 ≤ p ∧ p ≤ 97 ∧ 0 ≤ x ∧ x < p ∧ 1 ≤ m ∧ m ≤ 1000 ∧
 ∀ (l : Addr) (H' : Hp),H l = none → zx H H' → H' l = some (.lst ((za0 p x m).map V.int)) → Q (.ref l) H'
theorem zcm : FnScope ["p","x","many","found"] ["p","x","many"] (zi zbm):=⟨rfl,rfl,rfl,by decide +kernel,rfl,by decide +kernel,by decide +kernel⟩
theorem zeF {fd : FuncData} (T : Txt K mg t) (F : Fun K "_law_powers" "_law_powers" zbm t.l_powers fd) : FnOk P w K mg base CX0 1 t.l_powers fd ["p","x","many"] (zeE K):=by
 refine F.ok zcm (fun vs H Q E h => ?_) (fun cdv A outer s H vs Q E hr h => ?_)
 ·obtain ⟨p,x,m,rfl,_⟩:=h
  rfl
 ·obtain ⟨p,x,m,rfl,p5,p97,x0,x1,m1,m2,q⟩:=h
  refine ⟨_,(@zc _ _ _ _ _ (@zm _ _ (3) _ _ _ _ zcm.nd rfl (Or.inl rfl) (@zU _ _ _ _ (@za _ _ _ _ _ (@zf _ _ _ _) (@ze _) (by rfl))) (by rfl) (by trivial)) (by exact (@zc _ _ _ _ _ (@zcF _ _ _ _ _ _ PassesOwn.never (@zB _ _ _ _ _ _ _ _ (@zfb _) (@zz _ _ _ _ _ _ _ _ _ (@zr _) (by rfl) T.len_ boot_len (@za _ _ _ _ _ (@pvx _ 3 _ _ rfl) (@ze _) (by rfl)) (by decide) (by decide) (by rfl) (by rfl)) (@pvx _ 2 _ _ rfl) (zK _)) (@zj _ _ _ (@zbD _ _ _ _ (@zcN _ _ _ _ _ _ _ _ _ _ _ _ PySem.F.plainAttrs_list PySem.F.slot_list_append PySem.F.type_list_append (@zaV _) (@pvx _ 3 _ _ rfl) (@za _ _ _ _ _ (@zg _ _ _ _ _ _ _ _ (@zy _) (@zg _ _ _ _ _ _ _ _ (@zJ _) (@zA _ _ _ _ _ _ _ (@zq _) (@pvx _ 3 _ _ rfl) (@zh1 _ _ _ _ _ _ zgh (@zf _ _ _ _)) (fun _ _ => rfl)) (@pvx _ 1 _ _ rfl)) (@pvx _ 0 _ _ rfl)) (@ze _) (by rfl)) (by rfl) (by rfl) (by rfl) (by rfl) (by rfl)) (by rfl)))) (by exact (@zj _ _ _ (@zG _ _ _ _ (@zaN _ _ _ _ _ _ _ _ _ _ zb0 (@pvx _ 3 _ _ rfl) (@zbg _) (@zaS _ _ _ (@pvx _ 2 _ _ rfl))))))))),?_⟩
  have hsl:=sizeLine_eq
  refine ⟨by show 1 ≤ sizeLine; omega,fun l hl => ?_⟩
  have e1 : (za0 p x 1).map V.int = [V.int 1]:=by
   show [V.int (x ^ 0 % p)] = [V.int 1]
   rw [Int.pow_zero,Int.emod_eq_of_lt (by omega) (by omega)]
  refine ⟨fun μ σ H' => ∃ n : Nat,μ = m - n ∧ 1 ≤ n ∧ n ≤ m ∧ σ = [some (.int p),some (.int x),some (.int (m : Int)),some (.ref l)] ∧ zx H H' ∧ H' l = some (.lst ((za0 p x n).map V.int)),⟨m - 1,1,rfl,Nat.le_refl _,m1,rfl,zd hl,by rw [e1]; exact zb⟩,?_⟩
  rintro μ σ H1 ⟨n,rfl,n1,nm,rfl,s1,h1⟩
  refine ⟨_,rfl,l,_,rfl,.inl (SqL.of h1),_,rfl,_,_,rfl,rfl,_,rfl,?_⟩
  rw [List.length_map,z9]
  refine zaa (fun hlt => ?_) (fun hge => ?_)
  ·have hlt:=of_decide_eq_true hlt
   have hlt : n < m:=by omega
   obtain ⟨n',rfl⟩ : ∃ n',n = n' + 1:=⟨n - 1,by omega⟩
   have g0:=Int.emod_nonneg (x ^ n') (show p ≠ 0 by omega)
   have g1:=Int.emod_lt_of_pos (x ^ n') (show 0 < p by omega)
   refine ⟨fun σ' H' => ∃ m',m' < m - (n' + 1) ∧ ∃ n : Nat,m' = m - n ∧ 1 ≤ n ∧ n ≤ m ∧ σ' = [some (.int p),some (.int x),some (.int (m : Int)),some (.ref l)] ∧ zx H H' ∧ H' l = some (.lst ((za0 p x n).map V.int)),fun _ _ z => z,?_⟩
   have hat : atI ((za0 p x (n' + 1)).map V.int) (-1) = some (.int (x ^ n' % p)):=by
    rw [zdD,List.map_append]
    exact zhY
   refine ⟨_,rfl,.inl ⟨rfl,_,SqL.of h1⟩,_,rfl,_,rfl,l,_,_,.int (x ^ n' % p),rfl,rfl,SqL.of h1,hat,_,rfl,_,_,rfl,rfl,.inl ⟨by omega,by omega⟩,_,rfl,_,_,rfl,rfl,by omega,l,_,_,rfl,rfl,h1,by rw [List.length_map,z9]; omega,?_⟩
   refine ⟨m - (n' + 2),by omega,n' + 2,rfl,by omega,by omega,rfl,zX s1 hl,?_⟩
   rw [zb,zdD p x (n' + 1),List.map_append]
   have : x ^ n' % p * x % p = x ^ (n' + 1) % p:=by
    rw [Int.pow_succ]
    exact ((Cg.emod p _).mul (Cg.refl p x)).mod_eq
   show some (HO.lst (_ ++ [V.int (x ^ n' % p * x % p)])) = _
   rw [this]
   rfl
  ·have hge : ¬ ((n : Int) < (m : Int)):=fun h => hge (decide_eq_true h)
   have hnm : n = m:=by omega
   subst hnm
   refine ⟨_,rfl,_,rfl,_,rfl,l,_,rfl,SqL.of h1,fun z hz => ?_⟩
   have ec : zaE ((za0 p x n).map V.int) none (some (n : Int)) = (za0 p x n).map V.int:=by
    unfold zaE
    rw [HT.sIx_nat,HT.sIx_none,List.drop_zero,Nat.sub_zero,List.length_map,z9,Nat.min_self,List.take_of_length_le (by rw [List.length_map,z9]; exact Nat.le_refl _)]
   rw [ec]
   exact q z _ (s1.free hz) (s1.trans (zd hz)) zb
theorem zhb {p : Int} (p0 : 0 < p) {n : Nat} {M : List (List Int)} (hM : ∀ row ∈ M,row.length = n) : Gs p n M 0 [] (M.map fun row => row.map fun c => c % p):=by
 refine ⟨by rw [List.length_map],fun row hr => ?_,fun v => ?_,Nat.zero_le _,fun i c row h => by simp at h,fun i row _ _ j hj => by omega,List.nodup_nil,fun c hc => by cases hc⟩
 ·obtain ⟨r,hr',rfl⟩:=List.mem_map.mp hr
  refine ⟨by rw [List.length_map]; exact hM r hr',fun c hc => ?_⟩
  obtain ⟨d,_,rfl⟩:=List.mem_map.mp hc
  exact ⟨Int.emod_nonneg _ (by omega),Int.emod_lt_of_pos _ p0⟩
 ·have hd : ∀ row ∈ M,Cg p (dot n (row.map fun c => c % p) v) (dot n row v):=fun row hr => by
   unfold dot
   exact za2 fun j hj => by
    rw [zeX (f:=fun c => c % p) (by rw [hM row hr]; exact hj)]
    exact (Cg.emod _ _).mul (Cg.refl p _)
  constructor
  ·intro h i row hi
   exact (hd row (List.mem_of_getElem? hi)).symm.trans (h i _ (by rw [List.getElem?_map,hi]; rfl))
  ·intro h i row hi
   rw [List.getElem?_map] at hi
   cases hA : M[i]? with
   | none => rw [hA] at hi; cases hi
   | some r =>
    rw [hA] at hi
    cases hi
    exact (hd r (List.mem_of_getElem? hA)).trans (h i r hA)
def LsN (ra : Addr) (H : Hp) : List Addr → List (List Int) → Prop:=Paired fun b v => H b = some (.lst (v.map V.int)) ∧ b ≠ ra
theorem LsN.same {ra : Addr} {H H' : Hp} (s : zx H H') {bs : List Addr} {vv : List (List Int)} (h : LsN ra H bs vv) : LsN ra H' bs vv:=Paired.mono (fun _ _ ⟨z,z'⟩ => ⟨s _ _ z,z'⟩) h
theorem LsN.put {ra : Addr} {H : Hp} {bs : List Addr} {vv : List (List Int)} {o : HO} (h : LsN ra H bs vv) : LsN ra (upd H ra o) bs vv:=Paired.mono (fun _ _ ⟨z,z'⟩ => ⟨by rw [zo z']; exact z,z'⟩) h
theorem LsN.set {ra : Addr} {H : Hp} {bs : List Addr} {vv : List (List Int)} (h : LsN ra H bs vv) : ∀ (i : Nat) {b : Addr} {v : List Int},H b = some (.lst (v.map V.int)) → b ≠ ra → LsN ra H (bs.set i b) (vv.set i v):=by
 induction h with
 | nil => intro i b v _ _; exact .nil
 | cons r t ih =>
  intro i b v h1 h2
  cases i with
  | zero => exact .cons ⟨h1,h2⟩ t
  | succ i => exact .cons r (ih i h1 h2)
def zf5 (K : PySem.W.Frag) : Sp:=fun vs H Q _ => ∃ (p : Int) (a : Addr) (bs : List Addr) (M : List (List Int)) (n : Nat),vs = [.int p,.ref a] ∧ H a = some (.lst (bs.map V.ref)) ∧ LsA H bs M ∧ M ≠ [] ∧ M.length ≤ 1000 ∧ n ≤ 1000 ∧ (∀ row ∈ M,row.length = n) ∧ p ∈ zk ∧
 ∀ (pv : List Nat) (H' : Hp),zx H H' → RK p n M pv → Q (.int (pv.length : Int)) H'
theorem zap : FnScope ["p","rows","rank","at","some","first","k","by"] ["p","rows"] (zi zaQ):=⟨rfl,rfl,rfl,by decide +kernel,rfl,by decide +kernel,by decide +kernel⟩
theorem zf6 {fd : FuncData} (T : Txt K mg t) (F : Fun K "_law_rank" "_law_rank" zaQ t.l_rank fd) : FnOk P w K mg base CX0 1 t.l_rank fd ["p","rows"] (zf5 K):=by
 refine F.ok zap (fun vs H Q E h => ?_) (fun cdv A outer s H vs Q E hr h => ?_)
 ·obtain ⟨p,a,bs,M,n,rfl,_⟩:=h
  rfl
 ·obtain ⟨p,a,bs,M,n,rfl,ha,hB,hne,hM,hn,hrow,hp,q⟩:=h
  have hu : (A.deeper (envOfC (Str.ofString "_law_rank") (zi zaQ) s.heap.objs.size t.l_rank cdv)).units + 20 < cLine:=by have:=hr.units; omega
  refine ⟨_,(@zc _ _ _ _ _ (@zm _ _ (1) _ _ _ _ zap.nd rfl (Or.inr rfl) (@zao _ _ _ _ _ _ _ _ _ _ _ _ _ (CompSc.of (N':=["row","p"]) (ix:=[none,some 0]) (zi zaQ) ["p","rows","rank","at","some","first","k","by"] rfl rfl (by decide +kernel)) rfl (@z8 _ _ rfl) (@zab _ _ _ _ (@pvx _ 1 _ _ rfl)) (fun _ _ _ _ => (@zh _ _ (0) _ (show (["row","p"] : List Str).Nodup by decide +kernel) rfl (Or.inl rfl) (by trivial))) (fun _ _ _ _ => (@zI _)) (fun _ _ _ _ => (@zao _ _ _ _ _ _ _ _ _ _ _ _ _ (CompSc.of (N':=["number","p"]) (ix:=[none,some 1]) ({ kind:=.function,names:=[(".0",.local),("row",.local),("p",.cell)],isGenerator:=false,isCoroutine:=false }) ["row","p"] (by with_unfolding_all rfl) rfl (by decide +kernel)) rfl (@z8 _ _ rfl) (@zgS _ (K) _ _ _ rfl (@pvx _ 0 _ _ rfl)) (fun _ _ _ _ => (@zh _ _ (0) _ (show (["number","p"] : List Str).Nodup by decide +kernel) rfl (Or.inl rfl) (by trivial))) (fun _ _ _ _ => (@zI _)) (fun _ _ _ _ => (@zg _ _ _ _ _ _ _ _ (@zy _) (@pvx _ 0 _ _ rfl) (@pvx _ 1 _ _ rfl))) (by intro _; rfl))) (by intro _; rfl)) (by rfl) (by trivial)) (by exact (@zc _ _ _ _ _ (@zm _ _ (2) _ _ _ _ zap.nd rfl (Or.inl rfl) (@zf _ _ _ _) (by rfl) (by trivial)) (by exact (@zc _ _ _ _ _ (@zaz _ _ _ _ _ _ _ _ PassesOwn.never rfl (@zay _ _ _ _ _ _ rfl T.range_ (@za _ _ _ _ _ (@zcE _ _ _ _ _ _ _ _ (@zB _ _ _ _ _ _ _ _ (@zeP _ hu) (@pvx _ 1 _ _ rfl) (@zU _ _ _ _ (@ze _)) (zK _)) (@zz _ _ _ _ _ _ _ _ _ (@zr _) (by rfl) T.len_ boot_len (@za _ _ _ _ _ (@zA _ _ _ _ _ _ _ (@zq _) (@pvx _ 1 _ _ rfl) (@zf _ _ _ _) (fun _ _ => rfl)) (@ze _) (by rfl)) (by decide) (by decide) (by rfl) (by rfl)) (@zf _ _ _ _)) (@ze _) (by rfl)) (by rfl)) (@zh _ _ (3) _ zap.nd rfl (Or.inr rfl) (by trivial)) (@zc _ _ _ _ _ (@zac _ _ _ _ _ _ _ _ _ _ _ _ _ (4) _ _ _ zap.nd rfl (Or.inl rfl) (CompSc.of (N':=["k","rows","at"]) (ix:=[none,some 1,some 3]) (zi zaQ) ["p","rows","rank","at","some","first","k","by"] rfl rfl (by decide +kernel)) rfl (@z8 _ _ rfl) (@zdm _ _ _ _ _ _ _ rfl T.range_ (@za _ _ _ _ _ (@pvx _ 2 _ _ rfl) (@za _ _ _ _ _ (@zz _ _ _ _ _ _ _ _ _ (@zr _) (by rfl) T.len_ boot_len (@za _ _ _ _ _ (@pvx _ 1 _ _ rfl) (@ze _) (by rfl)) (by decide) (by decide) (by rfl) (by rfl)) (@ze _) (by rfl)) (by rfl)) (by rfl) (by rfl)) (fun _ _ _ _ => (@zh _ _ (0) _ (show (["k","rows","at"] : List Str).Nodup by decide +kernel) rfl (Or.inl rfl) (by trivial))) (fun _ _ _ _ => (@zcP _ _ _ (@zB _ _ _ _ _ _ _ _ (@zcI _) (@zA _ _ _ _ _ _ _ (@zbw _ (K) rfl) (@zA _ _ _ _ _ _ _ (@zbw _ (K) rfl) (@pvx _ 1 _ _ rfl) (@pvx _ 0 _ _ rfl) (fun _ _ => rfl)) (@pvx _ 2 _ _ rfl) (fun _ _ => rfl)) (@zf _ _ _ _) (zK _)))) (fun _ _ _ _ => (@pvx _ 0 _ _ rfl)) (by rfl) (by intro _; rfl) (by trivial)) (by exact (@zj _ _ _ (@zaM _ _ _ _ _ _ _ _ (@zB _ _ _ _ _ _ _ _ (@zeP _ hu) (@pvx _ 4 _ _ rfl) (@zU _ _ _ _ (@ze _)) (zK _)) (@zc _ _ _ _ _ (@zm _ _ (5) _ _ _ _ zap.nd rfl (Or.inr rfl) (@zA _ _ _ _ _ _ _ (@zq _) (@pvx _ 1 _ _ rfl) (@zA _ _ _ _ _ _ _ (@zq _) (@pvx _ 4 _ _ rfl) (@zf _ _ _ _) (fun _ _ => rfl)) (fun _ _ => rfl)) (by rfl) (by trivial)) (by exact (@zc _ _ _ _ _ (@zaR _ _ _ _ _ _ (@zA _ _ _ _ _ _ _ (@zq _) (@pvx _ 1 _ _ rfl) (@pvx _ 2 _ _ rfl) (fun _ _ => rfl)) (@zdH _ _ _ _ _ _ _ (@pvx _ 1 _ _ rfl) (@zA _ _ _ _ _ _ _ (@zq _) (@pvx _ 4 _ _ rfl) (@zf _ _ _ _) (fun _ _ => rfl)) set_list (by intro _; rfl)) (by rfl) (by rfl) (by rfl)) (by exact (@zc _ _ _ _ _ (@zaR _ _ _ _ _ _ (@pvx _ 5 _ _ rfl) (@zdH _ _ _ _ _ _ _ (@pvx _ 1 _ _ rfl) (@pvx _ 2 _ _ rfl) set_list (by intro _; rfl)) (by rfl) (by rfl) (by rfl)) (by exact (@zc _ _ _ _ _ (@zaz _ _ _ _ _ _ _ _ PassesOwn.never rfl (@zdm _ _ _ _ _ _ _ rfl T.range_ (@za _ _ _ _ _ (@zg _ _ _ _ _ _ _ _ (@zE _) (@pvx _ 2 _ _ rfl) (@zf _ _ _ _)) (@za _ _ _ _ _ (@zz _ _ _ _ _ _ _ _ _ (@zr _) (by rfl) T.len_ boot_len (@za _ _ _ _ _ (@pvx _ 1 _ _ rfl) (@ze _) (by rfl)) (by decide) (by decide) (by rfl) (by rfl)) (@ze _) (by rfl)) (by rfl)) (by rfl) (by rfl)) (@zh _ _ (6) _ zap.nd rfl (Or.inl rfl) (by trivial)) (@zc _ _ _ _ _ (@zm _ _ (7) _ _ _ _ zap.nd rfl (Or.inr rfl) (@zA _ _ _ _ _ _ _ (@zq _) (@zA _ _ _ _ _ _ _ (@zq _) (@pvx _ 1 _ _ rfl) (@pvx _ 6 _ _ rfl) (fun _ _ => rfl)) (@pvx _ 3 _ _ rfl) (fun _ _ => rfl)) (by rfl) (by trivial)) (by exact (@zj _ _ _ (@zaM _ _ _ _ _ _ _ _ (@zB _ _ _ _ _ _ _ _ (@zcI _) (@pvx _ 7 _ _ rfl) (@zf _ _ _ _) (zK _)) (@zj _ _ _ (@zaR _ _ _ _ _ _ (@zao _ _ _ _ _ _ _ _ _ _ _ _ _ (CompSc.of (N':=["one","other","first","at","by","p"]) (ix:=[none,none,some 5,some 3,some 7,some 0]) (zi zaQ) ["p","rows","rank","at","some","first","k","by"] rfl rfl (by decide +kernel)) rfl (@zb9 _ _ _ _ (@zaf _ _ _ rfl (@zaf _ _ _ rfl (@zbE _)))) (@zcu _ _ _ _ _ _ _ _ _ rfl T.zip_ (@za _ _ _ _ _ (@zA _ _ _ _ _ _ _ (@zq _) (@pvx _ 1 _ _ rfl) (@pvx _ 6 _ _ rfl) (fun _ _ => rfl)) (@za _ _ _ _ _ (@pvx _ 5 _ _ rfl) (@ze _) (by rfl)) (by rfl)) (by rfl) (by rfl)) (fun _ _ _ _ => (@zbF _ (K) _ _ _ (2) _ rfl rfl (@zl _ _ _ _ _ (@zh _ _ (0) _ (show (["one","other","first","at","by","p"] : List Str).Nodup by decide +kernel) rfl (Or.inl rfl) (by trivial)) (@zl _ _ _ _ _ (@zh _ _ (1) _ (show (["one","other","first","at","by","p"] : List Str).Nodup by decide +kernel) rfl (Or.inl rfl) (by trivial)) (@zR _) (by rfl)) (by rfl)) (by rfl) (by rfl))) (fun _ _ _ _ => (@zI _)) (fun _ _ _ _ => (@zg _ _ _ _ _ _ _ _ (@zy _) (@zg _ _ _ _ _ _ _ _ (@zbf _) (@zg _ _ _ _ _ _ _ _ (@zJ _) (@pvx _ 0 _ _ rfl) (@zA _ _ _ _ _ _ _ (@zbw _ (K) rfl) (@pvx _ 2 _ _ rfl) (@pvx _ 3 _ _ rfl) (fun _ _ => rfl))) (@zg _ _ _ _ _ _ _ _ (@zJ _) (@pvx _ 4 _ _ rfl) (@pvx _ 1 _ _ rfl))) (@pvx _ 5 _ _ rfl))) (by intro _; rfl)) (@zdH _ _ _ _ _ _ _ (@pvx _ 1 _ _ rfl) (@pvx _ 6 _ _ rfl) set_list (by intro _; rfl)) (by rfl) (by rfl) (by rfl))) (@zZ _))))) (by intro _; rfl)) (by exact (@zj _ _ _ (@zm _ _ (2) _ _ _ _ zap.nd rfl (Or.inl rfl) (@zg _ _ _ _ _ _ _ _ (@zE _) (@pvx _ 2 _ _ rfl) (@zf _ _ _ _)) (by rfl) (by trivial))))))))))) (@zZ _))))) (by intro _; rfl)) (by exact (@zj _ _ _ (@zG _ _ _ _ (@pvx _ 2 _ _ rfl))))))))),?_⟩
  have hsl:=sizeLine_eq
  have rp:=zp hp
  have p0 : 0 < p:=by omega
  have hbl:=hB.length
  have hM0:=List.length_pos_iff.mpr hne
  obtain ⟨R0,hR0⟩ : ∃ R0,R0 = M.map fun row => row.map fun c => c % p:=⟨_,rfl⟩
  refine ⟨_,rfl,a,rfl,⟨_,SqL.of ha⟩,z0 (n:=bs.length) (fun i ys H' => zx H H' ∧ ∃ us : List Addr,ys = us.map V.ref ∧ LsA H' us (R0.take i)) ⟨fun _ _ e => e,[],rfl,.nil⟩ ?_ ?_ ?_ ?_⟩
  ·rintro i ys H1 hi ⟨s1,_⟩
   exact ⟨_,.ref bs[i],SqL.of (s1 _ _ ha),by rw [List.getElem?_map,List.getElem?_eq_getElem hi]; rfl⟩
  ·rintro ys H1 ⟨s1,_⟩
   exact ⟨_,SqL.of (s1 _ _ ha),by rw [List.length_map]; exact Nat.le_refl _⟩
  ·rintro i y ys H1 H2 hi ⟨s1,us,rfl,hus⟩ ⟨rfl,hy⟩
   obtain ⟨b,rfl,hb⟩:=zas (hy _ (SqL.of (s1 _ _ ha)))
   obtain ⟨row,hri,hat⟩:=Paired.get hB hb
   have hrn:=hrow row (List.mem_of_getElem? hri)
   have hul:=hus.length
   rw [List.length_take] at hul
   have h1b:=s1 _ _ hat
   refine gY ⟨_,rfl,b,rfl,⟨_,SqL.of h1b⟩,zbH (fs:=(row.map fun c => c % p).map V.int) (SqL.of h1b) (by rw [List.length_map,List.length_map,List.length_map]) (by rw [List.length_map]; omega) ?_ ?_⟩
   ·intro j x y R B hx hy hR
    obtain ⟨m,rfl,hm⟩:=zW hx
    obtain ⟨m',rfl,hm'⟩:=zW hy
    rw [List.getElem?_map,hm] at hm'
    cases hm'
    exact gY ⟨_,rfl,_,rfl,_,_,rfl,rfl,p0,hR⟩
   ·intro D hD
    have hri' : R0[i]? = some (row.map fun c => c % p):=by rw [hR0,List.getElem?_map,hri]; rfl
    refine ⟨by rw [List.length_map]; omega,s1.trans (zd hD),us ++ [D],by rw [List.map_append]; rfl,?_⟩
    rw [take_snoc hri']
    exact Paired.snoc (hus.same (zd hD)) zb
  rintro ys H1 ra ⟨s1,us,rfl,hus⟩ hra
  have hR0l : R0.length = M.length:=by rw [hR0,List.length_map]
  rw [hbl,← hR0l,List.take_length] at hus
  have G0:=zhb p0 hrow
  rw [← hR0] at G0
  have husN : LsN ra H1 us R0:=Paired.mono (fun b v z => ⟨z,fun e => by rw [e,hra] at z; cases z⟩) hus
  have h2r : upd H1 ra (.lst (us.map V.ref)) ra = some (.lst (us.map V.ref)):=zb
  have t2:=zd (o:=.lst (us.map V.ref)) hra
  have hus2 : LsN ra (upd H1 ra (.lst (us.map V.ref))) us R0:=husN.put
  have hraH : H ra = none:=s1.free hra
  have s2:=s1.trans t2
  generalize upd H1 ra (.lst (us.map V.ref)) = H2 at h2r t2 hus2 s2 ⊢
  have hul:=hus2.length
  refine ⟨_,rfl,Nat.zero_le _,fun z hz => ?_⟩
  have t3:=zd (o:=.lst []) hz
  have h3r:=t3 _ _ h2r
  have hus3:=hus2.same t3
  have s3:=s2.trans t3
  refine ⟨ra,z,_,_,rfl,rfl,.inl ⟨SqL.of h3r,SqL.of zb⟩,.inl ⟨by rw [List.length_map]; show us.length ≠ 0; omega,fun j x y _ hy => by simp at hy,?_⟩⟩
  generalize upd H2 z (.lst []) = H3 at t3 h3r hus3 s3 ⊢
  obtain ⟨u0,hu0⟩ : ∃ u0,us[0]? = some u0:=⟨us[0]'(by omega),by simp⟩
  obtain ⟨v0,hv0,hv0a,_⟩:=Paired.get hus3 hu0
  have hv0n : v0.length = n:=(G0.rw v0 (List.mem_of_getElem? hv0)).1
  refine ⟨_,rfl,?_⟩
  refine zaa (fun _ => ?_) (fun h => absurd rfl h)
  refine ⟨_,rfl,ra,_,_,.ref u0,rfl,rfl,SqL.of h3r,zS (j:=0) (by rw [List.getElem?_map,hu0]; rfl),u0,_,rfl,.inl (SqL.of hv0a),_,rfl,by rw [List.length_map]; omega,by rw [List.length_map]; omega,?_⟩
  rw [List.length_map,hv0n,Int.toNat_natCast]
  refine za8 (lo:=0) (n:=n) (fun at' σ H' => ∃ (us : List Addr) (R : List (List Int)) (pv : List Nat) (e3 e4 e5 e6 e7 : Option V),σ = [some (.int p),some (.ref ra),some (.int (pv.length : Int)),e3,e4,e5,e6,e7] ∧ zx H H' ∧ H' ra = some (.lst (us.map V.ref)) ∧ LsN ra H' us R ∧ Gs p n M at' pv R) ⟨us,R0,[],none,none,none,none,none,rfl,s3,h3r,hus3,G0⟩ ?_ ?_
  ·rintro at' σ H4 hat ⟨us,R,pv,e3,e4,e5,e6,e7,rfl,s4,h4r,hus4,G⟩
   have hul:=hus4.length
   have hRl:=G.ln
   have hpvl:=G.pvl
   refine ⟨_,rfl,_,rfl,ra,_,rfl,.inl (SqL.of h4r),_,_,rfl,⟨by omega,by omega,by rw [List.length_map]; omega,by rw [List.length_map]; omega⟩,?_⟩
   have en : (((us.map V.ref).length : Int) - (pv.length : Int)).toNat = R.length - pv.length:=by rw [List.length_map]; omega
   rw [en]
   have hRat : ∀ i,i < R.length → ∃ b row,us[i]? = some b ∧ R[i]? = some row ∧ H4 b = some (.lst (row.map V.int)) ∧ b ≠ ra ∧ row.length = n ∧ ∀ c ∈ row,0 ≤ c ∧ c < p:=fun i hi => by
    obtain ⟨b,hb⟩ : ∃ b,us[i]? = some b:=⟨us[i]'(by omega),by simp⟩
    obtain ⟨row,h1,h2,h3⟩:=Paired.get hus4 hb
    exact ⟨b,row,hb,h1,h2,h3,G.rw row (List.mem_of_getElem? h1)⟩
   have hvl : ∀ i row,R[i]? = some row → gl (R.getD i []) at' = gl row at':=fun i row h => by rw [List.getD_eq_getElem?_getD,h]; rfl
   refine z0 (n:=R.length - pv.length) (fun j ys H' => H' = H4 ∧ ys = (((List.range j).filter fun m => decide (gl (R.getD (pv.length + m) []) at' ≠ 0)).map fun m : Nat => ((pv.length + m : Nat) : Int)).map V.int) ⟨rfl,rfl⟩ (fun j ys H' hj _ => hj) (fun ys H' _ => Nat.le_refl _) ?_ ?_
   ·rintro j xx ys H5 H6 hj ⟨rfl,rfl⟩ ⟨rfl,rfl⟩
    obtain ⟨b,row,hb,hrow',hba,_,hrl,hrr⟩:=hRat (pv.length + j) (by omega)
    have hix : atI (us.map V.ref) ((pv.length : Int) + (j : Int)) = some (.ref b):=by
     rw [← Int.natCast_add]
     exact zS (by rw [List.getElem?_map,hb]; rfl)
    refine ⟨_,rfl,_,rfl,ra,_,_,.ref b,rfl,rfl,SqL.of h4r,hix,_,rfl,b,_,_,.int (gl row at'),rfl,rfl,SqL.of hba,by rw [Int.zero_add]; exact zS (by rw [List.getElem?_map,zaG (by omega)]; rfl),rfl,_,rfl,?_⟩
    have hfl:=List.length_filter_le (fun m => decide (gl (R.getD (pv.length + m) []) at' ≠ 0)) (List.range j)
    rw [List.length_range] at hfl
    rw [List.range_succ,List.filter_append,List.map_append,List.map_append]
    have hv:=hvl _ _ hrow'
    by_cases h0 : gl row at' = 0
    ·refine zaa (fun h => absurd h (by rw [h0]; simp)) (fun _ => ⟨rfl,?_⟩)
     rw [List.filter_cons_of_neg (by rw [hv]; simpa using h0),List.filter_nil,List.map_nil,List.map_nil,List.append_nil]
    ·refine zaa (fun _ => ⟨_,rfl,zV (by rw [List.length_map,List.length_map]; omega),rfl,?_⟩) (fun h => absurd (by simpa using h0) h)
     rw [List.filter_cons_of_pos (by rw [hv]; simpa using h0),List.filter_nil,← Int.natCast_add]
     rfl
   ·rintro ys H5 sm' ⟨rfl,rfl⟩ hsm
    have t6:=zd (o:=.lst ((((List.range (R.length - pv.length)).filter fun m => decide (gl (R.getD (pv.length + m) []) at' ≠ 0)).map fun m : Nat => ((pv.length + m : Nat) : Int)).map V.int)) hsm
    have h6s : upd H5 sm' (.lst ((((List.range (R.length - pv.length)).filter fun m => decide (gl (R.getD (pv.length + m) []) at' ≠ 0)).map fun m : Nat => ((pv.length + m : Nat) : Int)).map V.int)) sm' = _:=zb
    generalize upd H5 sm' (.lst ((((List.range (R.length - pv.length)).filter fun m => decide (gl (R.getD (pv.length + m) []) at' ≠ 0)).map fun m : Nat => ((pv.length + m : Nat) : Int)).map V.int)) = H6 at t6 h6s ⊢
    have h6r:=t6 _ _ h4r
    have hus6:=hus4.same t6
    have s6:=s4.trans t6
    refine ⟨_,rfl,Nat.zero_le _,fun z2 hz2 => ?_⟩
    have t7:=zd (o:=.lst []) hz2
    cases hfs : (List.range (R.length - pv.length)).filter fun m => decide (gl (R.getD (pv.length + m) []) at' ≠ 0) with
    | nil =>
     rw [hfs] at h6s
     refine ⟨sm',z2,_,_,rfl,rfl,.inl ⟨SqL.of (t7 _ _ h6s),SqL.of zb⟩,.inr ⟨rfl,fun _ => true,fun j x y hx _ => by simp at hx,?_⟩⟩
     refine ⟨_,rfl,?_⟩
     refine zaa (fun h => absurd h (by simp)) (fun _ => ?_)
     refine ⟨us,R,pv,_,_,_,_,_,rfl,s6.trans t7,t7 _ _ h6r,hus6.same t7,zhT G fun i row h1 h2 => ?_⟩
     have hi:=(List.getElem?_eq_some_iff.mp h2).1
     have:=List.filter_eq_nil_iff.mp hfs (i - pv.length) (List.mem_range.mpr (by omega))
     rw [show pv.length + (i - pv.length) = i by omega,hvl i row h2] at this
     simpa using this
    | cons m0 ms =>
     rw [hfs] at h6s
     have hm0 : m0 ∈ (List.range (R.length - pv.length)).filter fun m => decide (gl (R.getD (pv.length + m) []) at' ≠ 0):=by rw [hfs]; exact List.mem_cons_self
     obtain ⟨hm1,hm2⟩:=List.mem_filter.mp hm0
     have hm1:=List.mem_range.mp hm1
     refine ⟨sm',z2,_,_,rfl,rfl,.inl ⟨SqL.of (t7 _ _ h6s),SqL.of zb⟩,.inl ⟨by simp,fun j x y _ hy => by simp at hy,?_⟩⟩
     refine ⟨_,rfl,?_⟩
     refine zaa (fun _ => ?_) (fun h => absurd rfl h)
     generalize upd H6 z2 (.lst []) = H7 at t7 ⊢
     have h7s:=t7 _ _ h6s
     have h7r:=t7 _ _ h6r
     have hus7:=hus6.same t7
     have s7:=s6.trans t7
     obtain ⟨k0,hk0⟩ : ∃ k0,k0 = pv.length + m0:=⟨_,rfl⟩
     have hat0 : atI ((((m0 :: ms).map fun m : Nat => ((pv.length + m : Nat) : Int))).map V.int) 0 = some (.int (k0 : Int)):=by rw [hk0]; exact zS (j:=0) rfl
     obtain ⟨bf,first,hbf,hRf,hbfa,hbfn,hfl,hfr⟩:=hRat k0 (by omega)
     obtain ⟨bo,other,hbo,hRo,hboa,hbon,hol,hor⟩:=hRat pv.length (by omega)
     have hf0 : gl first at' ≠ 0:=by
      rw [← hk0,hvl k0 first hRf] at hm2
      simpa using hm2
     refine ⟨_,rfl,_,rfl,sm',_,_,.int (k0 : Int),rfl,rfl,SqL.of h7s,hat0,ra,_,_,.ref bf,rfl,rfl,SqL.of h7r,zS (by rw [List.getElem?_map,hbf]; rfl),?_⟩
     refine ⟨_,rfl,_,rfl,ra,_,_,.ref bo,rfl,rfl,SqL.of h7r,zS (by rw [List.getElem?_map,hbo]; rfl),_,rfl,_,rfl,sm',_,_,.int (k0 : Int),rfl,rfl,SqL.of h7s,hat0,ra,_,_,k0,rfl,rfl,h7r,zcw (by rw [List.length_map]; omega),?_⟩
     refine ⟨_,rfl,_,rfl,_,rfl,ra,_,_,pv.length,rfl,rfl,zb,zcw (by rw [List.length_set,List.length_map]; omega),?_⟩
     rw [ze6]
     have esw : ((us.map V.ref).set k0 (.ref bo)).set pv.length (.ref bf) = ((us.set k0 bo).set pv.length bf).map V.ref:=by rw [List.map_set,List.map_set]
     rw [esw]
     have L0:=zg9 G (k0:=k0) (by omega) hRf hRo hf0
     have h8r : upd H7 ra (.lst (((us.set k0 bo).set pv.length bf).map V.ref)) ra = some (.lst (((us.set k0 bo).set pv.length bf).map V.ref)):=zb
     have hus8 : LsN ra (upd H7 ra (.lst (((us.set k0 bo).set pv.length bf).map V.ref))) ((us.set k0 bo).set pv.length bf) ((R.set k0 other).set pv.length first):=LsN.set (LsN.set hus7.put k0 (by rw [zo hbon]; exact (t6.trans t7) _ _ hboa) hbon) pv.length (by rw [zo hbfn]; exact (t6.trans t7) _ _ hbfa) hbfn
     have h8f : upd H7 ra (.lst (((us.set k0 bo).set pv.length bf).map V.ref)) bf = some (.lst (first.map V.int)):=by rw [zo hbfn]; exact (t6.trans t7) _ _ hbfa
     have s8 : zx H (upd H7 ra (.lst (((us.set k0 bo).set pv.length bf).map V.ref))):=zX s7 hraH
     generalize upd H7 ra (.lst (((us.set k0 bo).set pv.length bf).map V.ref)) = H8 at h8r hus8 h8f s8 ⊢
     generalize (us.set k0 bo).set pv.length bf = us8 at h8r hus8 ⊢
     generalize (R.set k0 other).set pv.length first = R8 at L0 hus8
     have hR8:=L0.ln
     have hu8:=hus8.length
     refine ⟨_,rfl,_,_,rfl,rfl,_,rfl,ra,_,rfl,.inl (SqL.of h8r),_,_,rfl,⟨by omega,by omega,by rw [List.length_map]; omega,by rw [List.length_map]; omega⟩,?_⟩
     have en2 : (((us8.map V.ref).length : Int) - ((pv.length : Int) + 1)).toNat = R8.length - (pv.length + 1):=by rw [List.length_map]; omega
     rw [en2]
     have hlo : (pv.length : Int) + 1 = ((pv.length + 1 : Nat) : Int):=by omega
     refine za8 (lo:=(pv.length : Int) + 1) (n:=R8.length - (pv.length + 1)) (fun m σ H' => ∃ (us : List Addr) (R : List (List Int)) (e6 e7 : Option V),σ = [some (.int p),some (.ref ra),some (.int (pv.length : Int)),some (.int (0 + (at' : Int))),some (.ref sm'),some (.ref bf),e6,e7] ∧ zx H H' ∧ H' ra = some (.lst (us.map V.ref)) ∧ LsN ra H' us R ∧ H' bf = some (.lst (first.map V.int)) ∧ El p n M at' pv first (pv.length + 1 + m) R) ⟨us8,R8,_,_,rfl,s8,h8r,hus8,h8f,L0⟩ ?_ ?_
     ·rintro m σ H9 hm ⟨us9,R9,f6,f7,rfl,s9,h9r,hus9,h9f,L⟩
      have hR9:=L.ln
      have hu9:=hus9.length
      have hkl : pv.length + 1 + m < R9.length:=by omega
      obtain ⟨b,hb⟩ : ∃ b,us9[pv.length + 1 + m]? = some b:=⟨us9[pv.length + 1 + m]'(by omega),by simp⟩
      obtain ⟨row,hrw9,hba,hbn⟩:=Paired.get hus9 hb
      obtain ⟨hrl,hrr⟩:=L.rw row (List.mem_of_getElem? hrw9)
      have hkx : (pv.length : Int) + 1 + (m : Int) = ((pv.length + 1 + m : Nat) : Int):=by omega
      have hix : atI (us9.map V.ref) ((pv.length : Int) + 1 + (m : Int)) = some (.ref b):=by
       rw [hkx]
       exact zS (by rw [List.getElem?_map,hb]; rfl)
      have hax : atI (row.map V.int) (0 + (at' : Int)) = some (.int (gl row at')):=by
       rw [Int.zero_add]
       exact zS (by rw [List.getElem?_map,zaG (by omega)]; rfl)
      have hfx : atI (first.map V.int) (0 + (at' : Int)) = some (.int (gl first at')):=by
       rw [Int.zero_add]
       exact zS (by rw [List.getElem?_map,zaG (by omega)]; rfl)
      refine ⟨_,rfl,_,rfl,ra,_,_,.ref b,rfl,rfl,SqL.of h9r,hix,_,rfl,b,_,_,.int (gl row at'),rfl,rfl,SqL.of hba,hax,?_⟩
      refine ⟨_,rfl,rfl,_,rfl,?_⟩
      obtain ⟨q0,q1⟩:=zbk p0 hrr at'
      obtain ⟨w0,w1⟩:=zbk p0 hfr at'
      by_cases h0 : gl row at' = 0
      ·refine zaa (fun h => absurd h (by rw [h0]; simp)) (fun _ => ?_)
       exact ⟨us9,R9,_,_,rfl,s9,h9r,hus9,h9f,by rw [← Nat.add_assoc]; exact zhU L hrw9 h0⟩
      ·refine zaa (fun _ => ?_) (fun h => absurd (by simpa using h0) h)
       refine ⟨_,rfl,_,rfl,ra,_,_,.ref b,rfl,rfl,SqL.of h9r,hix,_,rfl,b,bf,_,_,rfl,SqL.of hba,SqL.of h9f,zcb (n:=n) (f:=fun one other => (one * gl first at' - gl row at' * other) % p) hba h9f (by omega) (by omega) (.inl (by omega)) (by omega) ?_ ?_⟩
       ·intro j u w Hx T R' B hu hv sx hT hR
        have hu2:=hrr u (List.mem_of_getElem? hu)
        have hfT:=sx.trans (zd (o:=.tup [.int u,.int w]) hT)
        refine gY2 (SqT.of zb) ?_
        exact ⟨_,rfl,_,rfl,_,rfl,bf,_,_,.int (gl first at'),rfl,rfl,SqL.of (hfT _ _ h9f),hfx,_,_,rfl,rfl,.inl ⟨by omega,by omega⟩,_,rfl,_,rfl,_,_,rfl,rfl,.inl ⟨by omega,by omega⟩,_,_,rfl,rfl,_,rfl,_,_,rfl,rfl,p0,hR⟩
       ·intro D Hx sx hD
        have tx:=sx.trans (zd (o:=.lst ((List.zipWith (fun one other => (one * gl first at' - gl row at' * other) % p) row first).map V.int)) hD)
        have hxD : upd Hx D (.lst ((List.zipWith (fun one other => (one * gl first at' - gl row at' * other) % p) row first).map V.int)) D = some (.lst ((List.zipWith (fun one other => (one * gl first at' - gl row at' * other) % p) row first).map V.int)):=zb
        have hDr : D ≠ ra:=fun e => by
         have:=sx _ _ h9r
         rw [← e,hD] at this
         cases this
        have L2:=zhV hp L hat (by omega) hrw9
        generalize upd Hx D (.lst ((List.zipWith (fun one other => (one * gl first at' - gl row at' * other) % p) row first).map V.int)) = Hy at tx hxD ⊢
        generalize List.zipWith (fun one other => (one * gl first at' - gl row at' * other) % p) row first = nw at L2 hxD
        have hyr:=tx _ _ h9r
        refine ⟨_,rfl,_,rfl,ra,_,_,pv.length + 1 + m,rfl,rfl,hyr,by rw [hkx]; exact zcw (by rw [List.length_map]; omega),?_⟩
        refine ⟨us9.set (pv.length + 1 + m) D,R9.set (pv.length + 1 + m) nw,_,_,rfl,zX (s9.trans tx) hraH,by rw [zb,List.map_set],LsN.set (hus9.same tx).put _ (by rw [zo hDr]; exact hxD) hDr,by rw [zo hbfn]; exact tx _ _ h9f,by rw [← Nat.add_assoc]; exact L2⟩
     ·rintro σ H9 ⟨us9,R9,f6,f7,rfl,s9,h9r,hus9,h9f,L⟩
      have hR9:=L.ln
      have hfl':=(List.getElem?_eq_some_iff.mp L.fs).1
      refine ⟨_,rfl,_,_,rfl,rfl,?_⟩
      have epv : (pv.length : Int) + 1 = ((pv ++ [at']).length : Int):=by
       rw [List.length_append]
       show _ = ((pv.length + 1 : Nat) : Int)
       omega
      exact ⟨us9,R9,pv ++ [at'],some (.int (0 + (at' : Int))),some (.ref sm'),some (.ref bf),f6,f7,congrArg (fun v : Int => [some (V.int p),some (.ref ra),some (.int v),some (.int (0 + (at' : Int))),some (.ref sm'),some (.ref bf),f6,f7]) epv,s9,h9r,hus9,ziX L (by omega)⟩
  ·rintro σ H4 ⟨us,R,pv,e3,e4,e5,e6,e7,rfl,s4,h4r,hus4,G⟩
   exact ⟨_,rfl,q pv H4 s4 (zjA hp G)⟩
end
end My
end
section
set_option maxHeartbeats 3999000
namespace My
open PySem L2 PyProof.Rows
section
variable {P : Program} {w : World} {K : PySem.W.Frag} {mg : Str → Option Value} {base : Heap} {t : Adr}
def zbX (p : Int) (k e : Nat) (a : Int × Int) : List Int:=((za0 p a.1 (e + 1)).map fun o => 0 - a.2 * o) ++ za0 p a.1 (k + e)
theorem zc7 (p : Int) (k e : Nat) (a : Int × Int) : (zbX p k e a).length = e + 1 + (k + e):=by
 unfold zbX
 rw [List.length_append,List.length_map,z9,z9]
theorem ziY {p : Int} (hp : p ∈ zk) {k e : Nat} {pts : List (Int × Int)} (hno : ∀ l,IsP p (e + 1) l → Good p k e [pts] l → ∀ i,gl l i = 0) (v : Nat → Int) (hv : Sol p (e + 1 + (k + e)) (pts.map (zbX p k e)) v) : ∀ j,j < e + 1 → Cg p (v j) 0:=by
 have rp:=zp hp
 have p0 : 0 < p:=by omega
 have hm : ∀ (f : Nat → Int) (m : Nat),IsP p m ((List.range m).map fun i => f i % p):=fun f m => ⟨by rw [List.length_map,List.length_range],fun c hc => by
  obtain ⟨i,_,rfl⟩:=List.mem_map.mp hc
  exact ⟨Int.emod_nonneg _ (by omega),Int.emod_lt_of_pos _ p0⟩⟩
 have hg : ∀ (f : Nat → Int) (m i : Nat),i < m → gl ((List.range m).map fun i => f i % p) i = f i % p:=fun f m i hi => zbb (by rw [List.getElem?_map,List.getElem?_range hi]; rfl)
 have hev : ∀ (f : Nat → Int) (m : Nat) (x : Int),Cg p (zn p x ((List.range m).map fun i => f i % p)) (sm m fun i => x ^ i * f i):=fun f m x => (zaY (by rw [(hm f m).1]; exact Nat.le_refl _)).trans (za2 fun i hi => by
  rw [hg f m i hi]
  exact ((Cg.emod _ _).mul (Cg.refl p _)).trans (Cg.of_eq (Int.mul_comm _ _)))
 have h:=hno _ (hm v (e + 1)) (fun q hq => by
  obtain rfl : q = pts:=by simpa using hq
  refine ⟨_,hm (fun i => v (e + 1 + i)) (k + e),fun a ha => ?_⟩
  obtain ⟨i,hi⟩:=List.getElem?_of_mem ha
  have h1:=hv i (zbX p k e a) (by rw [List.getElem?_map,hi]; rfl)
  unfold dot at h1
  rw [zc6] at h1
  have h2 : Cg p (sm (e + 1) fun j => gl (zbX p k e a) j * v j) (-(a.2 * zn p a.1 ((List.range (e + 1)).map fun i => v i % p))):=by
   refine Cg.trans (za2 (g:=fun j => (-a.2) * (a.1 ^ j * v j)) fun j hj => ?_) ?_
   ·unfold zbX
    rw [zc0,if_pos (by rw [List.length_map,z9]; exact hj),zeX (f:=fun o => 0 - a.2 * o) (by rw [z9]; exact hj),zha hj]
    refine (((Cg.refl p 0).sub ((Cg.refl p a.2).mul (Cg.emod p (a.1 ^ j)))).mul (Cg.refl p (v j))).trans (Cg.of_eq (by grind))
   ·rw [zaX]
    exact ((Cg.refl p (-a.2)).mul (hev v (e + 1) a.1).symm).trans (Cg.of_eq (by grind))
  have h3 : Cg p (sm (k + e) fun j => gl (zbX p k e a) (e + 1 + j) * v (e + 1 + j)) (zn p a.1 ((List.range (k + e)).map fun i => v (e + 1 + i) % p)):=by
   refine Cg.trans (za2 (g:=fun j => a.1 ^ j * v (e + 1 + j)) fun j hj => ?_) (hev (fun i => v (e + 1 + i)) (k + e) a.1).symm
   unfold zbX
   rw [zc0,if_neg (by rw [List.length_map,z9]; omega),List.length_map,z9,show e + 1 + j - (e + 1) = j by omega,zha hj]
   exact (Cg.emod _ _).mul (Cg.refl p _)
  refine Cg.eq ?_ (zad p0 _) (zae p0 _) (Int.emod_nonneg _ (by omega)) (Int.emod_lt_of_pos _ p0)
  have h4:=(h2.add h3).symm.trans h1
  have h5:=h4.add (Cg.refl p (a.2 * zn p a.1 ((List.range (e + 1)).map fun i => v i % p)))
  exact (Cg.of_eq (by omega)).trans (h5.trans ((Cg.of_eq (by rw [Int.zero_add,Int.mul_comm])).trans (Cg.emod _ _).symm)))
 intro j hj
 have:=h j
 rw [hg v (e + 1) j hj] at this
 exact (Cg.emod p (v j)).symm.trans (Cg.of_eq this)
def zhc (K : PySem.W.Frag) : Sp:=fun vs H Q _ => ∃ (c tt rl r : Addr) (p : Int) (k e : Nat) (pl : List Int) (rw : List (Option Int)),vs = [.ref c,.ref rl,.int (e : Int)] ∧ zbj H c tt p k pl ∧ H rl = some (.lst [.ref r]) ∧ H r = some (.lst (rw.map enc)) ∧ rw.length = pl.length ∧ pl.length ≤ 16 ∧ p ∈ zk ∧ (∀ x ∈ pl,0 ≤ x ∧ x < p) ∧ (∀ z,some z ∈ rw → 0 ≤ z ∧ z < p) ∧ 1 ≤ k ∧ k ≤ 100 ∧ e ≤ 100 ∧
 (∀ l,IsP p (e + 1) l → Good p k e [hps pl rw] l → ∀ i,gl l i = 0) ∧ ∀ H',zx H H' → Q (.bl false) H'
theorem zQ : FnScope ["code","rows","e","p","k","places","asked","which","row","number","entry","left","right","none","parts","part","many","right_alone"] ["code","rows","e"] (zi za3):=⟨rfl,rfl,rfl,by decide +kernel,rfl,by decide +kernel,by decide +kernel⟩
theorem zhd {fd : FuncData} (T : Txt K mg t) (F : Fun K "_law_can" "_law_can" za3 t.l_can fd) : FnOk P w K mg base CX0 2 t.l_can fd ["code","rows","e"] (zhc K):=by
 obtain ⟨fd_l_powers,F_l_powers,b_l_powers⟩:=T.f_l_powers
 have G_l_powers:=zeF (P:=P) (w:=w) (base:=base) T F_l_powers
 obtain ⟨fd_l_rank,F_l_rank,b_l_rank⟩:=T.f_l_rank
 have G_l_rank:=zf6 (P:=P) (w:=w) (base:=base) T F_l_rank
 refine F.ok zQ (fun vs H Q E h => ?_) (fun cdv A outer s H vs Q E hr h => ?_)
 ·obtain ⟨c,tt,rl,r,p,k,e,pl,rw,rfl,_⟩:=h
  rfl
 ·obtain ⟨c,tt,rl,r,p,k,e,pl,rw,rfl,hc,hrl,hra,hrwl,hn,hp,hpl,hrg,k0,k1,e1,hno,q⟩:=h
  have hu : (A.deeper (envOfC (Str.ofString "_law_can") (zi za3) s.heap.objs.size t.l_can cdv)).units + 20 < cLine:=by have:=hr.units; omega
  refine ⟨_,(@zc _ _ _ _ _ (@zaR _ _ _ _ _ _ (@pvx _ 0 _ _ rfl) (@zau _ _ _ _ _ _ rfl (@zl _ _ _ _ _ (@zh _ _ (3) _ zQ.nd rfl (Or.inl rfl) (by trivial)) (@zl _ _ _ _ _ (@zh _ _ (4) _ zQ.nd rfl (Or.inl rfl) (by trivial)) (@zl _ _ _ _ _ (@zh _ _ (5) _ zQ.nd rfl (Or.inl rfl) (by trivial)) (@zR _) (by rfl)) (by rfl)) (by rfl)) (by rfl) (by rfl)) (by rfl) (by rfl) (by rfl)) (by exact (@zc _ _ _ _ _ (@zm _ _ (6) _ _ _ _ zQ.nd rfl (Or.inl rfl) (@zU _ _ _ _ (@ze _)) (by rfl) (by trivial)) (by exact (@zc _ _ _ _ _ (@zaz _ _ _ _ _ _ _ _ PassesOwn.never rfl (@zb1 _ _ _ _ _ _ _ _ rfl T.enumerate_ (@za _ _ _ _ _ (@pvx _ 1 _ _ rfl) (@ze _) (by rfl)) (by rfl)) (@zau _ _ _ _ _ _ rfl (@zl _ _ _ _ _ (@zh _ _ (7) _ zQ.nd rfl (Or.inr rfl) (by trivial)) (@zl _ _ _ _ _ (@zh _ _ (8) _ zQ.nd rfl (Or.inl rfl) (by trivial)) (@zR _) (by rfl)) (by rfl)) (by rfl) (by rfl)) (@zj _ _ _ (@zaz _ _ _ _ _ _ _ _ PassesOwn.never rfl (@zb1 _ _ _ _ _ _ _ _ rfl T.enumerate_ (@za _ _ _ _ _ (@pvx _ 8 _ _ rfl) (@ze _) (by rfl)) (by rfl)) (@zau _ _ _ _ _ _ rfl (@zl _ _ _ _ _ (@zh _ _ (9) _ zQ.nd rfl (Or.inl rfl) (by trivial)) (@zl _ _ _ _ _ (@zh _ _ (10) _ zQ.nd rfl (Or.inr rfl) (by trivial)) (@zR _) (by rfl)) (by rfl)) (by rfl) (by rfl)) (@zj _ _ _ (@zaM _ _ _ _ _ _ _ _ (@zB _ _ _ _ _ _ _ _ (@zdI _) (@pvx _ 10 _ _ rfl) (@zbq _ _ _) (zK _)) (@zc _ _ _ _ _ (@zac _ _ _ _ _ _ _ _ _ _ _ _ _ (11) _ _ _ zQ.nd rfl (Or.inl rfl) (CompSc.of (N':=["one","entry"]) (ix:=[none,some 10]) (zi za3) ["code","rows","e","p","k","places","asked","which","row","number","entry","left","right","none","parts","part","many","right_alone"] rfl rfl (by decide +kernel)) rfl (@z8 _ _ rfl) (@zab _ _ _ _ (@zu _ _ _ _ _ _ _ _ _ _ _ _ _ _ _ _ G_l_powers (hr.mono (by decide)) rfl T.m_l_powers F_l_powers.kp b_l_powers .nil (@zP _) (@za _ _ _ _ _ (@pvx _ 3 _ _ rfl) (@za _ _ _ _ _ (@zA _ _ _ _ _ _ _ (@zbh _) (@pvx _ 5 _ _ rfl) (@pvx _ 9 _ _ rfl) (fun _ _ => rfl)) (@za _ _ _ _ _ (@zg _ _ _ _ _ _ _ _ (@zE _) (@pvx _ 2 _ _ rfl) (@zf _ _ _ _)) (@ze _) (by rfl)) (by rfl)) (by rfl)) (by decide) (by rfl) (by rfl))) (fun _ _ _ _ => (@zh _ _ (0) _ (show (["one","entry"] : List Str).Nodup by decide +kernel) rfl (Or.inl rfl) (by trivial))) (fun _ _ _ _ => (@zI _)) (fun _ _ _ _ => (@zg _ _ _ _ _ _ _ _ (@zbf _) (@zf _ _ _ _) (@zg _ _ _ _ _ _ _ _ (@zJ _) (@pvx _ 1 _ _ rfl) (@pvx _ 0 _ _ rfl)))) (by rfl) (by intro _; rfl) (by trivial)) (by exact (@zc _ _ _ _ _ (@zm _ _ (12) _ _ _ _ zQ.nd rfl (Or.inr rfl) (@zu _ _ _ _ _ _ _ _ _ _ _ _ _ _ _ _ G_l_powers (hr.mono (by decide)) rfl T.m_l_powers F_l_powers.kp b_l_powers .nil (@zP _) (@za _ _ _ _ _ (@pvx _ 3 _ _ rfl) (@za _ _ _ _ _ (@zA _ _ _ _ _ _ _ (@zbh _) (@pvx _ 5 _ _ rfl) (@pvx _ 9 _ _ rfl) (fun _ _ => rfl)) (@za _ _ _ _ _ (@zg _ _ _ _ _ _ _ _ (@zE _) (@pvx _ 4 _ _ rfl) (@pvx _ 2 _ _ rfl)) (@ze _) (by rfl)) (by rfl)) (by rfl)) (by decide) (by rfl) (by rfl)) (by rfl) (by trivial)) (by exact (@zc _ _ _ _ _ (@zm _ _ (13) _ _ _ _ zQ.nd rfl (Or.inr rfl) (@zg _ _ _ _ _ _ _ _ (@zdM _) (@zU _ _ _ _ (@za _ _ _ _ _ (@zf _ _ _ _) (@ze _) (by rfl))) (@zg _ _ _ _ _ _ _ _ (@zE _) (@pvx _ 4 _ _ rfl) (@pvx _ 2 _ _ rfl))) (by rfl) (by trivial)) (by exact (@zc _ _ _ _ _ (@zac _ _ _ _ _ _ _ _ _ _ _ _ _ (14) _ _ _ zQ.nd rfl (Or.inl rfl) (CompSc.of (N':=["j","which","right","none"]) (ix:=[none,some 7,some 12,some 13]) (zi za3) ["code","rows","e","p","k","places","asked","which","row","number","entry","left","right","none","parts","part","many","right_alone"] rfl rfl (by decide +kernel)) rfl (@z8 _ _ rfl) (@zay _ _ _ _ _ _ rfl T.range_ (@za _ _ _ _ _ (@zz _ _ _ _ _ _ _ _ _ (@zr _) (by rfl) T.len_ boot_len (@za _ _ _ _ _ (@pvx _ 1 _ _ rfl) (@ze _) (by rfl)) (by decide) (by decide) (by rfl) (by rfl)) (@ze _) (by rfl)) (by rfl)) (fun _ _ _ _ => (@zh _ _ (0) _ (show (["j","which","right","none"] : List Str).Nodup by decide +kernel) rfl (Or.inl rfl) (by trivial))) (fun _ _ _ _ => (@zI _)) (fun _ _ _ _ => (@zcE _ _ _ _ _ _ _ _ (@zB _ _ _ _ _ _ _ _ (@zcH _) (@pvx _ 0 _ _ rfl) (@pvx _ 1 _ _ rfl) (zK _)) (@pvx _ 2 _ _ rfl) (@pvx _ 3 _ _ rfl))) (by rfl) (by intro _; rfl) (by trivial)) (by exact (@zc _ _ _ _ _ (@zaz _ _ _ _ _ _ _ _ PassesOwn.never rfl (@zab _ _ _ _ (@pvx _ 14 _ _ rfl)) (@zh _ _ (15) _ zQ.nd rfl (Or.inl rfl) (by trivial)) (@zj _ _ _ (@zm _ _ (11) _ _ _ _ zQ.nd rfl (Or.inl rfl) (@zg _ _ _ _ _ _ _ _ (@zcO _) (@pvx _ 11 _ _ rfl) (@pvx _ 15 _ _ rfl)) (by rfl) (by trivial))) (by intro _; rfl)) (by exact (@zj _ _ _ (@zbD _ _ _ _ (@zcN _ _ _ _ _ _ _ _ _ _ _ _ PySem.F.plainAttrs_list PySem.F.slot_list_append PySem.F.type_list_append (@zaV _) (@pvx _ 6 _ _ rfl) (@za _ _ _ _ _ (@pvx _ 11 _ _ rfl) (@ze _) (by rfl)) (by rfl) (by rfl) (by rfl) (by rfl) (by rfl)) (by rfl))))))))))))) (@zZ _))) (by intro _; rfl))) (by intro _; rfl)) (by exact (@zc _ _ _ _ _ (@zm _ _ (16) _ _ _ _ zQ.nd rfl (Or.inl rfl) (@zg _ _ _ _ _ _ _ _ (@zE _) (@zg _ _ _ _ _ _ _ _ (@zE _) (@pvx _ 2 _ _ rfl) (@zf _ _ _ _)) (@zg _ _ _ _ _ _ _ _ (@zJ _) (@zz _ _ _ _ _ _ _ _ _ (@zr _) (by rfl) T.len_ boot_len (@za _ _ _ _ _ (@pvx _ 1 _ _ rfl) (@ze _) (by rfl)) (by decide) (by decide) (by rfl) (by rfl)) (@zg _ _ _ _ _ _ _ _ (@zE _) (@pvx _ 4 _ _ rfl) (@pvx _ 2 _ _ rfl)))) (by rfl) (by trivial)) (by exact (@zc _ _ _ _ _ (@zaM _ _ _ _ _ _ _ _ (@zB _ _ _ _ _ _ _ _ (@ziC _ hu) (@pvx _ 6 _ _ rfl) (@zU _ _ _ _ (@ze _)) (zK _)) (@zj _ _ _ (@zG _ _ _ _ (@zci _ _ _ _))) (@zZ _)) (by exact (@zc _ _ _ _ _ (@zac _ _ _ _ _ _ _ _ _ _ _ _ _ (17) _ _ _ zQ.nd rfl (Or.inl rfl) (CompSc.of (N':=["line","e"]) (ix:=[none,some 2]) (zi za3) ["code","rows","e","p","k","places","asked","which","row","number","entry","left","right","none","parts","part","many","right_alone"] rfl rfl (by decide +kernel)) rfl (@z8 _ _ rfl) (@zab _ _ _ _ (@pvx _ 6 _ _ rfl)) (fun _ _ _ _ => (@zh _ _ (0) _ (show (["line","e"] : List Str).Nodup by decide +kernel) rfl (Or.inl rfl) (by trivial))) (fun _ _ _ _ => (@zI _)) (fun _ _ _ _ => (@zaN _ _ _ _ _ _ _ _ _ _ (zec (K:=K) rfl) (@pvx _ 0 _ _ rfl) (@zaS _ _ _ (@zg _ _ _ _ _ _ _ _ (@zE _) (@pvx _ 1 _ _ rfl) (@zf _ _ _ _))) (@zbg _))) (by rfl) (by intro _; rfl) (by trivial)) (by exact (@zj _ _ _ (@zG _ _ _ _ (@zhm _ _ _ _ _ _ _ _ (@zfb _) (@zg _ _ _ _ _ _ _ _ (@zbf _) (@zu _ _ _ _ _ _ _ _ _ _ _ _ _ _ _ _ G_l_rank (hr.mono (by decide)) rfl T.m_l_rank F_l_rank.kp b_l_rank .nil (@zP _) (@za _ _ _ _ _ (@pvx _ 3 _ _ rfl) (@za _ _ _ _ _ (@pvx _ 6 _ _ rfl) (@ze _) (by rfl)) (by rfl)) (by decide) (by rfl) (by rfl)) (@zu _ _ _ _ _ _ _ _ _ _ _ _ _ _ _ _ G_l_rank (hr.mono (by decide)) rfl T.m_l_rank F_l_rank.kp b_l_rank .nil (@zP _) (@za _ _ _ _ _ (@pvx _ 3 _ _ rfl) (@za _ _ _ _ _ (@pvx _ 17 _ _ rfl) (@ze _) (by rfl)) (by rfl)) (by decide) (by rfl) (by rfl))) (@zg _ _ _ _ _ _ _ _ (@zE _) (@pvx _ 2 _ _ rfl) (@zf _ _ _ _)) (zK _)))))))))))))))),?_⟩
  have hsl:=sizeLine_eq
  have rp:=zp hp
  have p0 : 0 < p:=by omega
  refine ⟨_,rfl,c,_,rfl,SqT.of hc.1,rfl,_,_,rfl,_,_,rfl,_,_,rfl,rfl,?_⟩
  refine ⟨Nat.zero_le _,fun aa haa => ?_⟩
  have t1:=zd (o:=.lst []) haa
  have h1a : upd H aa (.lst []) aa = some (.lst []):=zb
  generalize upd H aa (.lst []) = H1 at t1 h1a ⊢
  refine ⟨_,rfl,rl,_,rfl,SqL.of (t1 _ _ hrl),zca (n:=1) (fun m σ H' => ∃ (us : List Addr) (e7 e8 e9 e10 e11 e12 e13 e14 e15 : Option V),σ = [some (.ref c),some (.ref rl),some (.int (e : Int)),some (.int p),some (.int (k : Int)),some (.ref tt),some (.ref aa),e7,e8,e9,e10,e11,e12,e13,e14,e15,none,none] ∧ zx H H' ∧ H' aa = some (.lst (us.map V.ref)) ∧ LsN aa H' us (if m = 0 then [] else (hps pl rw).map (zbX p k e))) ⟨[],none,none,none,none,none,none,none,none,none,rfl,t1,h1a,.nil⟩ ?_ ?_ ?_ ?_⟩
  ·rintro m σ H2 hm ⟨us,e7,e8,e9,e10,e11,e12,e13,e14,e15,rfl,s2,_⟩
   obtain rfl : m = 0:=by omega
   exact ⟨_,_,SqL.of (s2 _ _ hrl),rfl⟩
  ·rintro σ H2 ⟨us,e7,e8,e9,e10,e11,e12,e13,e14,e15,rfl,s2,_⟩
   exact ⟨_,SqL.of (s2 _ _ hrl),Nat.le_refl _⟩
  ·rintro m x σ H2 H3 hm ⟨us,e7,e8,e9,e10,e11,e12,e13,e14,e15,rfl,s2,h2a,hus⟩ ⟨T,v,hT,rfl,rfl,hv⟩
   obtain rfl : m = 0:=by omega
   have hv:=hv _ (SqL.of (s2 _ _ hrl))
   cases hv
   have t3:=zd (o:=.tup [.int ((0 : Nat) : Int),.ref r]) hT
   refine ⟨T,_,rfl,SqT.of zb,rfl,_,_,rfl,_,_,rfl,rfl,?_⟩
   have s3:=s2.trans t3
   have h3a:=t3 _ _ h2a
   have hus3:=hus.same t3
   generalize upd H2 T (.tup [.int ((0 : Nat) : Int),.ref r]) = H3 at t3 s3 h3a hus3 ⊢
   refine ⟨_,rfl,r,_,rfl,SqL.of (s3 _ _ hra),zca (n:=rw.length) (fun i σ H' => ∃ (us : List Addr) (e9 e10 e11 e12 e13 e14 e15 : Option V),σ = [some (.ref c),some (.ref rl),some (.int (e : Int)),some (.int p),some (.int (k : Int)),some (.ref tt),some (.ref aa),some (.int ((0 : Nat) : Int)),some (.ref r),e9,e10,e11,e12,e13,e14,e15,none,none] ∧ zx H H' ∧ H' aa = some (.lst (us.map V.ref)) ∧ LsN aa H' us ((hps (pl.take i) (rw.take i)).map (zbX p k e))) ⟨us,_,_,_,_,_,_,_,rfl,s3,h3a,hus3⟩ ?_ ?_ ?_ ?_⟩
   ·rintro i σ H4 hi ⟨us,e9,e10,e11,e12,e13,e14,e15,rfl,s4,_⟩
    exact ⟨_,enc rw[i],SqL.of (s4 _ _ hra),by rw [List.getElem?_map,List.getElem?_eq_getElem hi]; rfl⟩
   ·rintro σ H4 ⟨us,e9,e10,e11,e12,e13,e14,e15,rfl,s4,_⟩
    exact ⟨_,SqL.of (s4 _ _ hra),by rw [List.length_map]; exact Nat.le_refl _⟩
   ·rintro i x σ H4 H5 hi ⟨us,e9,e10,e11,e12,e13,e14,e15,rfl,s4,h4a,hus4⟩ ⟨T2,v,hT2,rfl,rfl,hv⟩
    obtain ⟨o,rfl,ho⟩:=zcx (hv _ (SqL.of (s4 _ _ hra)))
    have t5:=zd (o:=.tup [.int (i : Int),enc o]) hT2
    refine ⟨T2,_,rfl,SqT.of zb,rfl,_,_,rfl,_,_,rfl,rfl,?_⟩
    have s5:=s4.trans t5
    have h5a:=t5 _ _ h4a
    have hus5:=hus4.same t5
    generalize upd H4 T2 (.tup [.int (i : Int),enc o]) = H5 at t5 s5 h5a hus5 ⊢
    obtain ⟨x,hx⟩ : ∃ x,pl[i]? = some x:=⟨pl[i]'(by omega),by simp⟩
    obtain ⟨x0,x1⟩:=hpl x (List.mem_of_getElem? hx)
    have hsn:=zcX hx ho
    have hul:=hus5.length
    have hhl:=zbJ (pl.take i) (rw.take i)
    rw [List.length_take] at hhl
    rw [List.length_map] at hul
    refine ⟨_,rfl,rfl,_,rfl,?_⟩
    cases o with
    | none =>
     refine zaa (fun h => absurd h (by simp [enc])) (fun _ => ?_)
     exact ⟨us,_,_,_,_,_,_,_,rfl,s5,h5a,by rw [hsn]; simpa using hus5⟩
    | some y =>
     refine zaa (fun _ => ?_) (fun h => absurd (by simp [enc]) h)
     obtain ⟨y0,y1⟩:=hrg y (List.mem_of_getElem? ho)
     have hc5:=hc.same s5
     have hpx : atI (pl.map V.int) (i : Int) = some (.int x):=zS (by rw [List.getElem?_map,hx]; rfl)
     refine ⟨_,rfl,_,rfl,_,rfl,tt,_,_,.int x,rfl,rfl,SqT.of hc5.2,hpx,_,rfl,_,_,rfl,rfl,p,x,e + 1,rfl,by omega,by omega,x0,x1,by omega,by omega,fun pw H6 hpw s6 h6p => ?_⟩
     refine ⟨pw,rfl,⟨_,SqL.of h6p⟩,zbH (fs:=((za0 p x (e + 1)).map fun o => 0 - y * o).map V.int) (SqL.of h6p) (by rw [List.length_map,List.length_map,List.length_map]) (by rw [List.length_map,z9]; omega) ?_ ?_⟩
     ·intro j u w R B hu' hw' hR
      obtain ⟨n1,rfl,hn1⟩:=zW hu'
      obtain ⟨n2,rfl,hn2⟩:=zW hw'
      rw [List.getElem?_map,hn1] at hn2
      cases hn2
      exact gY ⟨_,rfl,_,rfl,_,_,rfl,rfl,.inl ⟨by omega,by omega⟩,_,_,rfl,rfl,hR⟩
     intro lf hlf
     have t7:=s6.trans (zd (o:=.lst (((za0 p x (e + 1)).map fun o => 0 - y * o).map V.int)) hlf)
     have h7l : upd H6 lf (.lst (((za0 p x (e + 1)).map fun o => 0 - y * o).map V.int)) lf = some (.lst (((za0 p x (e + 1)).map fun o => 0 - y * o).map V.int)):=zb
     generalize upd H6 lf (.lst (((za0 p x (e + 1)).map fun o => 0 - y * o).map V.int)) = H7 at t7 h7l ⊢
     have hc7:=hc5.same t7
     refine ⟨_,rfl,_,rfl,_,rfl,tt,_,_,.int x,rfl,rfl,SqT.of hc7.2,hpx,_,rfl,_,rfl,_,_,rfl,rfl,p,x,k + e,(by show [V.int p,V.int x,V.int ((k : Int) + (e : Int))] = _; rw [Int.natCast_add]),by omega,by omega,x0,x1,by omega,by omega,fun rt H8 hrt s8 h8r => ?_⟩
     refine ⟨by show 1 ≤ sizeLine; omega,fun z hz => ⟨_,rfl,_,rfl,_,_,rfl,rfl,z,_,[.int 0],rfl,rfl,zb,by omega,by omega,by show 1 * _ ≤ sizeLine; omega,fun nn hnn => ?_⟩⟩
     have t9:=(s8.trans (zd (o:=.lst [.int 0]) hz)).trans (zd (o:=(.lst (List.replicate ((k : Int) + (e : Int)).toNat [V.int 0]).flatten)) hnn)
     have h9r:=((zd (o:=.lst [.int 0]) hz).trans (zd (o:=(.lst (List.replicate ((k : Int) + (e : Int)).toNat [V.int 0]).flatten)) hnn)) _ _ h8r
     have h9l:=t9 _ _ h7l
     generalize upd (upd H8 z (.lst [.int 0])) nn (.lst (List.replicate ((k : Int) + (e : Int)).toNat [V.int 0]).flatten) = H9 at t9 h9r h9l ⊢
     have s9:=s5.trans (t7.trans t9)
     refine ⟨_,rfl,rl,_,rfl,.inl (SqL.of (s9 _ _ hrl)),_,rfl,(by show (-2 ^ 62 : Int) ≤ 1; decide),(by show (1 : Int) < 2 ^ 62; decide),z0 (n:=1) (fun m ys H' => H' = H9 ∧ ys = if m = 0 then [] else [V.ref rt]) ⟨rfl,rfl⟩ (fun m ys H' hm _ => hm) (fun ys H' _ => Nat.le_refl _) ?_ ?_⟩
     ·rintro m xx ys Ha Hb hm ⟨rfl,rfl⟩ ⟨rfl,rfl⟩
      obtain rfl : m = 0:=by omega
      refine gY ⟨_,rfl,_,rfl,rfl,_,rfl,?_⟩
      refine zaa (fun _ => ⟨_,rfl,by show 0 < sizeLine; omega,rfl,rfl⟩) (fun h => absurd rfl h)
     rintro ys Ha pt ⟨rfl,rfl⟩ hpt
     rw [if_neg (by decide)]
     have t10:=zd (o:=.lst [V.ref rt]) hpt
     have h10p : upd Ha pt (.lst [V.ref rt]) pt = some (.lst ([rt].map V.ref)):=zb
     generalize upd Ha pt (.lst [V.ref rt]) = Hb at t10 h10p ⊢
     have h10r:=t10 _ _ h9r
     have h10l:=t10 _ _ h9l
     have s10:=s9.trans t10
     refine ⟨_,rfl,pt,rfl,⟨_,SqL.of h10p⟩,zbZ (K:=K) (a:=pt) (xs:=[rt].map V.ref) (fun m σ H' => ∃ (lc : Addr) (g15 : Option V),σ = [some (.ref c),some (.ref rl),some (.int (e : Int)),some (.int p),some (.int (k : Int)),some (.ref tt),some (.ref aa),some (.int ((0 : Nat) : Int)),some (.ref r),some (.int (i : Int)),some (enc (some y)),some (.ref lc),some (.ref rt),some (.ref nn),some (.ref pt),g15,none,none] ∧ zx Hb H' ∧ H' lc = some (.lst ((if m = 0 then ((za0 p x (e + 1)).map fun o => 0 - y * o) else zbX p k e (x,y)).map V.int)) ∧ Hb aa ≠ none ∧ lc ≠ aa)
      ⟨lf,_,rfl,fun _ _ e => e,h10l,?_,?_⟩ (fun m σ H' _ ⟨_,_,_,s',_⟩ => SqL.of (s' _ _ h10p)) ?_ ?_⟩
     ·rw [(t7.trans (t9.trans t10)) _ _ h5a]; simp
     ·intro e0
      have:=s6 _ _ h5a
      rw [← e0,hlf] at this
      cases this
     ·rintro m y2 σ Hc hy2 ⟨lc,g15,rfl,sc,hlc,hane,hlca⟩
      obtain ⟨b,rfl,hb⟩:=zas hy2
      obtain rfl : m = 0:=by
       have:=(List.getElem?_eq_some_iff.mp hb).1
       simpa using this
      cases hb
      rw [if_pos rfl] at hlc
      refine ⟨_,rfl,_,rfl,lc,rt,_,_,rfl,rfl,hlc,sc _ _ h10r,by rw [List.length_map,List.length_map,List.length_map,z9,z9]; omega,fun l2 hl2 => ?_⟩
      refine ⟨l2,_,rfl,sc.trans (zd hl2),?_,hane,?_⟩
      ·rw [zb,if_neg (by decide)]
       unfold zbX
       rw [List.map_append]
      ·intro e0
       cases ha' : Hb aa with
       | none => exact hane ha'
       | some o2 =>
        have:=sc _ _ ha'
        rw [← e0,hl2] at this
        cases this
     ·rintro σ Hc ⟨lc,g15,rfl,sc,hlc,hane,hlca⟩
      rw [if_neg (show ¬ ([rt].map V.ref).length = 0 by simp)] at hlc
      have hca:=sc _ _ ((t7.trans (t9.trans t10)) _ _ h5a)
      have husc:=hus5.same ((t7.trans (t9.trans t10)).trans sc)
      refine ⟨_,rfl,.inl ⟨rfl,_,SqL.of hca⟩,_,rfl,aa,_,_,rfl,rfl,hca,by rw [List.length_map]; omega,?_⟩
      refine ⟨us ++ [lc],_,_,_,_,_,_,_,rfl,zX (s10.trans sc) haa,by rw [zb,List.map_append]; rfl,?_⟩
      rw [hsn,List.map_append]
      exact Paired.snoc husc.put ⟨by rw [zo hlca]; exact hlc,hlca⟩
   ·rintro σ H4 ⟨us,e9,e10,e11,e12,e13,e14,e15,rfl,s4,h4a,hus4⟩
    refine ⟨us,_,_,_,_,_,_,_,_,_,rfl,s4,h4a,?_⟩
    rw [List.take_length,List.take_of_length_le (by omega)] at hus4
    exact hus4
  ·rintro σ H2 ⟨us,e7,e8,e9,e10,e11,e12,e13,e14,e15,rfl,s2,h2a,hus⟩
   rw [if_neg (by decide)] at hus
   have hul:=hus.length
   rw [List.length_map] at hul
   have hhl:=zbJ pl rw
   have hne : hps pl rw ≠ []:=fun e0 => by
    have h1:=hno (unit e) ⟨by unfold unit; rw [List.length_append,List.length_replicate]; rfl,fun c' hc' => ?_⟩ (fun pts hpts => ?_) e
    ·rw [zd0,if_pos rfl] at h1
     cases h1
    ·unfold unit at hc'
     rcases List.mem_append.mp hc' with h | h
     ·rw [List.eq_of_mem_replicate h]; omega
     ·have : c' = 1:=by simpa using h
      omega
    ·obtain rfl : pts = hps pl rw:=by simpa using hpts
     rw [e0]
     exact ⟨List.replicate (k + e) 0,⟨List.length_replicate,fun c' hc' => by rw [List.eq_of_mem_replicate hc']; omega⟩,fun a ha => by cases ha⟩
   have hn0:=List.length_pos_iff.mpr hne
   have husA : LsA H2 us ((hps pl rw).map (zbX p k e)):=Paired.mono (fun _ _ z => z.1) hus
   refine ⟨_,rfl,_,_,rfl,rfl,_,rfl,rl,_,rfl,.inl (SqL.of (s2 _ _ hrl)),_,rfl,_,rfl,_,_,rfl,rfl,_,_,rfl,rfl,.inl ⟨by show (-2 ^ 64 : Int) < 1; decide,by show (1 : Int) < 2 ^ 64; decide⟩,_,_,rfl,rfl,?_⟩
   refine ⟨_,rfl,Nat.zero_le _,fun z hz => ?_⟩
   have t3:=zd (o:=.lst []) hz
   refine ⟨aa,z,_,_,rfl,rfl,.inl ⟨SqL.of (t3 _ _ h2a),SqL.of zb⟩,.inl ⟨by rw [List.length_map]; show us.length ≠ 0; omega,fun j x y _ hy => by simp at hy,?_⟩⟩
   generalize upd H2 z (.lst []) = H3 at t3 ⊢
   refine ⟨_,rfl,?_⟩
   refine zaa (fun h => absurd h (by simp)) (fun _ => ?_)
   have h3a:=t3 _ _ h2a
   have hus3:=husA.same t3
   refine ⟨_,rfl,aa,rfl,⟨_,SqL.of h3a⟩,z0 (n:=us.length) (fun m ys H' => zx H3 H' ∧ ∃ ws : List Addr,ys = ws.map V.ref ∧ LsA H' ws ((((hps pl rw).map (zbX p k e)).map fun row => row.drop (e + 1)).take m)) ⟨fun _ _ e => e,[],rfl,.nil⟩ ?_ ?_ ?_ ?_⟩
   ·rintro m ys H4 hm ⟨s4,_⟩
    exact ⟨_,.ref us[m],SqL.of (s4 _ _ h3a),by rw [List.getElem?_map,List.getElem?_eq_getElem hm]; rfl⟩
   ·rintro ys H4 ⟨s4,_⟩
    exact ⟨_,SqL.of (s4 _ _ h3a),by rw [List.length_map]; exact Nat.le_refl _⟩
   ·rintro m y ys H4 H5 hm ⟨s4,ws,rfl,hws⟩ ⟨rfl,hy⟩
    obtain ⟨b,rfl,hb⟩:=zas (hy _ (SqL.of (s4 _ _ h3a)))
    obtain ⟨row,hrow,hat⟩:=Paired.get hus3 hb
    have hwl:=hws.length
    rw [List.length_take,List.length_map,List.length_map] at hwl
    have hrl' : row.length = e + 1 + (k + e):=by
     obtain ⟨a,_,rfl⟩:=List.mem_map.mp (List.mem_of_getElem? hrow)
     exact zc7 p k e a
    refine gY ⟨_,rfl,_,rfl,_,_,rfl,rfl,_,rfl,b,_,rfl,SqL.of (s4 _ _ hat),fun z2 hz2 => ?_⟩
    have ec : zaE (row.map V.int) (some ((e : Int) + 1)) none = (row.drop (e + 1)).map V.int:=by
     rw [show (e : Int) + 1 = ((e + 1 : Nat) : Int) by omega,zeB (by rw [List.length_map]; omega),List.map_drop]
    refine ⟨by rw [List.length_map]; omega,s4.trans (zd hz2),ws ++ [z2],by rw [List.map_append]; rfl,?_⟩
    have hri : (((hps pl rw).map (zbX p k e)).map fun row => row.drop (e + 1))[m]? = some (row.drop (e + 1)):=by rw [List.getElem?_map,hrow]; rfl
    rw [take_snoc hri]
    exact Paired.snoc (hws.same (zd hz2)) (by rw [zb,ec])
   ·rintro ys H4 ral ⟨s4,ws,rfl,hws⟩ hral
    rw [List.take_of_length_le (by rw [List.length_map,List.length_map]; omega)] at hws
    have t5:=zd (o:=.lst (ws.map V.ref)) hral
    have h5r : upd H4 ral (.lst (ws.map V.ref)) ral = some (.lst (ws.map V.ref)):=zb
    have hws5:=hws.same t5
    have s35:=s4.trans t5
    generalize upd H4 ral (.lst (ws.map V.ref)) = H5 at t5 h5r hws5 s35 ⊢
    refine ⟨_,rfl,_,rfl,p,aa,us,_,e + 1 + (k + e),rfl,s35 _ _ h3a,hus3.same s35,fun e0 => hne (List.map_eq_nil_iff.mp e0),by rw [List.length_map]; omega,by omega,fun row hrow => ?_,hp,fun pa H6 s6 RA => ?_⟩
    ·obtain ⟨a,_,rfl⟩:=List.mem_map.mp hrow
     exact zc7 p k e a
    refine ⟨_,rfl,_,rfl,p,ral,ws,_,k + e,rfl,s6 _ _ h5r,hws5.same s6,fun e0 => hne (List.map_eq_nil_iff.mp (List.map_eq_nil_iff.mp e0)),by rw [List.length_map,List.length_map]; omega,by omega,fun row hrow => ?_,hp,fun pb H7 s7 RB => ?_⟩
    ·obtain ⟨r',hr',rfl⟩:=List.mem_map.mp hrow
     obtain ⟨a,_,rfl⟩:=List.mem_map.mp hr'
     rw [List.length_drop,zc7]
     omega
    have hd:=zhX hp RA RB (ziY hp hno)
    refine ⟨_,_,rfl,rfl,_,rfl,_,_,rfl,rfl,_,_,rfl,rfl,?_⟩
    have ef : decide ((pa.length : Int) - (pb.length : Int) < (e : Int) + 1) = false:=decide_eq_false (by omega)
    show Q (.bl (decide ((pa.length : Int) - (pb.length : Int) < (e : Int) + 1))) H7
    rw [ef]
    exact q H7 (((s2.trans t3).trans s35).trans (s6.trans s7))
end
end My
end
section
set_option maxHeartbeats 3996000
namespace L2
open PySem PySem.Spec PyProof.Rows
theorem ze5 {prog : Program} {w : World} {A : Around} {E : Value → Shared → Prop} {s : Shared} {l : Addr} {xs : Array (Int × Tok)} {Q : Value → Shared → Prop} (hh : A.handled = none) (hl : s.heap.IsTuple l (intItems xs)) (hne : 0 < xs.size) (h : ∀ v h' tk,(intItems xs)[argBest (fun i j => decide (numAt xs i > numAt xs j)) (xs.size - 1)]? = some v → (∀ b o,s.heap.get? b = some o → h'.get? b = some o) → Q v { s with heap:=h',toks:=tk }) : wpAny (model prog w) A (call (.builtin "max") [.ref l]) Q E s:=by
 have hlt : l < s.heap.objs.size:=by (obtain ⟨_,e,_⟩:=hl; exact Heap.lt_size e)
 refine call_max_walk (wpAny_pyIter_tuple hl ?_)
 refine ⟨_,[s.heap.objs.size,l],[s.heap.objs.size],_,_,_,_,rfl,Walks.tuple (A:=A.in1) hh _ l (Nat.ne_of_lt hlt) (intItems xs),⟨⟨_,Heap.get?_push_size _ rfl,rfl,rfl⟩,hl.push _⟩,fun c hc => ?_,by simpa [intItems] using hne,CmpOf.ints_gt (numAt xs) (fun _ _ => intItems_at),fun v h' tk hP hk => ?_⟩
 ·show c < (s.heap.push _).objs.size
  rw [Heap.size_push]
  rcases (List.mem_cons.mp hc) with e | hc
  ·(rw [e]; exact Nat.lt_succ_self _)
  ·rw [List.mem_singleton.mp hc]; exact Nat.lt_succ_of_lt hlt
 ·refine h v h' tk (by simpa [intItems] using hP) fun b o e => hk b o (fun hm => ?_) (Heap.get?_push_of_some _ e)
  have:=Heap.lt_size e
  rw [List.mem_singleton.mp hm] at this
  exact Nat.lt_irrefl _ this
theorem zf7 {X : Cx} (hc : X.calm = true) : zbs X (.builtin "max") (fun xs H Q => ∃ (p : Addr) (ns : List Int),xs = [.ref p] ∧ SqT X.K H p (ns.map V.int) ∧ ns ≠ [] ∧ ∀ M : Int,M ∈ ns → (∀ a ∈ ns,a ≤ M) → Q (.int M) H):=by
 intro pins s σ H xs us Q I r h
 obtain ⟨p,ns,rfl,hq,hn,q⟩:=h
 obtain ⟨u,rfl,rx⟩:=vals1 r
 cases rx
 obtain ⟨its,rv,pl,hz⟩:=I.tuple hq
 have hi : IntsAre its ns:=by simpa using intsAre_of rv
 (obtain ⟨xs,e⟩:=hi.allInts.items)
 have hns : ns = xs.toList.map (·.1):=by rw [← hi.numsOf,← nums_intItems,← e]
 have hsz : 0 < xs.size:=by
  have h3:=List.length_pos_iff.mpr hn
  rw [hns,List.length_map,Array.length_toList] at h3
  exact h3
 have hl : s.heap.IsTuple p its.toArray:=pl
 rw [e] at hl
 refine ze5 (I.ok.hd hc) hl hsz fun v h' tk hv hk => ?_
 (obtain ⟨t,rfl⟩:=intItems_at hv)
 (obtain ⟨h1,h2⟩:=argBest_gt (numAt xs) (xs.size - 1))
 refine ⟨.int _,H,I.kept hk,⟨_,rfl⟩,q _ ?_ fun a ha => ?_⟩
 ·(rw [hns,numAt_eq]; exact getD_mem (by rw [List.length_map,Array.length_toList]; omega))
 ·rw [hns] at ha
  (obtain ⟨j,hj,rfl⟩:=mem_getD ha)
  (rw [List.length_map,Array.length_toList] at hj)
  (rw [← numAt_eq]; exact h2 j (by omega))
end L2
end
section
set_option maxHeartbeats 3999000
namespace My
open PySem L2 PyProof.Rows
section
variable {P : Program} {w : World} {K : PySem.W.Frag} {mg : Str → Option Value} {base : Heap} {t : Adr}
theorem zhe {H : Hp} {Q : VK} {a b : Addr} {rw : List (Option Int)} (ha : SqL K H a (rw.map enc)) (hb : SqL K H b (rw.map enc)) (q : Q (.bl false) H) : ziB K true (.ref a) (.ref b) H Q:=by
 refine ⟨a,b,_,_,rfl,rfl,.inl ⟨ha,hb⟩,.inr ⟨rfl,fun _ => true,fun j x y e1 e2 => ?_,?_⟩⟩
 ·rw [e1] at e2
  cases e2
  obtain ⟨o,rfl,_⟩:=zcx e1
  have h : EqD K H 8 (enc o) (enc o) (eqV (enc o) (enc o)):=EqD.flat (by cases o <;> rfl) (by cases o <;> rfl)
  have e : eqV (enc o) (enc o) = true:=by cases o <;> simp [enc,eqV]
  rw [e] at h
  exact h
 ·have : (List.range (rw.map enc).length).all (fun _ => true) = true:=by simp
  rw [this]
  exact q
theorem zhf : ∀ {pl : List Int} {rw : List (Option Int)} {i : Nat} {x y : Int},pl[i]? = some x → rw[i]? = some (some y) → (x,y) ∈ hps pl rw
 | [],_,_,_,_,h,_ => (by simp at h)
 | _ :: _,[],_,_,_,_,h => (by simp at h)
 | a :: pl,o :: rw,0,x,y,h1,h2 => by
  simp only [List.getElem?_cons_zero,Option.some.injEq] at h1 h2
  subst h1 h2
  exact List.mem_cons_self
 | a :: pl,o :: rw,i + 1,x,y,h1,h2 => by
  rw [List.getElem?_cons_succ] at h1 h2
  have ih:=zhf h1 h2
  cases o with
  | none => exact ih
  | some z => exact List.mem_cons_of_mem _ ih
theorem zar : FnScope ["script","at","code","p","k","places","row","handed","found","e","left","right","good","number","entry","one","other"] ["script"] (zi zbC):=⟨rfl,rfl,rfl,by decide +kernel,rfl,by decide +kernel,by decide +kernel⟩
theorem ziZ {fd : FuncData} (T : Txt K mg t) (F : Fun K "law" "law" zbC t.law fd) : FnOk P w K mg base CX0 7 t.law fd ["script"] (zdS K):=by
 obtain ⟨fd_l_code,F_l_code,b_l_code⟩:=T.f_l_code
 have G_l_code:=zf1 (P:=P) (w:=w) (base:=base) T F_l_code
 obtain ⟨fd_l_row,F_l_row,b_l_row⟩:=T.f_l_row
 have G_l_row:=zg3 (P:=P) (w:=w) (base:=base) T F_l_row
 obtain ⟨fd_locator_of,F_locator_of,b_locator_of⟩:=T.f_locator_of
 have G_locator_of:=zdj (P:=P) (w:=w) (base:=base) T F_locator_of
 obtain ⟨fd_l_whole,F_l_whole,b_l_whole⟩:=T.f_l_whole
 have G_l_whole:=ze1 (P:=P) (w:=w) (base:=base) T F_l_whole
 obtain ⟨fd_l_value,F_l_value,b_l_value⟩:=T.f_l_value
 have G_l_value:=zc3 (P:=P) (w:=w) (base:=base) T F_l_value
 obtain ⟨fd_l_can,F_l_can,b_l_can⟩:=T.f_l_can
 have G_l_can:=zhd (P:=P) (w:=w) (base:=base) T F_l_can
 refine F.ok zar (fun vs H Q E h => ?_) (fun cdv A outer s H vs Q E hr h => ?_)
 ·obtain ⟨a,ns,rfl,_⟩:=h
  rfl
 ·obtain ⟨a,ns,rfl,hS,hlen,q⟩:=h
  have hu : (A.deeper (envOfC (Str.ofString "law") (zi zbC) s.heap.objs.size t.law cdv)).units + 20 < cLine:=by have:=hr.units; omega
  refine ⟨_,(@zc _ _ _ _ _ (@zaz _ _ _ _ _ _ _ _ PassesOwn.never rfl (@zay _ _ _ _ _ _ rfl T.range_ (@za _ _ _ _ _ (@zf _ _ _ _) (@ze _) (by rfl)) (by rfl)) (@zh _ _ (1) _ zar.nd rfl (Or.inl rfl) (by trivial)) (@zc _ _ _ _ _ (@zm _ _ (2) _ _ _ _ zar.nd rfl (Or.inl rfl) (@zu _ _ _ _ _ _ _ _ _ _ _ _ _ _ _ _ G_l_code (hr.mono (by decide)) rfl T.m_l_code F_l_code.kp b_l_code .nil (@zP _) (@za _ _ _ _ _ (@pvx _ 0 _ _ rfl) (by exact (@za _ _ _ _ _ (@zg _ _ _ _ _ _ _ _ (@zJ _) (@zf _ _ _ _) (@pvx _ 1 _ _ rfl)) (@za _ _ _ _ _ (@zf _ _ _ _) (@za _ _ _ _ _ (@zf _ _ _ _) (@ze _) (by rfl)) (by rfl)) (by rfl))) (by rfl)) (by decide) (by rfl) (by rfl)) (by rfl) (by trivial)) (by exact (@zc _ _ _ _ _ (@zaR _ _ _ _ _ _ (@pvx _ 2 _ _ rfl) (@zau _ _ _ _ _ _ rfl (@zl _ _ _ _ _ (@zh _ _ (3) _ zar.nd rfl (Or.inr rfl) (by trivial)) (@zl _ _ _ _ _ (@zh _ _ (4) _ zar.nd rfl (Or.inl rfl) (by trivial)) (@zl _ _ _ _ _ (@zh _ _ (5) _ zar.nd rfl (Or.inl rfl) (by trivial)) (@zR _) (by rfl)) (by rfl)) (by rfl)) (by rfl) (by rfl)) (by rfl) (by rfl) (by rfl)) (by exact (@zc _ _ _ _ _ (@zm _ _ (6) _ _ _ _ zar.nd rfl (Or.inl rfl) (@zu _ _ _ _ _ _ _ _ _ _ _ _ _ _ _ _ G_l_row (hr.mono (by decide)) rfl T.m_l_row F_l_row.kp b_l_row .nil (@zP _) (@za _ _ _ _ _ (@pvx _ 0 _ _ rfl) (@za _ _ _ _ _ (@zg _ _ _ _ _ _ _ _ (@zE _) (@zg _ _ _ _ _ _ _ _ (@zJ _) (@zf _ _ _ _) (@pvx _ 1 _ _ rfl)) (@zf _ _ _ _)) (@za _ _ _ _ _ (@pvx _ 2 _ _ rfl) (@ze _) (by rfl)) (by rfl)) (by rfl)) (by decide) (by rfl) (by rfl)) (by rfl) (by trivial)) (by exact (@zc _ _ _ _ _ (@zm _ _ (7) _ _ _ _ zar.nd rfl (Or.inl rfl) (@zaD _ _ _ _ _ _ _ _ _ (@zdL _) (by rfl) T.list_ boot_list (@za _ _ _ _ _ (@pvx _ 6 _ _ rfl) (@ze _) (by rfl)) (by decide) (by decide) (by rfl) (by rfl)) (by rfl) (by trivial)) (by exact (@zc _ _ _ _ _ (@zm _ _ (8) _ _ _ _ zar.nd rfl (Or.inl rfl) (@zu _ _ _ _ _ _ _ _ _ _ _ _ _ _ _ _ G_locator_of (hr.mono (by decide)) rfl T.m_locator_of F_locator_of.kp b_locator_of .nil (@zP _) (@za _ _ _ _ _ (@pvx _ 2 _ _ rfl) (@za _ _ _ _ _ (@pvx _ 7 _ _ rfl) (@ze _) (by rfl)) (by rfl)) (by decide) (by rfl) (by rfl)) (by rfl) (by trivial)) (by exact (@zc _ _ _ _ _ (@zaM _ _ _ _ _ _ _ _ (@PW.pt _ _ _ (@zcC _ _ _ _ _ _ _ (@zcD _ _ _ _ (@zcB _ _ _ (@zz _ _ _ _ _ _ _ _ _ (@zaP _) (by rfl) T.isinstance_ boot_isinstance (@za _ _ _ _ _ (@pvx _ 8 _ _ rfl) (@za _ _ _ _ _ (@zbY _ _ (.ty "tuple") _ _ rfl T.tuple_ boot_tuple rfl (by decide) (by decide)) (@ze _) (by rfl)) (by rfl)) (by decide) (by decide) (by rfl) (by rfl)) (by intro _; rfl))) (@zcC _ _ _ _ _ _ _ (@zB _ _ _ _ _ _ _ _ (@zcI _) (@zz _ _ _ _ _ _ _ _ _ (@zr _) (by rfl) T.len_ boot_len (@za _ _ _ _ _ (@pvx _ 8 _ _ rfl) (@ze _) (by rfl)) (by decide) (by decide) (by rfl) (by rfl)) (@zf _ _ _ _) (zK _)) (@zcC _ _ _ _ _ _ _ (@zB _ _ _ _ _ _ _ _ (@zeP _ hu) (@pvx _ 7 _ _ rfl) (@pvx _ 6 _ _ rfl) (zK _)) (@zeG _ _ _ _ (@zcD _ _ _ _ (@zcB _ _ _ (@zu _ _ _ _ _ _ _ _ _ _ _ _ _ _ _ _ G_l_whole (hr.mono (by decide)) rfl T.m_l_whole F_l_whole.kp b_l_whole .nil (@zP _) (@za _ _ _ _ _ (@zA _ _ _ _ _ _ _ (@zbh _) (@pvx _ 8 _ _ rfl) (@zf _ _ _ _) (fun _ _ => rfl)) (@ze _) (by rfl)) (by decide) (by rfl) (by rfl)) (by intro _; rfl)))))))) (@zj _ _ _ (@zG _ _ _ _ (@zci _ _ _ _))) (@zZ _)) (by exact (@zc _ _ _ _ _ (@zaR _ _ _ _ _ _ (@pvx _ 8 _ _ rfl) (@zau _ _ _ _ _ _ rfl (@zl _ _ _ _ _ (@zh _ _ (9) _ zar.nd rfl (Or.inl rfl) (by trivial)) (@zl _ _ _ _ _ (@zh _ _ (10) _ zar.nd rfl (Or.inl rfl) (by trivial)) (@zl _ _ _ _ _ (@zh _ _ (11) _ zar.nd rfl (Or.inl rfl) (by trivial)) (@zR _) (by rfl)) (by rfl)) (by rfl)) (by rfl) (by rfl)) (by rfl) (by rfl) (by rfl)) (by exact (@zc _ _ _ _ _ (@zaM _ _ _ _ _ _ _ _ (@PW.pt _ _ _ (@zcC _ _ _ _ _ _ _ (@zcD _ _ _ _ (@zcB _ _ _ (@zz _ _ _ _ _ _ _ _ _ (@zaP _) (by rfl) T.isinstance_ boot_isinstance (@za _ _ _ _ _ (@pvx _ 10 _ _ rfl) (@za _ _ _ _ _ (@zbY _ _ (.ty "tuple") _ _ rfl T.tuple_ boot_tuple rfl (by decide) (by decide)) (@ze _) (by rfl)) (by rfl)) (by decide) (by decide) (by rfl) (by rfl)) (by intro _; rfl))) (@zcC _ _ _ _ _ _ _ (@zcD _ _ _ _ (@zcB _ _ _ (@zz _ _ _ _ _ _ _ _ _ (@zaP _) (by rfl) T.isinstance_ boot_isinstance (@za _ _ _ _ _ (@pvx _ 11 _ _ rfl) (@za _ _ _ _ _ (@zbY _ _ (.ty "tuple") _ _ rfl T.tuple_ boot_tuple rfl (by decide) (by decide)) (@ze _) (by rfl)) (by rfl)) (by decide) (by decide) (by rfl) (by rfl)) (by intro _; rfl))) (@zcC _ _ _ _ _ _ _ (@zB _ _ _ _ _ _ _ _ (@zcI _) (@zz _ _ _ _ _ _ _ _ _ (@zr _) (by rfl) T.len_ boot_len (@za _ _ _ _ _ (@pvx _ 10 _ _ rfl) (@ze _) (by rfl)) (by decide) (by decide) (by rfl) (by rfl)) (@zg _ _ _ _ _ _ _ _ (@zE _) (@pvx _ 9 _ _ rfl) (@zf _ _ _ _)) (zK _)) (@zeG _ _ _ _ (@zB _ _ _ _ _ _ _ _ (@zcI _) (@zz _ _ _ _ _ _ _ _ _ (@zr _) (by rfl) T.len_ boot_len (@za _ _ _ _ _ (@pvx _ 11 _ _ rfl) (@ze _) (by rfl)) (by decide) (by decide) (by rfl) (by rfl)) (@zg _ _ _ _ _ _ _ _ (@zE _) (@pvx _ 4 _ _ rfl) (@pvx _ 9 _ _ rfl)) (zK _))))))) (@zj _ _ _ (@zG _ _ _ _ (@zci _ _ _ _))) (@zZ _)) (by exact (@zc _ _ _ _ _ (@zac _ _ _ _ _ _ _ _ _ _ _ _ _ (12) _ _ _ zar.nd rfl (Or.inl rfl) (CompSc.of (N':=["number","p"]) (ix:=[none,some 3]) (zi zbC) ["script","at","code","p","k","places","row","handed","found","e","left","right","good","number","entry","one","other"] rfl rfl (by decide +kernel)) rfl (@z8 _ _ rfl) (@zge _ _ _ _ (@zg _ _ _ _ _ _ _ _ (@zfx _) (@pvx _ 10 _ _ rfl) (@pvx _ 11 _ _ rfl))) (fun _ _ _ _ => (@zh _ _ (0) _ (show (["number","p"] : List Str).Nodup by decide +kernel) rfl (Or.inl rfl) (by trivial))) (fun _ _ _ _ => (@zI _)) (fun _ _ _ _ => (@zga _ _ _ _ _ _ _ (@zu _ _ _ _ _ _ _ _ _ _ _ _ _ _ _ _ G_l_whole (hr.mono (by decide)) rfl T.m_l_whole F_l_whole.kp b_l_whole .nil (@zP _) (@za _ _ _ _ _ (@pvx _ 0 _ _ rfl) (@ze _) (by rfl)) (by decide) (by rfl) (by rfl)) (@zf9 _ _ _ _ _ (@zgj _ _ _ _ _ _ _ _ _ _ _ _ (@zjd _) (@zfb _) (@zf _ _ _ _) (@pvx _ 0 _ _ rfl) (@pvx _ 1 _ _ rfl) (by with_unfolding_all rfl))))) (by rfl) (by intro _; rfl) (by trivial)) (by exact (@zc _ _ _ _ _ (@zaM _ _ _ _ _ _ _ _ (@PW.pt _ _ _ (@zcC _ _ _ _ _ _ _ (@zB _ _ _ _ _ _ _ _ (@zfJ _) (@zci _ _ _ _) (@pvx _ 12 _ _ rfl) (by with_unfolding_all rfl)) (@zeG _ _ _ _ (@zB _ _ _ _ _ _ _ _ (@zcH _) (@zz _ _ _ _ _ _ _ _ _ (@zf7 _ rfl) (by rfl) T.max_ boot_max (@za _ _ _ _ _ (@pvx _ 10 _ _ rfl) (@ze _) (by rfl)) (by decide) (by decide) (by rfl) (by rfl)) (@zf _ _ _ _) (zK _))))) (@zj _ _ _ (@zG _ _ _ _ (@zci _ _ _ _))) (@zZ _)) (by exact (@zc _ _ _ _ _ (@zaz _ _ _ _ _ _ _ _ PassesOwn.never rfl (@zb1 _ _ _ _ _ _ _ _ rfl T.enumerate_ (@za _ _ _ _ _ (@pvx _ 6 _ _ rfl) (@ze _) (by rfl)) (by rfl)) (@zau _ _ _ _ _ _ rfl (@zl _ _ _ _ _ (@zh _ _ (13) _ zar.nd rfl (Or.inl rfl) (by trivial)) (@zl _ _ _ _ _ (@zh _ _ (14) _ zar.nd rfl (Or.inl rfl) (by trivial)) (@zR _) (by rfl)) (by rfl)) (by rfl) (by rfl)) (@zc _ _ _ _ _ (@zik _ _ (15) (16) _ _ _ _ _ _ _ _ _ _ _ rfl zar.nd rfl rfl (by decide) rfl rfl (@za _ _ _ _ _ (@zu _ _ _ _ _ _ _ _ _ _ _ _ _ _ _ _ G_l_value (hr.mono (by decide)) rfl T.m_l_value F_l_value.kp b_l_value .nil (@zP _) (@za _ _ _ _ _ (@pvx _ 3 _ _ rfl) (@za _ _ _ _ _ (@pvx _ 10 _ _ rfl) (@za _ _ _ _ _ (@zA _ _ _ _ _ _ _ (@zbh _) (@pvx _ 5 _ _ rfl) (@pvx _ 13 _ _ rfl) (fun _ _ => rfl)) (@ze _) (by rfl)) (by rfl)) (by rfl)) (by decide) (by rfl) (by rfl)) (@za _ _ _ _ _ (@zu _ _ _ _ _ _ _ _ _ _ _ _ _ _ _ _ G_l_value (hr.mono (by decide)) rfl T.m_l_value F_l_value.kp b_l_value .nil (@zP _) (@za _ _ _ _ _ (@pvx _ 3 _ _ rfl) (@za _ _ _ _ _ (@pvx _ 11 _ _ rfl) (@za _ _ _ _ _ (@zA _ _ _ _ _ _ _ (@zbh _) (@pvx _ 5 _ _ rfl) (@pvx _ 13 _ _ rfl) (fun _ _ => rfl)) (@ze _) (by rfl)) (by rfl)) (by rfl)) (by decide) (by rfl) (by rfl)) (@ze _) (by rfl)) (by rfl)) (by with_unfolding_all rfl) (by rfl)) (by exact (@zj _ _ _ (@zaM _ _ _ _ _ _ _ _ (@PW.pt _ _ _ (@zeH _ _ _ _ _ _ _ (@zB _ _ _ _ _ _ _ _ (@zdI _) (@pvx _ 14 _ _ rfl) (@zbq _ _ _) (zK _)) (@zdG _ _ _ _ (@zB _ _ _ _ _ _ _ _ (@zcI _) (@zg _ _ _ _ _ _ _ _ (@zy _) (@zg _ _ _ _ _ _ _ _ (@zJ _) (@pvx _ 15 _ _ rfl) (@pvx _ 14 _ _ rfl)) (@pvx _ 3 _ _ rfl)) (@pvx _ 16 _ _ rfl) (zK _))))) (@zj _ _ _ (@zG _ _ _ _ (@zci _ _ _ _))) (@zZ _))))) (by intro _; rfl)) (by exact (@zj _ _ _ (@zaM _ _ _ _ _ _ _ _ (@PW.pt _ _ _ (@zeH _ _ _ _ _ _ _ (@zB _ _ _ _ _ _ _ _ (@zfc _) (@pvx _ 9 _ _ rfl) (@zf _ _ _ _) (zK _)) (@zdG _ _ _ _ (@zcB _ _ _ (@zu _ _ _ _ _ _ _ _ _ _ _ _ _ _ _ _ G_l_can (hr.mono (by decide)) rfl T.m_l_can F_l_can.kp b_l_can .nil (@zP _) (@za _ _ _ _ _ (@pvx _ 2 _ _ rfl) (@za _ _ _ _ _ (@zU _ _ _ _ (@za _ _ _ _ _ (@pvx _ 6 _ _ rfl) (@ze _) (by rfl))) (@za _ _ _ _ _ (@zg _ _ _ _ _ _ _ _ (@zbf _) (@pvx _ 9 _ _ rfl) (@zf _ _ _ _)) (@ze _) (by rfl)) (by rfl)) (by rfl)) (by decide) (by rfl) (by rfl)) (by intro _; rfl))))) (@zj _ _ _ (@zG _ _ _ _ (@zci _ _ _ _))) (@zZ _))))))))))))))))))))))))) (by intro _; rfl)) (by exact (@zj _ _ _ (@zG _ _ _ _ (@zci _ _ _ _))))),?_⟩
  have hsl:=sizeLine_eq
  refine ⟨3,rfl,by decide,by decide,?_⟩
  refine za8 (lo:=0) (n:=3) (fun i σ H' => ∃ (e1 e2 e3 e4 e5 e6 e7 e8 e9 e10 e11 e12 e13 e14 e15 e16 : Option V),σ = [some (.ref a),e1,e2,e3,e4,e5,e6,e7,e8,e9,e10,e11,e12,e13,e14,e15,e16] ∧ zx H H') ⟨none,none,none,none,none,none,none,none,none,none,none,none,none,none,none,none,rfl,fun _ _ e => e⟩ ?_ ?_
  ·rintro i σ H0 hi ⟨e1,e2,e3,e4,e5,e6,e7,e8,e9,e10,e11,e12,e13,e14,e15,e16,rfl,s0⟩
   refine ⟨_,rfl,_,rfl,_,_,rfl,rfl,.inl ⟨by decide,by decide⟩,a,ns,3 * (0 + (i : Int)),5,16,rfl,s0.seq hS,hlen,by omega,by omega,by decide,by decide,by decide,by decide,fun c tt p kI pl H1 hc1 s1 co h1c h1t => ?_⟩
   have rp:=zp co.pr
   have k1:=co.k1
   have kk:=co.kk
   have kn:=co.kl
   have ln:=co.ln
   have p0 : 0 < p:=by omega
   obtain ⟨k,rfl⟩ : ∃ k : Nat,kI = k:=⟨kI.toNat,by omega⟩
   have sA1:=s0.trans s1
   have hc1' : zbj H1 c tt p k pl:=⟨h1c,h1t⟩
   refine ⟨_,rfl,c,_,rfl,SqT.of h1c,rfl,_,_,rfl,_,_,rfl,_,_,rfl,rfl,?_⟩
   refine ⟨_,rfl,_,rfl,_,_,rfl,rfl,.inl ⟨by decide,by decide⟩,_,_,rfl,rfl,_,rfl,a,c,tt,ns,3 * (0 + (i : Int)) + 1,p,k,pl,rfl,sA1.seq hS,hlen,by omega,by omega,hc1',by omega,by omega,co.rg,by omega,fun r rw H2 hr2 s2 hrl hrw h2r => ?_⟩
   have sA2:=sA1.trans s2
   have hc2:=hc1'.same s2
   refine ⟨_,rfl,r,_,rfl,.inl (SqL.of h2r),fun hn hhn => ?_⟩
   have t3:=zd (o:=.lst (rw.map enc)) hhn
   have h3n : upd H2 hn (.lst (rw.map enc)) hn = some (.lst (rw.map enc)):=zb
   generalize upd H2 hn (.lst (rw.map enc)) = H3 at t3 h3n ⊢
   have hc3:=hc2.same t3
   refine ⟨_,rfl,_,rfl,c,tt,hn,p,k,pl,rw,rfl,hc3,h3n,hrl,by omega,co.pr,co.nd,co.rg,hrw,by omega,by omega,fun z la rb e left right H4 s4 h4z h4l h4r he16 L => ?_⟩
   have s24:=t3.trans s4
   have hc4:=hc2.same s24
   have h4row:=s24 _ _ h2r
   have hlfl : left.length = e + 1:=L.lf.1
   obtain ⟨hright,hrev⟩:=L.ok (hps pl rw) (by simp)
   have hrt : right = szd (thr p (tmP p left (hps pl rw))) (k + e):=by
    have:=L.rt
    simpa using this
   rw [← hrt] at hright hrev
   have hrgl : right.length = k + e:=hright.1
   refine ⟨_,rfl,_,_,_,_,rfl,.tup h4z,rfl,true,rfl,zc9 ⟨_,rfl,z,_,rfl,.inr (SqT.of h4z),rfl,_,rfl,zc9 ⟨_,rfl,_,rfl,zhe (SqL.of (s4 _ _ h3n)) (SqL.of h4row) ⟨_,rfl,zc9 ⟨_,rfl,z,_,_,_,rfl,rfl,SqT.of h4z,rfl,(e : Int),rfl,_,rfl,zc9 ?_⟩⟩⟩⟩⟩
   refine ⟨_,rfl,z,_,rfl,SqT.of h4z,rfl,_,_,rfl,_,_,rfl,_,_,rfl,rfl,?_⟩
   refine ⟨_,rfl,_,_,_,_,rfl,.tup h4l,rfl,true,rfl,zc9 ⟨_,rfl,_,_,_,_,rfl,.tup h4r,rfl,true,rfl,zc9 ⟨_,rfl,la,_,rfl,.inr (SqT.of h4l),_,rfl,_,_,rfl,rfl,rfl,_,rfl,?_⟩⟩⟩
   rw [List.length_map,hlfl]
   refine zaa (fun h => absurd h (by simp)) (fun _ => ?_)
   refine ⟨_,rfl,rb,_,rfl,.inr (SqT.of h4r),_,rfl,_,rfl,_,_,rfl,rfl,rfl,_,rfl,?_⟩
   rw [List.length_map,hrgl]
   refine zaa (fun h => absurd h (by simp)) (fun _ => ?_)
   refine ⟨_,rfl,_,rfl,la,rb,_,_,rfl,rfl,h4l,h4r,by rw [List.length_map,List.length_map]; omega,fun e0 => ?_,fun bt H5 s5 h5b => ?_⟩
   ·have:=congrArg List.length e0
    rw [List.length_map] at this
    have : right.length = 0:=this
    omega
   rw [← List.map_append] at h5b
   have hbr : ∀ x ∈ left ++ right,0 ≤ x ∧ x < p:=fun x hx => by
    rcases List.mem_append.mp hx with h | h
    ·exact L.lf.2 x h
    ·exact hright.2 x h
   refine ⟨bt,rfl,⟨_,SqT.of h5b⟩,z0 (n:=(left ++ right).length) (fun m ys H' => H' = H5 ∧ ys = List.replicate m (V.bl true)) ⟨rfl,rfl⟩ ?_ ?_ ?_ ?_⟩
   ·rintro m ys H' hm ⟨rfl,_⟩
    exact ⟨_,.int (left ++ right)[m],SqT.of h5b,by rw [List.getElem?_map,List.getElem?_eq_getElem hm]; rfl⟩
   ·rintro ys H' ⟨rfl,_⟩
    exact ⟨_,SqT.of h5b,by rw [List.length_map]; exact Nat.le_refl _⟩
   ·rintro m y ys H' H6 hm ⟨rfl,rfl⟩ ⟨rfl,hy⟩
    obtain ⟨x,rfl,hx⟩:=zW (hy _ (SqT.of h5b))
    obtain ⟨x0,x1⟩:=hbr x (List.mem_of_getElem? hx)
    rw [List.length_append] at hm
    refine gY ⟨_,rfl,x,rfl,_,rfl,?_⟩
    refine zaa (fun _ => ?_) (fun h => absurd rfl h)
    refine ⟨_,rfl,_,_,rfl,rfl,_,rfl,?_⟩
    refine zaa (fun _ => ?_) (fun h => absurd (decide_eq_true x0) h)
    refine ⟨_,rfl,_,_,rfl,rfl,by rw [List.length_replicate]; omega,rfl,?_⟩
    rw [List.replicate_succ']
    show _ ++ [V.bl (decide (x < p))] = _
    rw [decide_eq_true x1]
   rintro ys H6 gd ⟨rfl,rfl⟩ hgd
   have t7:=zd (o:=.lst (List.replicate (left ++ right).length (V.bl true))) hgd
   have h7g : upd H6 gd (.lst (List.replicate (left ++ right).length (V.bl true))) gd = some (.lst (List.replicate (left ++ right).length (V.bl true))):=zb
   generalize upd H6 gd (.lst (List.replicate (left ++ right).length (V.bl true))) = H7 at t7 h7g ⊢
   have s47:=s5.trans t7
   refine ⟨_,rfl,gd,_,rfl,.inl (SqL.of h7g),rfl,by simp [zbt],_,rfl,?_⟩
   refine zaa (fun hh => absurd hh (by simp [inV,eqV])) (fun _ => ?_)
   refine ⟨_,rfl,la,left,rfl,SqT.of (s47 _ _ h4l),(fun e0 => by (rw [e0] at hlfl; cases hlfl)),fun M hM1 hM2 => ?_⟩
   have hM0 : M ≠ 0:=fun e0 => by
    obtain ⟨j,hj⟩:=L.nz
    refine hj ?_
    by_cases hjl : j < left.length
    ·have hm:=List.mem_of_getElem? (zaG hjl)
     have:=hM2 _ hm
     have:=(L.lf.2 _ hm).1
     omega
    ·exact zav (by omega)
   refine ⟨rfl,_,rfl,?_⟩
   refine zaa (fun hh => absurd hh (by simpa using hM0)) (fun _ => ?_)
   have h7row:=s47 _ _ h4row
   have hc7:=hc4.same s47
   refine ⟨_,rfl,r,_,rfl,SqL.of h7row,zca (n:=rw.length) (fun m σ H' => ∃ (f13 f14 f15 f16 : Option V),σ = [some (.ref a),some (.int (0 + (i : Int))),some (.ref c),some (.int p),some (.int (k : Int)),some (.ref tt),some (.ref r),some (.ref hn),some (.ref z),some (.int (e : Int)),some (.ref la),some (.ref rb),some (.ref gd),f13,f14,f15,f16] ∧ zx H7 H') ⟨_,_,_,_,rfl,fun _ _ e => e⟩ ?_ ?_ ?_ ?_⟩
   ·rintro m σ H8 hm ⟨f13,f14,f15,f16,rfl,s8⟩
    exact ⟨_,enc rw[m],SqL.of (s8 _ _ h7row),by rw [List.getElem?_map,List.getElem?_eq_getElem hm]; rfl⟩
   ·rintro σ H8 ⟨f13,f14,f15,f16,rfl,s8⟩
    exact ⟨_,SqL.of (s8 _ _ h7row),by rw [List.length_map]; exact Nat.le_refl _⟩
   ·rintro m x σ H8 H9 hm ⟨f13,f14,f15,f16,rfl,s8⟩ ⟨T2,v,hT2,rfl,rfl,hv⟩
    obtain ⟨o,rfl,ho⟩:=zcx (hv _ (SqL.of (s8 _ _ h7row)))
    have t9:=zd (o:=.tup [.int (m : Int),enc o]) hT2
    refine ⟨T2,_,rfl,SqT.of zb,rfl,_,_,rfl,_,_,rfl,rfl,?_⟩
    have s9:=s8.trans t9
    generalize upd H8 T2 (.tup [.int (m : Int),enc o]) = H9 at t9 s9 ⊢
    obtain ⟨x,hx⟩ : ∃ x,pl[m]? = some x:=⟨pl[m]'(by omega),by simp⟩
    obtain ⟨x0,x1⟩:=co.rg x (List.mem_of_getElem? hx)
    have hc9:=hc7.same s9
    have hpx : atI (pl.map V.int) (m : Int) = some (.int x):=zS (by rw [List.getElem?_map,hx]; rfl)
    have s49:=s47.trans s9
    have v0:=zad (x:=x) p0 left
    have v1:=zae (x:=x) p0 left
    refine ⟨_,rfl,_,rfl,_,rfl,_,rfl,tt,_,_,.int x,rfl,rfl,SqT.of hc9.2,hpx,p,x,la,left,rfl,.inr (SqT.of (s49 _ _ h4l)),p0,by omega,x0,x1,_,rfl,_,rfl,_,rfl,_,rfl,tt,_,_,.int x,rfl,rfl,SqT.of hc9.2,hpx,p,x,rb,right,rfl,.inr (SqT.of (s49 _ _ h4r)),p0,by omega,x0,x1,_,_,rfl,?_⟩
    refine ⟨_,rfl,rfl,_,rfl,?_⟩
    cases o with
    | none =>
     refine zaa (fun h => absurd h (by simp [enc])) (fun _ => ?_)
     exact zc9 ⟨_,_,_,_,rfl,s9⟩
    | some y =>
     refine zaa (fun _ => ?_) (fun h => absurd (by simp [enc]) h)
     obtain ⟨y0,y1⟩:=hrw y (List.mem_of_getElem? ho)
     have hin:=zhf hx ho
     have hv:=hrev _ hin
     dsimp only at hv
     refine ⟨_,rfl,_,rfl,_,_,rfl,rfl,.inl ⟨by omega,by omega⟩,_,rfl,_,_,rfl,rfl,p0,_,rfl,rfl,_,rfl,?_⟩
     rw [hv]
     refine zaa (fun h => absurd h (by simp)) (fun _ => ?_)
     exact ⟨_,_,_,_,rfl,s9⟩
   ·rintro σ H8 ⟨f13,f14,f15,f16,rfl,s8⟩
    have s48:=s47.trans s8
    refine ⟨_,rfl,_,_,rfl,rfl,_,rfl,?_⟩
    by_cases he0 : e = 0
    ·refine zaa (fun h => absurd h (by rw [he0]; simp)) (fun _ => ?_)
     exact zc9 ⟨_,_,_,_,_,_,_,_,_,_,_,_,_,_,_,_,rfl,sA2.trans (s24.trans s48)⟩
    ·refine zaa (fun _ => ?_) (fun h => absurd (by simp; omega) h)
     refine ⟨_,rfl,_,rfl,by show 1 ≤ sizeLine; omega,fun rl2 hrl2 => ?_⟩
     have t9:=zd (o:=.lst [V.ref r]) hrl2
     obtain ⟨e',rfl⟩ : ∃ e',e = e' + 1:=⟨e - 1,by omega⟩
     refine ⟨_,rfl,_,_,rfl,rfl,c,tt,rl2,r,p,k,e',pl,rw,?_,(hc4.same s48).same t9,zb,t9 _ _ (s48 _ _ h4row),hrl,by omega,co.pr,co.rg,hrw,by omega,by omega,by omega,L.mn e' (by omega),fun H9 s9 => ?_⟩
     ·show [V.ref c,V.ref rl2,V.int (((e' + 1 : Nat) : Int) - 1)] = [V.ref c,V.ref rl2,V.int (e' : Int)]
      rw [show ((e' + 1 : Nat) : Int) - 1 = (e' : Int) by omega]
     ·refine ⟨_,rfl,?_⟩
      refine zaa (fun h => absurd h (by simp)) (fun _ => ?_)
      exact ⟨_,_,_,_,_,_,_,_,_,_,_,_,_,_,_,_,rfl,sA2.trans (s24.trans (s48.trans (t9.trans s9)))⟩
  ·rintro σ H1 ⟨e1,e2,e3,e4,e5,e6,e7,e8,e9,e10,e11,e12,e13,e14,e15,e16,rfl,s1⟩
   exact q _
end
end My
end
section
set_option maxHeartbeats 3999000
namespace My
open PySem L2 PyProof.Rows
structure Dn (K : PySem.W.Frag) (x : Str) (st : Stmt) (f : Addr) (fd : FuncData) : Prop where
 a : PySem.W.nsIn K mainGlobals x = some (some (.ref f))
 f : Fun K x x st f fd
theorem zan {K : PySem.W.Frag} {x : Str} {st : Stmt} {f : Addr} {od an : Option Addr} {sl : Array (Option Value)} {oc kV dc pm cd ct : Value} (a : PySem.W.nsIn K mainGlobals x = some (some (.ref f))) (l : K.lookup f = some ⟨oc,od,.func (PySem.W.fnOf x x (za1 st) (zaT st) (zi st) .none kV dc pm an cd ct),sl⟩) (c : PySem.W.codeIn K cd x = true) (k : PySem.W.keepIn K (.ref f) = true) : Dn K x st f (PySem.W.fnOf x x (za1 st) (zaT st) (zi st) .none kV dc pm an cd ct):=⟨a,zgs l c k⟩
theorem zi0 {l : PySem.W.OpenLaw} {w : World} {K : PySem.W.Frag} {h : Heap} {mg : Str → Option Value} {fa fl : Addr} (X : K.In h) (G : h.Ns mainGlobals mg) (hfa : mg "law" = some (.ref fa))
  {od an : Option Addr} {sl : Array (Option Value)} {oc kV dc pm cd ct : Value} (d_value_at : ∃ f fd,Dn K "value_at" zbl f fd) (d_inverse : ∃ f fd,Dn K "inverse" zbM f fd) (d_times_root : ∃ f fd,Dn K "times_root" zaB f fd) (d_bent : ∃ f fd,Dn K "bent" zc1 f fd) (d_through : ∃ f fd,Dn K "through" zbN f fd) (d_heard_points : ∃ f fd,Dn K "heard_points" zal f fd) (d_without : ∃ f fd,Dn K "without" zbc f fd) (d_first_relation : ∃ f fd,Dn K "first_relation" zT f fd) (d_times_entries : ∃ f fd,Dn K "times_entries" zag f fd) (d_beyond : ∃ f fd,Dn K "beyond" zbA f fd) (d_sized : ∃ f fd,Dn K "sized" zcA f fd) (d_joint_locator : ∃ f fd,Dn K "joint_locator" zL f fd) (d_locator_of : ∃ f fd,Dn K "locator_of" zaU f fd) (d_l_cell : ∃ f fd,Dn K "_law_cell" zb6 f fd) (d_l_draws : ∃ f fd,Dn K "_law_draws" zbO f fd) (d_l_whole : ∃ f fd,Dn K "_law_whole" zbP f fd) (d_l_code : ∃ f fd,Dn K "_law_code" zbB f fd) (d_l_value : ∃ f fd,Dn K "_law_value" zbQ f fd) (d_l_polynomial : ∃ f fd,Dn K "_law_polynomial" zam f fd) (d_l_row : ∃ f fd,Dn K "_law_row" zb7 f fd) (d_l_rank : ∃ f fd,Dn K "_law_rank" zaQ f fd) (d_l_powers : ∃ f fd,Dn K "_law_powers" zbm f fd) (d_l_can : ∃ f fd,Dn K "_law_can" za3 f fd)
  (al : PySem.W.nsIn K mainGlobals "law" = some (some (.ref fl))) (ll : K.lookup fl = some ⟨oc,od,.func (PySem.W.fnOf "law" "law" (za1 zbC) (zaT zbC) (zi zbC) .none kV dc pm an cd ct),sl⟩) (cl : PySem.W.codeIn K cd "law" = true) (kl : PySem.W.keepIn K (.ref fl) = true) (z_len : PySem.W.nsIn K mainGlobals "len" = some none) (z_range : PySem.W.nsIn K mainGlobals "range" = some none) (z_list : PySem.W.nsIn K mainGlobals "list" = some none) (z_tuple : PySem.W.nsIn K mainGlobals "tuple" = some none) (z_min : PySem.W.nsIn K mainGlobals "min" = some none) (z_max : PySem.W.nsIn K mainGlobals "max" = some none) (z_int : PySem.W.nsIn K mainGlobals "int" = some none) (z_bool : PySem.W.nsIn K mainGlobals "bool" = some none) (z_isinstance : PySem.W.nsIn K mainGlobals "isinstance" = some none) (z_zip : PySem.W.nsIn K mainGlobals "zip" = some none) (z_enumerate : PySem.W.nsIn K mainGlobals "enumerate" = some none) (z_reversed : PySem.W.nsIn K mainGlobals "reversed" = some none) :
  ∃ fd : FuncData,(∀ (s : Shared) (v : Value),BindsTo s fd ⟨[v],[]⟩ [("script",v)]) ∧ ∀ base : Heap,K.In base → base.Ns mainGlobals mg → FnOk l.prog w K mg base CX0 7 fa fd ["script"] (zdS K):=by
 cases hfa.symm.trans (PySem.W.mg_of X G al)
 obtain ⟨f_value_at,fd_value_at,D_value_at⟩:=d_value_at
 have b_value_at:=D_value_at.f.binds (ps:=["p","polynomial","x"]) fun _ _ _ _ _ _ us hl => match us,hl with | [_,_,_],_ => rfl
 obtain ⟨f_inverse,fd_inverse,D_inverse⟩:=d_inverse
 have b_inverse:=D_inverse.f.binds (ps:=["p","number"]) fun _ _ _ _ _ _ us hl => match us,hl with | [_,_],_ => rfl
 obtain ⟨f_times_root,fd_times_root,D_times_root⟩:=d_times_root
 have b_times_root:=D_times_root.f.binds (ps:=["p","polynomial","root"]) fun _ _ _ _ _ _ us hl => match us,hl with | [_,_,_],_ => rfl
 obtain ⟨f_bent,fd_bent,D_bent⟩:=d_bent
 have b_bent:=D_bent.f.binds (ps:=["p","polynomial","vanishing","point"]) fun _ _ _ _ _ _ us hl => match us,hl with | [_,_,_,_],_ => rfl
 obtain ⟨f_through,fd_through,D_through⟩:=d_through
 have b_through:=D_through.f.binds (ps:=["p","points"]) fun _ _ _ _ _ _ us hl => match us,hl with | [_,_],_ => rfl
 obtain ⟨f_heard_points,fd_heard_points,D_heard_points⟩:=d_heard_points
 have b_heard_points:=D_heard_points.f.binds (ps:=["code","row"]) fun _ _ _ _ _ _ us hl => match us,hl with | [_,_],_ => rfl
 obtain ⟨f_without,fd_without,D_without⟩:=d_without
 have b_without:=D_without.f.binds (ps:=["p","vector","times","other"]) fun _ _ _ _ _ _ us hl => match us,hl with | [_,_,_,_],_ => rfl
 obtain ⟨f_first_relation,fd_first_relation,D_first_relation⟩:=d_first_relation
 have b_first_relation:=D_first_relation.f.binds (ps:=["p","vectors"]) fun _ _ _ _ _ _ us hl => match us,hl with | [_,_],_ => rfl
 obtain ⟨f_times_entries,fd_times_entries,D_times_entries⟩:=d_times_entries
 have b_times_entries:=D_times_entries.f.binds (ps:=["p","left","points"]) fun _ _ _ _ _ _ us hl => match us,hl with | [_,_,_],_ => rfl
 obtain ⟨f_beyond,fd_beyond,D_beyond⟩:=d_beyond
 have b_beyond:=D_beyond.f.binds (ps:=["rights","many"]) fun _ _ _ _ _ _ us hl => match us,hl with | [_,_],_ => rfl
 obtain ⟨f_sized,fd_sized,D_sized⟩:=d_sized
 have b_sized:=D_sized.f.binds (ps:=["polynomial","many"]) fun _ _ _ _ _ _ us hl => match us,hl with | [_,_],_ => rfl
 obtain ⟨f_joint_locator,fd_joint_locator,D_joint_locator⟩:=d_joint_locator
 have b_joint_locator:=D_joint_locator.f.binds (ps:=["code","rows"]) fun _ _ _ _ _ _ us hl => match us,hl with | [_,_],_ => rfl
 obtain ⟨f_locator_of,fd_locator_of,D_locator_of⟩:=d_locator_of
 have b_locator_of:=D_locator_of.f.binds (ps:=["code","row"]) fun _ _ _ _ _ _ us hl => match us,hl with | [_,_],_ => rfl
 obtain ⟨f_l_cell,fd_l_cell,D_l_cell⟩:=d_l_cell
 have b_l_cell:=D_l_cell.f.binds (ps:=["script","k"]) fun _ _ _ _ _ _ us hl => match us,hl with | [_,_],_ => rfl
 obtain ⟨f_l_draws,fd_l_draws,D_l_draws⟩:=d_l_draws
 have b_l_draws:=D_l_draws.f.binds (ps:=["script","k","many","base"]) fun _ _ _ _ _ _ us hl => match us,hl with | [_,_,_,_],_ => rfl
 obtain ⟨f_l_whole,fd_l_whole,D_l_whole⟩:=d_l_whole
 have b_l_whole:=D_l_whole.f.binds (ps:=["found"]) fun _ _ _ _ _ _ us hl => match us,hl with | [_],_ => rfl
 obtain ⟨f_l_code,fd_l_code,D_l_code⟩:=d_l_code
 have b_l_code:=D_l_code.f.binds (ps:=["script","at","most_k","most_n"]) fun _ _ _ _ _ _ us hl => match us,hl with | [_,_,_,_],_ => rfl
 obtain ⟨f_l_value,fd_l_value,D_l_value⟩:=d_l_value
 have b_l_value:=D_l_value.f.binds (ps:=["p","polynomial","x"]) fun _ _ _ _ _ _ us hl => match us,hl with | [_,_,_],_ => rfl
 obtain ⟨f_l_polynomial,fd_l_polynomial,D_l_polynomial⟩:=d_l_polynomial
 have b_l_polynomial:=D_l_polynomial.f.binds (ps:=["draws","p","k"]) fun _ _ _ _ _ _ us hl => match us,hl with | [_,_,_],_ => rfl
 obtain ⟨f_l_row,fd_l_row,D_l_row⟩:=d_l_row
 have b_l_row:=D_l_row.f.binds (ps:=["script","at","code"]) fun _ _ _ _ _ _ us hl => match us,hl with | [_,_,_],_ => rfl
 obtain ⟨f_l_rank,fd_l_rank,D_l_rank⟩:=d_l_rank
 have b_l_rank:=D_l_rank.f.binds (ps:=["p","rows"]) fun _ _ _ _ _ _ us hl => match us,hl with | [_,_],_ => rfl
 obtain ⟨f_l_powers,fd_l_powers,D_l_powers⟩:=d_l_powers
 have b_l_powers:=D_l_powers.f.binds (ps:=["p","x","many"]) fun _ _ _ _ _ _ us hl => match us,hl with | [_,_,_],_ => rfl
 obtain ⟨f_l_can,fd_l_can,D_l_can⟩:=d_l_can
 have b_l_can:=D_l_can.f.binds (ps:=["code","rows","e"]) fun _ _ _ _ _ _ us hl => match us,hl with | [_,_,_],_ => rfl
 have T : Txt K mg ⟨f_value_at,f_inverse,f_times_root,f_bent,f_through,f_heard_points,f_without,f_first_relation,f_times_entries,f_beyond,f_sized,f_joint_locator,f_locator_of,f_l_cell,f_l_draws,f_l_whole,f_l_code,f_l_value,f_l_polynomial,f_l_row,f_l_rank,f_l_powers,f_l_can,fa⟩:=⟨PySem.W.mg_none_of X G z_len,PySem.W.mg_none_of X G z_range,PySem.W.mg_none_of X G z_list,PySem.W.mg_none_of X G z_tuple,PySem.W.mg_none_of X G z_min,PySem.W.mg_none_of X G z_max,PySem.W.mg_none_of X G z_int,PySem.W.mg_none_of X G z_bool,PySem.W.mg_none_of X G z_isinstance,PySem.W.mg_none_of X G z_zip,PySem.W.mg_none_of X G z_enumerate,PySem.W.mg_none_of X G z_reversed,PySem.W.mg_of X G D_value_at.a,PySem.W.mg_of X G D_inverse.a,PySem.W.mg_of X G D_times_root.a,PySem.W.mg_of X G D_bent.a,PySem.W.mg_of X G D_through.a,PySem.W.mg_of X G D_heard_points.a,PySem.W.mg_of X G D_without.a,PySem.W.mg_of X G D_first_relation.a,PySem.W.mg_of X G D_times_entries.a,PySem.W.mg_of X G D_beyond.a,PySem.W.mg_of X G D_sized.a,PySem.W.mg_of X G D_joint_locator.a,PySem.W.mg_of X G D_locator_of.a,PySem.W.mg_of X G D_l_cell.a,PySem.W.mg_of X G D_l_draws.a,PySem.W.mg_of X G D_l_whole.a,PySem.W.mg_of X G D_l_code.a,PySem.W.mg_of X G D_l_value.a,PySem.W.mg_of X G D_l_polynomial.a,PySem.W.mg_of X G D_l_row.a,PySem.W.mg_of X G D_l_rank.a,PySem.W.mg_of X G D_l_powers.a,PySem.W.mg_of X G D_l_can.a,⟨_,D_value_at.f,b_value_at⟩,⟨_,D_inverse.f,b_inverse⟩,⟨_,D_times_root.f,b_times_root⟩,⟨_,D_bent.f,b_bent⟩,⟨_,D_through.f,b_through⟩,⟨_,D_heard_points.f,b_heard_points⟩,⟨_,D_without.f,b_without⟩,⟨_,D_first_relation.f,b_first_relation⟩,⟨_,D_times_entries.f,b_times_entries⟩,⟨_,D_beyond.f,b_beyond⟩,⟨_,D_sized.f,b_sized⟩,⟨_,D_joint_locator.f,b_joint_locator⟩,⟨_,D_locator_of.f,b_locator_of⟩,⟨_,D_l_cell.f,b_l_cell⟩,⟨_,D_l_draws.f,b_l_draws⟩,⟨_,D_l_whole.f,b_l_whole⟩,⟨_,D_l_code.f,b_l_code⟩,⟨_,D_l_value.f,b_l_value⟩,⟨_,D_l_polynomial.f,b_l_polynomial⟩,⟨_,D_l_row.f,b_l_row⟩,⟨_,D_l_rank.f,b_l_rank⟩,⟨_,D_l_powers.f,b_l_powers⟩,⟨_,D_l_can.f,b_l_can⟩⟩
 have FL:=zgs (st:=zbC) ll cl kl
 exact ⟨PySem.W.fnOf "law" "law" (za1 zbC) (zaT zbC) (zi zbC) .none kV dc pm an cd ct,fun s v => .of_eq rfl,fun base _ _ => ziZ T FL⟩
theorem walk {l : PySem.W.OpenLaw} {q : Program} {loose : List Str} {XP : (Str → Option Value) → Heap → Prop} {YP : World → Heap → Prop} {d : DefRec} {K : Params → PySem.W.Frag} (hn : l.most = some 63) (hdf : d.params.defaults = []) (hY : ∀ (w : World) (h : Heap),YP w h → (K w.params).In h)
  (F : ∀ (w : World) (mg : Str → Option Value) (fa : Addr) (h : Heap),(K w.params).In h → h.Ns mainGlobals mg → mg d.name = some (.ref fa) → ∃ fd : FuncData,(∀ (s : Shared) (u : Value),BindsTo s fd ⟨[u],[]⟩ [("script",u)]) ∧ ∀ base : Heap,(K w.params).In base → base.Ns mainGlobals mg → FnOk l.prog w (K w.params) mg base CX0 7 fa fd ["script"] (zdS (K w.params))) : PySem.W.WalkO q loose XP YP l.row.toRowW d [] (fun f vs => PySem.call f vs) :=
 L2.zht (n:=63) (k:=7) (x:="script") (CX:=fun _ => CX0) (sp:=fun w => zdS (K w.params)) hn (by decide) hdf ⟨rfl,by decide,by decide⟩ hY F (fun _ _ a ns hl _ hS => ⟨a,ns,rfl,hS,hl,fun _ => rfl⟩) fun _ _ _ _ _ z => z
end My
namespace PySem.W.Fast
def tw6923825680606012495 : Unit:=()
def tw7212859665489924439 : Unit:=()
def tw11368020497425675530 : Unit:=()
def tw15617754331621363362 : Unit:=()
def tw4301749448564891662 : Unit:=()
def tw4990290183129295545 : Unit:=()
def tw7205421587329187728 : Unit:=()
def tw4829903477989963982 : Unit:=()
def tw1396161052861358747 : Unit:=()
def tw1674755059870356765 : Unit:=()
def tw12181903726413289574 : Unit:=()
def tw8600103531037214733 : Unit:=()
def tw9687897436149625921 : Unit:=()
def tw6418602716905738423 : Unit:=()
def tw10025205719199966626 : Unit:=()
def tw8166605313919921206 : Unit:=()
def tw3428400360047459272 : Unit:=()
def tw14733645431819098378 : Unit:=()
def tw12864766394810149236 : Unit:=()
def tw7044372548223668450 : Unit:=()
def tw11944517034304050492 : Unit:=()
def tw1987345765003206464 : Unit:=()
def tw4948802163027471149 : Unit:=()
def tw8420709239118403842 : Unit:=()
def tw11694100545653141106 : Unit:=()
def tw270844115260150296 : Unit:=()
def tw11968895478952459019 : Unit:=()
def tw7092350053499314899 : Unit:=()
def tw3963835610096403494 : Unit:=()
def tw2043031641544445073 : Unit:=()
end PySem.W.Fast
open PySem PySem.W
open PyProof.Rows
set_option maxHeartbeats 0 in
theorem PySem.Challenge.cw_slipcurve_k07_locators_holds : PySem.Challenge.rw_slipcurve_k07_locators.Holds := by
 w_on; o_law; k_head; (case hw => w_witness2)
 k_fill
 refine My.walk (l:=PySem.Challenge.rw_slipcurve_k07_locators) rfl rfl (fun w h Y => PySem.W.kIn_of Y) ?F
 case F =>
  intro w mg fa h KX G hmg
  refine' My.zi0 KX G hmg ⟨_,_,My.zan ?a_value_at ?l_value_at ?c_value_at ?k_value_at⟩ ⟨_,_,My.zan ?a_inverse ?l_inverse ?c_inverse ?k_inverse⟩ ⟨_,_,My.zan ?a_times_root ?l_times_root ?c_times_root ?k_times_root⟩ ⟨_,_,My.zan ?a_bent ?l_bent ?c_bent ?k_bent⟩ ⟨_,_,My.zan ?a_through ?l_through ?c_through ?k_through⟩ ⟨_,_,My.zan ?a_heard_points ?l_heard_points ?c_heard_points ?k_heard_points⟩ ⟨_,_,My.zan ?a_without ?l_without ?c_without ?k_without⟩ ⟨_,_,My.zan ?a_first_relation ?l_first_relation ?c_first_relation ?k_first_relation⟩ ⟨_,_,My.zan ?a_times_entries ?l_times_entries ?c_times_entries ?k_times_entries⟩ ⟨_,_,My.zan ?a_beyond ?l_beyond ?c_beyond ?k_beyond⟩ ⟨_,_,My.zan ?a_sized ?l_sized ?c_sized ?k_sized⟩ ⟨_,_,My.zan ?a_joint_locator ?l_joint_locator ?c_joint_locator ?k_joint_locator⟩ ⟨_,_,My.zan ?a_locator_of ?l_locator_of ?c_locator_of ?k_locator_of⟩ ⟨_,_,My.zan ?a_l_cell ?l_l_cell ?c_l_cell ?k_l_cell⟩ ⟨_,_,My.zan ?a_l_draws ?l_l_draws ?c_l_draws ?k_l_draws⟩ ⟨_,_,My.zan ?a_l_whole ?l_l_whole ?c_l_whole ?k_l_whole⟩ ⟨_,_,My.zan ?a_l_code ?l_l_code ?c_l_code ?k_l_code⟩ ⟨_,_,My.zan ?a_l_value ?l_l_value ?c_l_value ?k_l_value⟩ ⟨_,_,My.zan ?a_l_polynomial ?l_l_polynomial ?c_l_polynomial ?k_l_polynomial⟩ ⟨_,_,My.zan ?a_l_row ?l_l_row ?c_l_row ?k_l_row⟩ ⟨_,_,My.zan ?a_l_rank ?l_l_rank ?c_l_rank ?k_l_rank⟩ ⟨_,_,My.zan ?a_l_powers ?l_l_powers ?c_l_powers ?k_l_powers⟩ ⟨_,_,My.zan ?a_l_can ?l_l_can ?c_l_can ?k_l_can⟩ ?al ?ll ?cl ?kl ?z_len ?z_range ?z_list ?z_tuple ?z_min ?z_max ?z_int ?z_bool ?z_isinstance ?z_zip ?z_enumerate ?z_reversed
  (case a_value_at => k_is); (case l_value_at => k_is); (case c_value_at => k_is); (case k_value_at => k_is)
  (case a_inverse => k_is); (case l_inverse => k_is); (case c_inverse => k_is); (case k_inverse => k_is)
  (case a_times_root => k_is); (case l_times_root => k_is); (case c_times_root => k_is); (case k_times_root => k_is)
  (case a_bent => k_is); (case l_bent => k_is); (case c_bent => k_is); (case k_bent => k_is)
  (case a_through => k_is); (case l_through => k_is); (case c_through => k_is); (case k_through => k_is)
  (case a_heard_points => k_is); (case l_heard_points => k_is); (case c_heard_points => k_is); (case k_heard_points => k_is)
  (case a_without => k_is); (case l_without => k_is); (case c_without => k_is); (case k_without => k_is)
  (case a_first_relation => k_is); (case l_first_relation => k_is); (case c_first_relation => k_is); (case k_first_relation => k_is)
  (case a_times_entries => k_is); (case l_times_entries => k_is); (case c_times_entries => k_is); (case k_times_entries => k_is)
  (case a_beyond => k_is); (case l_beyond => k_is); (case c_beyond => k_is); (case k_beyond => k_is)
  (case a_sized => k_is); (case l_sized => k_is); (case c_sized => k_is); (case k_sized => k_is)
  (case a_joint_locator => k_is); (case l_joint_locator => k_is); (case c_joint_locator => k_is); (case k_joint_locator => k_is)
  (case a_locator_of => k_is); (case l_locator_of => k_is); (case c_locator_of => k_is); (case k_locator_of => k_is)
  (case a_l_cell => k_is); (case l_l_cell => k_is); (case c_l_cell => k_is); (case k_l_cell => k_is)
  (case a_l_draws => k_is); (case l_l_draws => k_is); (case c_l_draws => k_is); (case k_l_draws => k_is)
  (case a_l_whole => k_is); (case l_l_whole => k_is); (case c_l_whole => k_is); (case k_l_whole => k_is)
  (case a_l_code => k_is); (case l_l_code => k_is); (case c_l_code => k_is); (case k_l_code => k_is)
  (case a_l_value => k_is); (case l_l_value => k_is); (case c_l_value => k_is); (case k_l_value => k_is)
  (case a_l_polynomial => k_is); (case l_l_polynomial => k_is); (case c_l_polynomial => k_is); (case k_l_polynomial => k_is)
  (case a_l_row => k_is); (case l_l_row => k_is); (case c_l_row => k_is); (case k_l_row => k_is)
  (case a_l_rank => k_is); (case l_l_rank => k_is); (case c_l_rank => k_is); (case k_l_rank => k_is)
  (case a_l_powers => k_is); (case l_l_powers => k_is); (case c_l_powers => k_is); (case k_l_powers => k_is)
  (case a_l_can => k_is); (case l_l_can => k_is); (case c_l_can => k_is); (case k_l_can => k_is)
  (case al => k_is); (case ll => k_is); (case cl => k_is); (case kl => k_is)
  (case z_len => k_is); (case z_range => k_is); (case z_list => k_is); (case z_tuple => k_is); (case z_min => k_is); (case z_max => k_is); (case z_int => k_is); (case z_bool => k_is); (case z_isinstance => k_is); (case z_zip => k_is); (case z_enumerate => k_is); (case z_reversed => k_is)
#print axioms PySem.Challenge.cw_slipcurve_k07_locators_holds
end