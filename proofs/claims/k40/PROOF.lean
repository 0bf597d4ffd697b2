import PyProof.Rows.All
import Wide.All
import OpenK.AllK
import Wide.FinOn
import Lean
import PyProof.EqAt
import PyProof.EqKinds
import PyProof.ListMulRoad
import KE.KUnpackStar
import KE.KIntText
import PyProof.CallStr
import KE.KDictSum
import KE.KSortTup
import PyProof.Walk
import PyProof.Rows.SortRuns
import PyProof.Rows.ChunkEnd
import PyProof.Rows.Range3
import PyProof.Rows.SeqGen
import PyProof.ConsumeWalk
import PyProof.ListRange
import PyProof.NeKinds
import PyProof.TupleCall
import PySem.Challenge.RW_slipcurve_k40_whole_locators_show_the_sl
local macro_rules | `(tactic| trivial) => `(tactic| first | exact .inl rfl | exact .inr rfl | assumption)
set_option Elab.async false
set_option linter.all false
set_option maxRecDepth 100000
namespace L2
open PySem PySem.Spec PyProof.Rows
abbrev Key:=Sum Int Str
def zg9 : Key → Value → Bool
 | .inl k,v => Value.isInt k v
 | .inr x,v => Value.isStrOf x v
def ziE (w : World) : Key → Int
 | .inl k => hashInt k
 | .inr x => hashStr w x
theorem zR : ∀ {k : Key} {v : Value},zg9 k v = true → (∃ i t,k = Sum.inl i ∧ v = Value.int i t) ∨ (∃ x t,k = Sum.inr x ∧ v = Value.str x t)
 | .inl i,v,h => by
  obtain ⟨t,e⟩:=Value.isInt_shape (k:=i) (v:=v) h
  exact .inl ⟨i,t,rfl,e⟩
 | .inr x,v,h => by
  obtain ⟨t,e⟩:=Value.isStrOf_shape (x:=x) (v:=v) h
  exact .inr ⟨x,t,rfl,e⟩
theorem zhm (a b : Int) : decide ((Sum.inl a : Key) = Sum.inl b) = (a == b):=by
 by_cases e : a = b
 ·subst e; simp
 ·have h : ¬ (Sum.inl a : Key) = Sum.inl b:=fun q => e (Sum.inl.inj q)
  rw [decide_eq_false h]
  exact (beq_eq_false_iff_ne.mpr e).symm
theorem zhn (a b : Str) : decide ((Sum.inr a : Key) = Sum.inr b) = decide (a = b):=by
 by_cases e : a = b
 ·subst e; simp
 ·have h : ¬ (Sum.inr a : Key) = Sum.inr b:=fun q => e (Sum.inr.inj q)
  rw [decide_eq_false h,decide_eq_false e]
theorem zho (a : Int) (b : Str) : decide ((Sum.inl a : Key) = Sum.inr b) = false:=decide_eq_false (fun q => nomatch q)
theorem zhp (a : Str) (b : Int) : decide ((Sum.inr a : Key) = Sum.inl b) = false:=decide_eq_false (fun q => nomatch q)
def zdf (prog : Program) (w : World) : PySem.KeyKind prog w Key where
 is:=zg9
 hash:=ziE w
 inj:=fun v a b ha hb => by
  rcases zR ha with ⟨i,t,rfl,rfl⟩ | ⟨x,t,rfl,rfl⟩
  ·rcases zR hb with ⟨j,u,rfl,e⟩ | ⟨y,u,rfl,e⟩
   ·injection e with e1 _; rw [e1]
   ·exact nomatch e
  ·rcases zR hb with ⟨j,u,rfl,e⟩ | ⟨y,u,rfl,e⟩
   ·exact nomatch e
   ·injection e with e1 _; rw [e1]
 byValue:=fun k v h => by
  rcases zR h with ⟨i,t,rfl,rfl⟩ | ⟨x,t,rfl,rfl⟩ <;> rfl
 pyHash:=fun hv h => by
  rcases zR hv with ⟨i,t,rfl,rfl⟩ | ⟨x,t,rfl,rfl⟩
  ·exact wpAny_pyHash_int h
  ·exact wpAny_pyHash_str h
 eqBool:=fun hu hv h => by
  rcases zR hu with ⟨i,t,rfl,rfl⟩ | ⟨x,t,rfl,rfl⟩
  ·rcases zR hv with ⟨j,u,rfl,rfl⟩ | ⟨y,u,rfl,rfl⟩
   ·rw [zhm] at h; exact wpAny_eqBool_int h
   ·rw [zho] at h; exact SeqAt.EqAt.int_str i t y u _ _ _ _ h
  ·rcases zR hv with ⟨j,u,rfl,rfl⟩ | ⟨y,u,rfl,rfl⟩
   ·rw [zhp] at h; exact SeqAt.EqAt.str_int x t j u _ _ _ _ h
   ·rw [zhn] at h; exact wpAny_eqBool_str h
 «strs»:=fun k x t v h => by
  rcases zR h with ⟨i,u,rfl,e⟩ | ⟨y,u,rfl,e⟩
  ·exact nomatch e
  ·injection e with e1 _
   subst e1
   cases v <;> rfl
end L2
namespace L2
open PySem PySem.Spec PyProof.Rows
inductive V where
 | non | bl (b : Bool) | int (i : Int) | str (x : Str) | byt (b : Array UInt8) | flt (b : UInt64) | ref (a : Addr) | ty (n : String)
 deriving DecidableEq
def RelV : V → Value → Prop
 | .non,u => u = Value.none
 | .bl b,u => u = Value.bool b
 | .int i,u => ∃ t,u = Value.int i t
 | .str x,u => ∃ t,u = Value.str x t
 | .byt b,u => ∃ t,u = Value.bytes b t
 | .flt b,u => ∃ t,u = Value.float b t
 | .ref a,u => u = Value.ref a
 | .ty n,u => u = Value.type n
abbrev zx : List V → List Value → Prop:=Paired RelV
theorem zx.length {xs : List V} {us : List Value} (r : zx xs us) : xs.length = us.length:=Paired.length r
theorem zx.get : ∀ {xs : List V} {us : List Value} {i : Nat} {x : V},zx xs us → xs[i]? = some x → ∃ u,us[i]? = some u ∧ RelV x u
 | _,_,_,_,.nil,e => by simp at e
 | _,_,0,_,.cons r _,e => by simp at e; subst e; exact ⟨_,rfl,r⟩
 | _,_,i + 1,x,.cons _ t,e => by
  obtain ⟨u,h1,h2⟩:=zx.get (i:=i) (x:=x) t (by simpa using e)
  exact ⟨u,by simpa using h1,h2⟩
theorem zx.set {x : V} {u : Value} (r : RelV x u) : ∀ {xs : List V} {us : List Value} (i : Nat),zx xs us → zx (xs.set i x) (us.set i u)
 | _,_,_,.nil => .nil
 | _,_,0,.cons _ t => .cons r t
 | _,_,i + 1,.cons q t => .cons q (zx.set r i t)
theorem zx.append : ∀ {xs ys : List V} {us ws : List Value},zx xs us → zx ys ws → zx (xs ++ ys) (us ++ ws)
 | _,_,_,_,.nil,s => s
 | _,_,_,_,.cons r t,s => .cons r (zx.append t s)
theorem zx.take : ∀ {xs : List V} {us : List Value} (n : Nat),zx xs us → zx (xs.take n) (us.take n)
 | _,_,0,_ => .nil
 | _,_,_ + 1,.nil => .nil
 | _,_,n + 1,.cons r t => .cons r (zx.take n t)
theorem zx.drop : ∀ {xs : List V} {us : List Value} (n : Nat),zx xs us → zx (xs.drop n) (us.drop n)
 | _,_,0,r => r
 | _,_,_ + 1,.nil => .nil
 | _,_,n + 1,.cons _ t => zx.drop n t
def zh8 : Option V → Option Value → Prop
 | some v,some u => RelV v u
 | none,none => True
 | _,_ => False
def KV {κ : Type} : List (κ × V) → List (κ × Value) → Prop:=Paired fun (p : κ × V) (q : κ × Value) => p.1 = q.1 ∧ RelV p.2 q.2
def kV : Key → V
 | .inl i => .int i
 | .inr x => .str x
inductive HO where
 | lst (xs : List V)
 | tup (xs : List V)
 | dK (kvs : List (Key × V)) | dT (kvs : List (List Key × V))
 | set (S : Int → Bool) (n : Nat)
 | ins (C dx : Addr) (fs : List (Str × V))
 | own (x : Addr)
 | xd (fs : List (Str × V))
 | met (f x : Addr)
 | rng (lo hi : Int)
 | frz (o : Obj) (u : HO)
 | tbl (ps : Array Value)
 | ext (φ : Heap → Prop)
abbrev Hp:=Addr → Option HO
def upd (H : Hp) (a : Addr) (o : HO) : Hp:=fun b => if b = a then some o else H b
theorem zb {H : Hp} {a : Addr} {o : HO} : upd H a o a = some o:=by unfold upd; rw [if_pos rfl]
theorem zn {H : Hp} {a b : Addr} {o : HO} (h : b ≠ a) : upd H a o b = H b:=by unfold upd; rw [if_neg h]
theorem zgA {H : Hp} {a : Addr} {o u : HO} : upd (upd H a o) a u = upd H a u:=by
 funext b; unfold upd; split <;> rfl
theorem zu {H : Hp} {a b : Addr} {o : HO} (h : H a = some o) (h' : H b = none) : a ≠ b:=by
 intro e; subst e; rw [h] at h'; cases h'
section
variable (P : Program) (w : World)
def zaD (H : Hp) (h : Heap) (a : Addr) : HO → Prop
 | .lst xs => xs.length ≤ sizeLine ∧ ∃ (its : List Value) (n : Nat),zx xs its ∧ h.get? a = some { cls:=.type "list",data:=.seq its.toArray n }
 | .tup xs => xs.length ≤ sizeLine ∧ ∃ its : List Value,zx xs its ∧ IsTup h a its.toArray
 | .dK kvs => kvs.length ≤ sizeLine ∧ (a == sysModules) = false ∧ ∃ vs,KV kvs vs ∧ h.DictOf (zdf P w) a vs
 | .dT kvs => kvs.length ≤ sizeLine ∧ (a == sysModules) = false ∧ ∃ xs : List (List Key × Addr × Value),
   Paired (fun (p : List Key × V) (q : List Key × Addr × Value) => p.1 = q.1 ∧ H q.2.1 = some (.tup (p.1.map kV)) ∧ RelV p.2 q.2.2) kvs xs ∧
   ∃ o es ep,h.get? a = some o ∧ o.ExactDict ∧ o.data = .dict es ep ∧ es.toList = xs.map (entryOfKey (tupleKind (zdf P w))) ∧ (xs.map (·.1)).Nodup
 | .set S n => h.SetOf (intKind P w) a S n
 | .ins C dx fs => H dx = some (.own a) ∧ fs.length ≤ 1000 ∧ dx ≠ a ∧ h.get? a = some (PySem.W.instObj C dx) ∧
   ∃ mA,h.Ns1 dx mA ∧ (∀ f,zh8 (fs.lookup f) (mA f)) ∧ PySem.Within mA (fs.map (·.1))
 | .own _ => ∃ o,h.get? a = some o
 | .xd fs => ∃ mA,h.Ns1 a mA ∧ ∀ f,zh8 (fs.lookup f) (mA f)
 | .rng lo hi => ∃ t u v,h.get? a = some { cls:=.type "range",data:=.fields #[.int lo t,.int hi u,.int 1 v] }
 | .frz o u => h.get? a = some o ∧ zaD H h a u
 | .tbl ps => h.get? a = some { cls:=.none,data:=.fields ps }
 | .met f x => h.get? a = some (PySem.W.methodObj (.ref f) (.ref x))
 | .ext φ => φ h ∧ (∃ o,h.get? a = some o) ∧ ∀ h1 h2 : Heap,φ h1 → (∀ o,h1.get? a = some o → h2.get? a = some o) → φ h2
def HOk (H : Hp) (h : Heap) : Prop:=∀ a o,H a = some o → zaD P w H h a o
end
section
variable {P : Program} {w : World} {H H' : Hp} {h h' : Heap} {a : Addr} {o : HO}
theorem zaD.lt (x : zaD P w H h a o) : a < h.objs.size:=by
 cases o with
 | lst xs => obtain ⟨_,_,_,_,e⟩:=x; exact Heap.lt_size e
 | tup xs => obtain ⟨_,_,_,p⟩:=x; exact p.lt
 | dK kvs => obtain ⟨_,_,_,_,o,_,_,e,_⟩:=x; exact Heap.lt_size e
 | dT kvs => obtain ⟨_,_,_,_,o,_,_,e,_⟩:=x; exact Heap.lt_size e
 | set S n => obtain ⟨o,_,_,_,e,_⟩:=x; exact Heap.lt_size e
 | ins C dx fs => obtain ⟨_,_,_,e,_⟩:=x; exact Heap.lt_size e
 | own y => obtain ⟨_,e⟩:=x; exact Heap.lt_size e
 | xd fs => obtain ⟨_,⟨_,_,_,e,_⟩,_⟩:=x; exact Heap.lt_size e
 | rng lo hi => obtain ⟨_,_,_,e⟩:=x; exact Heap.lt_size e
 | frz ob u => obtain ⟨e,_⟩:=x; exact Heap.lt_size e
 | tbl ps => exact Heap.lt_size (show h.get? a = some _ from x)
 | met f y => exact Heap.lt_size (show h.get? a = some _ from x)
 | ext φ => obtain ⟨_,⟨_,e⟩,_⟩:=x; exact Heap.lt_size e
theorem Paired.mapP {α β : Type} {F G : α → β → Prop} : ∀ {l₁ : List α} {l₂ : List β},Paired F l₁ l₂ → (∀ a b,F a b → G a b) → Paired G l₁ l₂
 | _,_,.nil,_ => .nil
 | _,_,.cons r t,f => .cons (f _ _ r) (Paired.mapP t f)
theorem zaD.stay (x : zaD P w H h a o) (k : ∀ b u,(b = a ∨ H b = some (.own a)) → h.get? b = some u → h'.get? b = some u)
  (ho : ∀ b,H b = some (.own a) → H' b = some (.own a)) (ht : ∀ b xs,H b = some (.tup xs) → H' b = some (.tup xs)) : zaD P w H' h' a o:=by
 induction o with
 | lst xs => obtain ⟨z,its,n,r,e⟩:=x; exact ⟨z,its,n,r,k _ _ (.inl rfl) e⟩
 | tup xs => obtain ⟨z,its,r,ob,e,c⟩:=x; exact ⟨z,its,r,ob,k _ _ (.inl rfl) e,c⟩
 | dK kvs => obtain ⟨z,y,vs,r,ob,es,ep,e,c⟩:=x; exact ⟨z,y,vs,r,ob,es,ep,k _ _ (.inl rfl) e,c⟩
 | dT kvs =>
  obtain ⟨z,y,xs,r,ob,es,ep,e,c⟩:=x
  exact ⟨z,y,xs,Paired.mapP r fun p q z => ⟨z.1,ht _ _ z.2.1,z.2.2⟩,ob,es,ep,k _ _ (.inl rfl) e,c⟩
 | set S n => obtain ⟨ob,es,ep,t,e,c⟩:=x; exact ⟨ob,es,ep,t,k _ _ (.inl rfl) e,c⟩
 | ins C dx fs =>
  obtain ⟨d,z,ne,e,mA,⟨od,es,ep,e2,c⟩,r⟩:=x
  exact ⟨ho _ d,z,ne,k _ _ (.inl rfl) e,mA,⟨od,es,ep,k _ _ (.inr d) e2,c⟩,r⟩
 | own y => obtain ⟨ob,e⟩:=x; exact ⟨ob,k _ _ (.inl rfl) e⟩
 | xd fs => obtain ⟨mA,⟨od,es,ep,e,c⟩,r⟩:=x; exact ⟨mA,⟨od,es,ep,k _ _ (.inl rfl) e,c⟩,r⟩
 | rng lo hi => obtain ⟨t,u,v,e⟩:=x; exact ⟨t,u,v,k _ _ (.inl rfl) e⟩
 | frz ob u ih => obtain ⟨e,q⟩:=x; exact ⟨k _ _ (.inl rfl) e,ih q⟩
 | tbl ps =>
  have e : h.get? a = some { cls:=.none,data:=.fields ps }:=x
  show h'.get? a = some { cls:=.none,data:=.fields ps }
  exact k a _ (.inl rfl) e
 | met f y =>
  have e : h.get? a = some (PySem.W.methodObj (.ref f) (.ref y)):=x
  show h'.get? a = some (PySem.W.methodObj (.ref f) (.ref y))
  exact k a _ (.inl rfl) e
 | ext φ => obtain ⟨p,⟨o,e⟩,st⟩:=x; exact ⟨st _ _ p fun o q => k _ _ (.inl rfl) q,⟨o,k _ _ (.inl rfl) e⟩,st⟩
theorem HOk.lt (x : HOk P w H h) (e : H a = some o) : a < h.objs.size:=(x a o e).lt
theorem HOk.fresh (x : HOk P w H h) (e : h.objs.size ≤ a) : H a = none:=by
 cases q : H a with
 | none => rfl
 | some u => exact absurd (Nat.lt_of_lt_of_le (x.lt q) e) (Nat.lt_irrefl _)
theorem HOk.kept (x : HOk P w H h) (k : ∀ b u,h.get? b = some u → h'.get? b = some u) : HOk P w H h':=fun a o e =>
 (x a o e).stay (fun b u _ q => k b u q) (fun _ q => q) fun _ _ q => q
theorem HOk.laid (x : HOk P w H h) (k : ∀ b u,h.get? b = some u → h'.get? b = some u) (hp : h.objs.size ≤ a) (new : zaD P w (upd H a o) h' a o) : HOk P w (upd H a o) h':=fun b u e => by
 have hn:=x.fresh hp
 by_cases hb : b = a
 ·subst hb; rw [zb] at e; cases e; exact new
 ·rw [zn hb] at e
  exact (x b u e).stay (fun c v _ q => k c v q) (fun c q => by rw [zn (zu q hn)]; exact q) fun c xs q => by rw [zn (zu q hn)]; exact q
end
def Rd (H : Hp) (a : Addr) (u : HO) : Prop:=H a = some u ∨ ∃ o,H a = some (.frz o u)
theorem Rd.ok {P : Program} {w : World} {H : Hp} {h : Heap} {a : Addr} {u : HO} (r : Rd H a u) (x : HOk P w H h) : zaD P w H h a u:=by
 rcases r with r | ⟨o,r⟩
 ·exact x a u r
 ·obtain ⟨_,q⟩:=x a _ r
  exact q
def Mut : Option HO → Prop
 | some (.lst _) => True
 | some (.dK _) => True
 | some (.dT _) => True
 | some (.set _ _) => True
 | some (.ins _ _ _) => True
 | some (.ext _) => True
 | _ => False
section
variable {P : Program} {w : World} {H : Hp} {h h' : Heap} {x e : Addr} {o' : HO}
theorem HOk.write (ok : HOk P w H h) (mu : Mut (H x)) (he : e = x ∨ H e = some (.own x)) (k : ∀ b u,b ≠ e → h.get? b = some u → h'.get? b = some u) (heo : ∃ u,h'.get? e = some u)
  (new : zaD P w (upd H x o') h' x o') : HOk P w (upd H x o') h':=fun b u q => by
 have nown : ∀ c y,H c = some (.own y) → c ≠ x:=fun c y r z => by subst z; rw [r] at mu; exact mu
 have ntup : ∀ c xs,H c = some (.tup xs) → c ≠ x:=fun c xs r z => by subst z; rw [r] at mu; exact mu
 by_cases hb : b = x
 ·subst hb; rw [zb] at q; cases q; exact new
 ·rw [zn hb] at q
  by_cases hbe : b = e
  ·have q' : H b = some (.own x):=by
    rcases he with z | z
    ·exact absurd (hbe.trans z) hb
    ·rw [hbe]; exact z
   rw [q] at q'; cases q'
   obtain ⟨v,hv⟩:=heo
   exact ⟨v,by rw [hbe]; exact hv⟩
  ·refine (ok b u q).stay (fun c v hc r => k c v ?_ r) (fun c r => by rw [zn (nown c b r)]; exact r) fun c xs r => by rw [zn (ntup c xs r)]; exact r
   rcases hc with rfl | hc
   ·exact hbe
   ·rintro rfl
    rcases he with z | z
    ·exact nown c b hc z
    ·rw [hc] at z; cases z; exact hb rfl
end
structure Un (fs ex : List Addr) (H H' : Hp) (h h' : Heap) : Prop where
 keep : ∀ b o,h.get? b = some o → H b = none → b ∉ fs → b ∉ ex → h'.get? b = some o
 slot : ∀ b o,h.get? b = some o → H b = none → b ∈ fs → b ∉ ex → ∃ sl,h'.get? b = some { o with slots:=sl }
 free : ∀ b o,h.get? b = some o → H b = none → b ∉ ex → H' b = none
 there : ∀ b o,h.get? b = some o → b ∉ ex → ∃ o',h'.get? b = some o'
 tups : ∀ b xs,H b = some (.tup xs) → H' b = some (.tup xs)
 frzs : ∀ b o u,H b = some (.frz o u) → H' b = some (.frz o u)
 tbls : ∀ b ps,H b = some (.tbl ps) → ∃ more,H' b = some (.tbl (ps ++ more))
section
variable {fs fs' ex ex' : List Addr} {H H1 H2 : Hp} {h h1 h2 h' : Heap} {a x e : Addr} {o : HO}
theorem Un.any (u : Un fs ex H H1 h h1) {b : Addr} {ob : Obj} (q : h.get? b = some ob) (n : H b = none) (hx : b ∉ ex) : ∃ sl,h1.get? b = some { ob with slots:=sl }:=by
 by_cases hb : b ∈ fs
 ·exact u.slot b ob q n hb hx
 ·exact ⟨ob.slots,u.keep b ob q n hb hx⟩
theorem Un.kept (k : ∀ b u,h.get? b = some u → h'.get? b = some u) : Un fs ex H H h h' :=
 ⟨fun b ob q _ _ _ => k b ob q,fun b ob q _ _ _ => ⟨ob.slots,k b ob q⟩,fun _ _ _ n _ => n,fun b ob q _ => ⟨ob,k b ob q⟩,fun _ _ q => q,fun _ _ _ q => q,fun _ ps q => ⟨#[],by rw [q]; simp⟩⟩
theorem Un.refl : Un fs ex H H h h:=Un.kept fun _ _ q => q
theorem Un.laid (k : ∀ b u,h.get? b = some u → h'.get? b = some u) (hp : h.objs.size ≤ a) (hn : H a = none) : Un fs ex H (upd H a o) h h' where
 keep:=fun b u q _ _ _ => k b u q
 slot:=fun b u q _ _ _ => ⟨u.slots,k b u q⟩
 free:=fun b u q n _ => by rw [zn (Nat.ne_of_lt (Nat.lt_of_lt_of_le (Heap.lt_size q) hp))]; exact n
 there:=fun b u q _ => ⟨u,k b u q⟩
 tups:=fun b xs q => by rw [zn (zu q hn)]; exact q
 frzs:=fun b u xs q => by rw [zn (zu q hn)]; exact q
 tbls:=fun b ps q => ⟨#[],by rw [zn (zu q hn),q]; simp⟩
theorem Un.write (mu : Mut (H x)) (he : e = x ∨ H e = some (.own x)) (k : ∀ b u,b ≠ e → h.get? b = some u → h'.get? b = some u) (heo : ∃ u,h'.get? e = some u) : Un fs ex H (upd H x o) h h':=by
 have hx : ∀ b,H b = none → b ≠ x:=fun b n z => by subst z; rw [n] at mu; exact mu
 have hb : ∀ b,H b = none → b ≠ e:=fun b n z => by
  subst z
  rcases he with r | r
  ·exact hx b n r
  ·rw [n] at r; cases r
 have hm : ∀ b u,H b = some u → ¬ Mut (some u) → b ≠ x:=fun b u q nm z => by subst z; rw [q] at mu; exact nm mu
 refine ⟨fun b u q n _ _ => k b u (hb b n) q,fun b u q n _ _ => ⟨u.slots,k b u (hb b n) q⟩,fun b u q n _ => by rw [zn (hx b n)]; exact n,fun b u q _ => ?_,
  fun b xs q => by rw [zn (hm b _ q fun z => z)]; exact q,fun b u xs q => by rw [zn (hm b _ q fun z => z)]; exact q,fun b ps q => ⟨#[],by rw [zn (hm b _ q fun z => z),q]; simp⟩⟩
 by_cases hbe : b = e
 ·subst hbe; exact heo
 ·exact ⟨u,k b u hbe q⟩
end
def trk (h : Heap) (H : Hp) : List Addr:=(List.range h.objs.size).filter fun a => (H a).isSome
def zdg (h : Heap) (H : Hp) : Heap:=PySem.W.hideAll h (trk h H)
theorem ze4 (h : Heap) (H : Hp) : (zdg h H).objs.size = h.objs.size:=PySem.W.hideAll_size _ _
theorem zfu {h : Heap} {H : Hp} {b : Addr} {o : Obj} (e : h.get? b = some o) (n : H b = none) : (zdg h H).get? b = some o :=
 PySem.W.hideAll_get _ e fun hm => by
  have q : (H b).isSome = true:=(List.mem_filter.mp hm).2
  rw [n] at q; simp at q
theorem zgB {h : Heap} {H : Hp} {b : Addr} {o : Obj} (e : (zdg h H).get? b = some o) : h.get? b = some o ∧ H b = none:=by
 have e' : h.get? b = some o:=PySem.W.of_hideAll (trk h H) e
 refine ⟨e',?_⟩
 cases q : H b with
 | none => rfl
 | some x =>
  have hm : b ∈ trk h H:=List.mem_filter.mpr ⟨List.mem_range.mpr (Heap.lt_size e'),by simp [q]⟩
  have z : (zdg h H).get? b = none:=PySem.W.hideAll_none (trk h H) hm
  rw [z] at e; cases e
end L2
namespace L2
open PySem PySem.Spec PyProof.Rows
structure Mod (K : PySem.W.Frag) (mg : Str → Option Value) (base : Heap) : Prop where
 kin : K.In base
 glob : base.Ns mainGlobals mg
 blt : ∃ mb,base.Ns builtinsNs mb ∧ ∀ x : Str,x ≠ "__name__" → mb x = bootBuiltins x
 nolimit : base.NoLimit
structure Cx where
 prog : Program
 w : World
 K : PySem.W.Frag
 mg : Str → Option Value
 base : Heap
 A : Around
 N : List Str
 s₀ : Shared
 H₀ : Hp
 env : Env
 outer : List Env
 stack : List Env
 ex : List Addr
 fn : Str → Bool
 calm : Bool
 pn : List (Addr × Obj)
 xe : Value → Shared → Prop
def frs (l : List Env) : List Addr:=l.filterMap (·.frame)
abbrev Cx.fs (X : Cx) : List Addr:=frs X.outer
def Vis (sc : Scope) (x : Str) : Prop:=sc.names.lookup x = some .local ∨ sc.names.lookup x = some .cell ∨ sc.names.lookup x = some .free
def Loc (sc : Scope) (x : Str) : Prop:=sc.names.lookup x = some .local ∨ sc.names.lookup x = some .cell
def Look (env : Env) (h : Heap) (m : Str → Option Value) (x : Str) (u : Value) : Prop :=
 (env.kindOf x = some .local ∧ m x = some u) ∨ ((env.kindOf x = some .cell ∨ env.kindOf x = some .free) ∧ ∃ c,env.cells.lookup x = some c ∧ h.IsCell c (some u))
structure Cx.Ok (X : Cx) : Prop where
 mod : Mod X.K X.mg X.base
 kind : X.env.scope.kind = .function
 glob : X.env.globals = mainGlobals
 blt : X.env.builtins = builtinsNs
 above : X.s₀.heap.objs.size ≤ X.env.locals
 inj : ∀ x y c,X.env.cells.lookup x = some c → X.env.cells.lookup y = some c → x = y
 has : ∀ x,(X.env.kindOf x = some .cell ∨ X.env.kindOf x = some .free) → ∃ c,X.env.cells.lookup x = some c
 cab : ∀ x c,X.fn x = true → X.env.cells.lookup x = some c → X.s₀.heap.objs.size ≤ c
 hd : X.calm = true → X.A.handled = none
 frames : X.A.frames = some X.stack
 stk : X.stack = X.outer ∨ (X.stack = X.env :: X.outer ∧ X.env.frame = some X.env.locals)
 exf : ∀ b ∈ X.ex,b ≠ X.env.locals ∧ ∀ x c,X.env.cells.lookup x = some c → c ≠ b
 bs : ∀ b o,X.base.get? b = some o → X.s₀.heap.get? b = some o ∧ X.H₀ b = none
 bsz : X.base.objs.size ≤ X.s₀.heap.objs.size
 noex : ∀ b o,X.base.get? b = some o → b ∉ X.ex
 exfs : ∀ b ∈ X.ex,b ∉ X.fs
 funs : X.s₀.heap.FunFrames X.base X.outer
 frf : ∀ b ∈ X.fs,X.H₀ b = none
structure Inv (X : Cx) (pins : List (Addr × Obj)) (σ : List (Option V)) (H : Hp) (s : Shared) : Prop where
 ok : X.Ok
 os : s.os = X.s₀.os
 bare : AllBare s.gens
 base : Un X.fs X.ex X.H₀ H X.s₀.heap s.heap
 loc : ∃ m,s.heap.Ns X.env.locals m ∧ ∀ (i : Nat) (x : Str) (v : V),X.N[i]? = some x → σ[i]? = some (some v) → Vis X.env.scope x → ∃ u,RelV v u ∧ Look X.env s.heap m x u
 cell : ∀ x c,X.env.cells.lookup x = some c → ∃ v,s.heap.IsCell c v
 free : H X.env.locals = none
 freeC : ∀ x c,X.env.cells.lookup x = some c → H c = none
 pin : ∀ p ∈ X.pn ++ pins,s.heap.get? p.1 = some p.2 ∧ H p.1 = none ∧ p.1 ≠ X.env.locals ∧ p.1 ∉ X.fs ∧ ∀ v,p.2.data ≠ .cell v
 hok : HOk X.prog X.w H s.heap
 len : σ.length = X.N.length
section
variable {X : Cx} {pins : List (Addr × Obj)} {σ : List (Option V)} {H H' : Hp} {s : Shared} {h' : Heap}
theorem Cx.Ok.nofr (ok : X.Ok) {b : Addr} {o : Obj} (e : X.base.get? b = some o) : b ∉ X.fs:=fun hb => by
 have:=(ok.funs.mem hb).1
 rw [e] at this; cases this
theorem Inv.bs (I : Inv X pins σ H s) : ∀ b o,X.base.get? b = some o → s.heap.get? b = some o ∧ H b = none:=fun b o e =>
 ⟨I.base.keep b o (I.ok.bs b o e).1 (I.ok.bs b o e).2 (I.ok.nofr e) (I.ok.noex b o e),I.base.free b o (I.ok.bs b o e).1 (I.ok.bs b o e).2 (I.ok.noex b o e)⟩
theorem Inv.bk (I : Inv X pins σ H s) : ∀ b o,X.base.get? b = some o → s.heap.get? b = some o:=fun b o e => (I.bs b o e).1
theorem Inv.mod (I : Inv X pins σ H s) : Mod X.K X.mg X.base:=I.ok.mod
theorem Inv.kIn (I : Inv X pins σ H s) : X.K.In s.heap:=I.ok.mod.kin.keeps I.bk
theorem Inv.lt (I : Inv X pins σ H s) : X.env.locals < s.heap.objs.size:=let ⟨_,hn,_⟩:=I.loc; hn.lt
theorem Inv.sz (I : Inv X pins σ H s) : X.s₀.heap.objs.size ≤ s.heap.objs.size:=Nat.le_trans I.ok.above (Nat.le_of_lt I.lt)
theorem Inv.nofs (I : Inv X pins σ H s) {a : Addr} (h : s.heap.objs.size ≤ a) : a ∉ X.fs:=fun hb => by
 obtain ⟨_,o,ho,_⟩:=I.ok.funs.mem hb
 exact absurd (Nat.lt_of_lt_of_le (Heap.lt_size ho) (Nat.le_trans I.sz h)) (Nat.lt_irrefl _)
theorem Inv.cne (I : Inv X pins σ H s) : ∀ x c,X.env.cells.lookup x = some c → c ≠ X.env.locals:=fun x c e z => by
 obtain ⟨v,o,ho,hd⟩:=I.cell x c e
 obtain ⟨m,⟨o',es,ep,ho',hd',_⟩,_⟩:=I.loc
 rw [z,ho'] at ho; cases ho; rw [hd'] at hd; cases hd
theorem Inv.funs (I : Inv X pins σ H s) : s.heap.FunFrames X.base X.outer:=by
 have all : ∀ (l : List Env),(∀ b ∈ frs l,b ∈ X.fs) → X.s₀.heap.FunFrames X.base l → s.heap.FunFrames X.base l:=by
  intro l
  induction l with
  | nil => intro _ _; trivial
  | cons env r ih =>
   intro hs hl
   obtain ⟨hk,⟨L,o,hf,hn,ho,hd⟩,hr⟩:=hl
   have hL : L ∈ X.fs:=hs L (by unfold frs; rw [List.filterMap_cons,hf]; exact List.mem_cons_self)
   obtain ⟨sl,e⟩:=I.base.slot L o ho (I.ok.frf L hL) hL fun z => I.ok.exfs L z hL
   exact ⟨hk,⟨L,_,hf,hn,e,hd⟩,ih (fun b hb => hs b (by unfold frs; rw [List.filterMap_cons,hf]; exact List.mem_cons_of_mem _ hb)) hr⟩
 exact all X.outer (fun _ hb => hb) I.ok.funs
theorem Inv.stack (I : Inv X pins σ H s) : s.heap.FunFrames X.base X.stack:=by
 rcases I.ok.stk with e | ⟨e,hf⟩
 ·rw [e]; exact I.funs
 ·rw [e]
  obtain ⟨m,hn,_⟩:=I.loc
  refine .cons (by rw [I.ok.kind]; decide) hf hn ?_ I.funs
  exact Heap.get?_none_of_le (Nat.le_trans I.ok.bsz I.ok.above)
theorem Inv.stkSub (I : Inv X pins σ H s) : ∀ b ∈ frs X.stack,b ∈ X.env.locals :: X.fs:=fun b hb => by
 rcases I.ok.stk with e | ⟨e,hf⟩
 ·rw [e] at hb; exact List.mem_cons_of_mem _ hb
 ·rw [e] at hb
  unfold frs at hb
  rw [List.filterMap_cons,hf] at hb
  exact hb
theorem Inv.stkFree (I : Inv X pins σ H s) : ∀ b ∈ frs X.stack,H b = none:=fun b hb => by
 rcases List.mem_cons.mp (I.stkSub b hb) with e | hb
 ·rw [e]; exact I.free
 ·obtain ⟨_,o,ho,_⟩:=I.ok.funs.mem hb
  exact I.base.free b o ho (I.ok.frf b hb) fun z => I.ok.exfs b z hb
theorem Inv.step {g' : Array GenState} {t' : Nat} {d' : Drawn} {ch : List Addr} (I : Inv X pins σ H s)
  (hch : ∀ b ∈ ch,(b ∈ X.ex ∨ X.s₀.heap.objs.size ≤ b) ∧ b ≠ X.env.locals ∧ (∀ x c,X.env.cells.lookup x = some c → c ≠ b) ∧ ∀ p ∈ X.pn ++ pins,p.1 ≠ b)
  (keep : ∀ b o,b ≠ X.env.locals → b ∉ X.fs → b ∉ ch → s.heap.get? b = some o → H b = none → h'.get? b = some o)
  (slot : ∀ b o,b ≠ X.env.locals → b ∈ X.fs → b ∉ ch → s.heap.get? b = some o → H b = none → ∃ sl,h'.get? b = some { o with slots:=sl }) (free : ∀ b o,b ∉ ch → s.heap.get? b = some o → H b = none → H' b = none)
  (there : ∀ b o,b ∉ ch → s.heap.get? b = some o → ∃ o',h'.get? b = some o')
  (tups : ∀ b xs,H b = some (.tup xs) → H' b = some (.tup xs)) (frzs : ∀ b o u,H b = some (.frz o u) → H' b = some (.frz o u)) (tbls : ∀ b ps,H b = some (.tbl ps) → ∃ more,H' b = some (.tbl (ps ++ more)))
  (ns : ∀ m,s.heap.Ns X.env.locals m → h'.Ns X.env.locals m) (hok : HOk X.prog X.w H' h') (hg : AllBare g') :
  Inv X pins σ H' { s with heap:=h',gens:=g',drawn:=d',toks:=t' }:=by
 have neL : ∀ b o,X.s₀.heap.get? b = some o → b ≠ X.env.locals:=fun b o e => Nat.ne_of_lt (Nat.lt_of_lt_of_le (Heap.lt_size e) I.ok.above)
 have neC : ∀ b o,X.s₀.heap.get? b = some o → b ∉ X.ex → b ∉ ch:=fun b o e hx hb => by
  rcases (hch b hb).1 with z | z
  ·exact hx z
  ·exact absurd (Nat.lt_of_lt_of_le (Heap.lt_size e) z) (Nat.lt_irrefl _)
 have cellK : ∀ x c,X.env.cells.lookup x = some c → ∀ v,s.heap.IsCell c v → h'.IsCell c v:=fun x c e v ⟨o,ho,hd⟩ => by
  have nch : c ∉ ch:=fun z => (hch c z).2.2.1 x c e rfl
  by_cases hc : c ∈ X.fs
  ·obtain ⟨sl,q⟩:=slot c o (I.cne x c e) hc nch ho (I.freeC x c e)
   exact ⟨_,q,hd⟩
  ·exact ⟨o,keep c o (I.cne x c e) hc nch ho (I.freeC x c e),hd⟩
 refine ⟨I.ok,I.os,hg,⟨fun b o e n hb hx => ?_,fun b o e n hb hx => ?_,fun b o e n hx => ?_,fun b o e hx => ?_,fun b xs e => tups b xs (I.base.tups b xs e),fun b o xs e => frzs b o xs (I.base.frzs b o xs e),fun b ps e => ?_⟩,?_,fun x c e => ?_,?_,fun x c e => ?_,fun p hp => ?_,hok,I.len⟩
 ·exact keep b o (neL b o e) hb (neC b o e hx) (I.base.keep b o e n hb hx) (I.base.free b o e n hx)
 ·obtain ⟨sl,e1⟩:=I.base.slot b o e n hb hx
  obtain ⟨sl',e2⟩:=slot b _ (neL b o e) hb (neC b o e hx) e1 (I.base.free b o e n hx)
  exact ⟨sl',e2⟩
 ·obtain ⟨o',e1⟩:=I.base.there b o e hx
  exact free b o' (neC b o e hx) e1 (I.base.free b o e n hx)
 ·obtain ⟨o',e1⟩:=I.base.there b o e hx
  exact there b o' (neC b o e hx) e1
 ·obtain ⟨m1,e1⟩:=I.base.tbls b ps e
  obtain ⟨m2,e2⟩:=tbls b _ e1
  exact ⟨m1 ++ m2,by rw [e2,Array.append_assoc]⟩
 ·obtain ⟨m,hn,hl⟩:=I.loc
  refine ⟨m,ns m hn,fun i x v e1 e2 e3 => ?_⟩
  obtain ⟨u,r,l⟩:=hl i x v e1 e2 e3
  refine ⟨u,r,?_⟩
  rcases l with l | ⟨k,c,e,z⟩
  ·exact .inl l
  ·exact .inr ⟨k,c,e,cellK x c e _ z⟩
 ·obtain ⟨v,z⟩:=I.cell x c e
  exact ⟨v,cellK x c e v z⟩
 ·obtain ⟨m,⟨o,_,_,ho,_⟩,_⟩:=I.loc
  exact free _ o (fun z => (hch _ z).2.1 rfl) ho I.free
 ·obtain ⟨v,o,ho,hd⟩:=I.cell x c e
  exact free c o (fun z => (hch c z).2.2.1 x c e rfl) ho (I.freeC x c e)
 ·obtain ⟨e,n,ne,nf,d⟩:=I.pin p hp
  have nch : p.1 ∉ ch:=fun z => (hch p.1 z).2.2.2 p hp rfl
  exact ⟨keep p.1 p.2 ne nf nch e n,free p.1 p.2 nch e n,ne,nf,d⟩
theorem Inv.un {t' : Nat} (I : Inv X pins σ H s) (u : Un X.fs [] H H' s.heap h') (hok : HOk X.prog X.w H' h') : Inv X pins σ H' { s with heap:=h',toks:=t' }:=by
 obtain ⟨m,⟨o,es,ep,ho,r⟩,_⟩:=id I.loc
 obtain ⟨sl,hL⟩:=u.any ho I.free (by simp)
 exact I.step (g':=s.gens) (d':=s.drawn) (ch:=[]) (fun _ z => nomatch z) (fun b o _ hb _ e n => u.keep b o e n hb (by simp)) (fun b o _ hb _ e n => u.slot b o e n hb (by simp)) (fun b o _ e n => u.free b o e n (by simp)) (fun b o _ e => u.there b o e (by simp)) u.tups u.frzs u.tbls (fun m' hm => by
  obtain ⟨o',es',ep',ho',r'⟩:=hm
  rw [ho] at ho'; cases ho'
  exact ⟨_,es',ep',hL,r'⟩) hok I.bare
theorem Inv.call {g' : Array GenState} {t' : Nat} {d' : Drawn} {ch : List Addr} (I : Inv X pins σ H s) (u : Un (frs X.stack) ch H H' s.heap h') (hok : HOk X.prog X.w H' h') (hg : AllBare g')
  (hch : ∀ b ∈ ch,(b ∈ X.ex ∨ X.s₀.heap.objs.size ≤ b) ∧ b ≠ X.env.locals ∧ (∀ x c,X.env.cells.lookup x = some c → c ≠ b) ∧ ∀ p ∈ X.pn ++ pins,p.1 ≠ b) :
  Inv X pins σ H' { s with heap:=h',gens:=g',drawn:=d',toks:=t' }:=by
 obtain ⟨m,⟨o,es,ep,ho,r⟩,_⟩:=id I.loc
 obtain ⟨sl,hL⟩:=u.any ho I.free fun z => (hch _ z).2.1 rfl
 exact I.step (ch:=ch) hch (fun b o hL hb hc e n => u.keep b o e n (fun z => (List.mem_cons.mp (I.stkSub b z)).elim hL hb) hc) (fun b o _ _ hc e n => u.any e n hc) (fun b o hc e n => u.free b o e n hc) (fun b o hc e => u.there b o e hc) u.tups u.frzs u.tbls (fun m' hm => by
  obtain ⟨o',es',ep',ho',r'⟩:=hm
  rw [ho] at ho'; cases ho'
  exact ⟨_,es',ep',hL,r'⟩) hok hg
theorem Inv.turned {t' : Nat} {it : Addr} (I : Inv X pins σ H s) (k : ∀ b o,b ≠ it → s.heap.get? b = some o → h'.get? b = some o) (hn : H it = none) (hL : it ≠ X.env.locals)
  (h1 : it ∈ X.ex ∨ X.s₀.heap.objs.size ≤ it) (h2 : ∀ x c,X.env.cells.lookup x = some c → c ≠ it) (h3 : ∀ p ∈ X.pn ++ pins,p.1 ≠ it) : Inv X pins σ H { s with heap:=h',toks:=t' }:=by
 have nit : ∀ b u,H b = some u → b ≠ it:=fun b u e z => by rw [z,hn] at e; cases e
 refine I.step (g':=s.gens) (d':=s.drawn) (ch:=[it]) (fun b hb => ?_) (fun b o _ _ hc e _ => k b o (fun z => hc (by simp [z])) e) (fun b o _ _ hc e _ => ⟨o.slots,k b o (fun z => hc (by simp [z])) e⟩) (fun _ _ _ _ n => n)
  (fun b o hc e => ⟨o,k b o (fun z => hc (by simp [z])) e⟩) (fun _ _ e => e) (fun _ _ _ e => e) (fun b ps e => ⟨#[],by rw [e]; simp⟩) (fun m hm => ?_) (fun b u e => ?_) I.bare
 ·have e : b = it:=by simpa using hb
  subst e
  exact ⟨h1,hL,h2,h3⟩
 ·obtain ⟨o,es,ep,ho,r⟩:=hm
  exact ⟨o,es,ep,k _ o (Ne.symm hL) ho,r⟩
 ·refine (I.hok b u e).stay (fun c v hc q => k c v ?_ q) (fun _ q => q) fun _ _ q => q
  rcases hc with z | z
  ·rw [z]; exact nit b u e
  ·exact nit c _ z
theorem Inv.tok (I : Inv X pins σ H s) (t : Nat) : Inv X pins σ H { s with toks:=t }:=I.un (h':=s.heap) (t':=t) Un.refl I.hok
theorem Inv.kept {t' : Nat} (I : Inv X pins σ H s) (k : ∀ b u,s.heap.get? b = some u → h'.get? b = some u) : Inv X pins σ H { s with heap:=h',toks:=t' }:=I.un (Un.kept k) (I.hok.kept k)
theorem Inv.laid {a : Addr} {o : HO} {t' : Nat} (I : Inv X pins σ H s) (k : ∀ b u,s.heap.get? b = some u → h'.get? b = some u) (hp : s.heap.objs.size ≤ a) (new : zaD X.prog X.w (upd H a o) h' a o) :
  Inv X pins σ (upd H a o) { s with heap:=h',toks:=t' }:=I.un (Un.laid k hp (I.hok.fresh hp)) (I.hok.laid k hp new)
theorem Inv.write {x e : Addr} {o : HO} {t' : Nat} (I : Inv X pins σ H s) (mu : Mut (H x)) (he : e = x ∨ H e = some (.own x)) (k : ∀ b u,b ≠ e → s.heap.get? b = some u → h'.get? b = some u) (heo : ∃ u,h'.get? e = some u)
  (new : zaD X.prog X.w (upd H x o) h' x o) : Inv X pins σ (upd H x o) { s with heap:=h',toks:=t' }:=I.un (Un.write mu he k heo) (I.hok.write mu he k heo new)
theorem Inv.weak {σ' : List (Option V)} (I : Inv X pins σ H s) (hl : σ'.length = σ.length) (w : ∀ (i : Nat) v,σ'[i]? = some (some v) → σ[i]? = some (some v)) : Inv X pins σ' H s :=
 ⟨I.ok,I.os,I.bare,I.base,let ⟨m,hn,hl'⟩:=I.loc; ⟨m,hn,fun i x v e1 e2 e3 => hl' i x v e1 (w i v e2) e3⟩,I.cell,I.free,I.freeC,I.pin,I.hok,hl.trans I.len⟩
theorem Inv.pins_of {pins' : List (Addr × Obj)} (I : Inv X pins σ H s) (h : ∀ p ∈ pins',s.heap.get? p.1 = some p.2 ∧ H p.1 = none ∧ p.1 ≠ X.env.locals ∧ p.1 ∉ X.fs ∧ ∀ v,p.2.data ≠ .cell v) : Inv X pins' σ H s :=
 ⟨I.ok,I.os,I.bare,I.base,I.loc,I.cell,I.free,I.freeC,fun p hp => (List.mem_append.mp hp).elim (fun z => I.pin p (List.mem_append_left _ z)) (h p),I.hok,I.len⟩
theorem zdC {N : List Str} (hN : N.Nodup) {i j : Nat} {x : Str} (a : N[i]? = some x) (b : N[j]? = some x) : i = j:=by
 obtain ⟨h1,e1⟩:=List.getElem?_eq_some_iff.mp a
 obtain ⟨h2,e2⟩:=List.getElem?_eq_some_iff.mp b
 exact (List.getElem_inj hN).mp (e1.trans e2.symm)
theorem zcQ {M : Model} {A : Around} {E : Value → Shared → Prop} {i : Nat} {x : Str} {v : V} {u : Value} {Q : Unit → Shared → Prop} (I : Inv X pins σ H s) (hN : X.N.Nodup) (hi : X.N[i]? = some x) (hx : Loc X.env.scope x) (r : RelV v u)
  (h : ∀ s',Inv X pins (σ.set i (some v)) H s' → (∃ a,Heap.SameBut a s.heap s'.heap ∧ (a = X.env.locals ∨ X.env.cells.lookup x = some a)) → Q () s') (hf : X.fn x = true ∨ X.env.scope.names.lookup x = some .local:=by first | exact .inl rfl | exact .inr rfl | assumption) : wpAny M A (storeName X.env x u) Q E s:=by
 obtain ⟨m,hn,hl⟩:=id I.loc
 have hcls : (X.env.scope.kind == .class || (X.env.scope.kind == .module && X.env.locals != X.env.globals)) = false:=by rw [I.ok.kind]; rfl
 have hiσ : i < σ.length:=by rw [I.len]; exact (List.getElem?_eq_some_iff.mp hi).1
 have cne:=I.cne
 have tracked : ∀ {a : Addr} {h' : Heap},(∃ o,s.heap.get? a = some o ∧ H a = none) → Heap.SameBut a s.heap h' → HOk X.prog X.w H h':=fun {a h'} ha hs b ob e => by
  obtain ⟨_,_,hfree⟩:=ha
  refine (I.hok b ob e).stay (fun c w' hc q => (hs.2 c ?_).trans q) (fun _ q => q) fun _ _ q => q
  rintro rfl
  rcases hc with rfl | hc
  ·rw [hfree] at e; cases e
  ·rw [hfree] at hc; cases hc
 rcases hx with hk | hk
 ·refine wpAny_storeName_local hk hn (fun h' hn' hs => ?_) hcls
  obtain ⟨oL,_,_,hoL,_⟩:=id hn
  refine h _ ⟨I.ok,I.os,I.bare,⟨fun b o e n hb hx => ?_,fun b o e n hb hx => ?_,I.base.free,fun b o e hx => ?_,I.base.tups,I.base.frzs,I.base.tbls⟩,⟨_,hn',fun j y v' e1 e2 e3 => ?_⟩,fun y c e => ?_,I.free,I.freeC,fun p hp => ?_,tracked ⟨oL,hoL,I.free⟩ hs,by simpa using I.len⟩ ⟨_,hs,.inl rfl⟩
  ·exact (hs.2 b (Nat.ne_of_lt (Nat.lt_of_lt_of_le (Heap.lt_size e) I.ok.above))).trans (I.base.keep b o e n hb hx)
  ·obtain ⟨sl,e1⟩:=I.base.slot b o e n hb hx
   exact ⟨sl,(hs.2 b (Nat.ne_of_lt (Nat.lt_of_lt_of_le (Heap.lt_size e) I.ok.above))).trans e1⟩
  ·obtain ⟨o',e1⟩:=I.base.there b o e hx
   exact ⟨o',(hs.2 b (Nat.ne_of_lt (Nat.lt_of_lt_of_le (Heap.lt_size e) I.ok.above))).trans e1⟩
  ·by_cases hj : j = i
   ·subst hj
    rw [hi] at e1; cases e1
    rw [List.getElem?_set_self hiσ] at e2
    cases e2
    exact ⟨u,r,.inl ⟨hk,by simp⟩⟩
   ·rw [List.getElem?_set_ne (Ne.symm hj)] at e2
    obtain ⟨u',r',q⟩:=hl j y v' e1 e2 e3
    refine ⟨u',r',?_⟩
    rcases q with ⟨k,e⟩ | ⟨k,c,e,z⟩
    ·refine .inl ⟨k,?_⟩
     have : y ≠ x:=fun e => hj (zdC hN e1 (e ▸ hi))
     simp [this,e]
    ·exact .inr ⟨k,c,e,z.sameBut hs (cne y c e)⟩
  ·obtain ⟨w',z⟩:=I.cell y c e
   exact ⟨w',z.sameBut hs (cne y c e)⟩
  ·obtain ⟨e,n,ne,nf,d⟩:=I.pin p hp
   exact ⟨(hs.2 p.1 ne).trans e,n,ne,nf,d⟩
 ·have hfn : X.fn x = true:=by
   rcases hf with z | z
   ·exact z
   ·rw [z] at hk; cases hk
  obtain ⟨c,hc⟩:=I.ok.has x (.inl hk)
  obtain ⟨w',z⟩:=I.cell x c hc
  refine wpAny_storeName_cell I.ok.kind hk hc z (fun h' hc' hs => ?_)
  obtain ⟨oc,hoc,hocd⟩:=id z
  refine h { s with heap:=h' } ⟨I.ok,I.os,I.bare,⟨fun b o e n hb hx => ?_,fun b o e n hb hx => ?_,I.base.free,fun b o e hx => ?_,I.base.tups,I.base.frzs,I.base.tbls⟩,⟨m,hn.sameBut hs (Ne.symm (cne x c hc)),fun j y v' e1 e2 e3 => ?_⟩,fun y c' e => ?_,I.free,I.freeC,fun p hp => ?_,tracked ⟨oc,hoc,I.freeC x c hc⟩ hs,by simpa using I.len⟩ ⟨c,hs,.inr hc⟩
  ·exact (hs.2 b (Nat.ne_of_lt (Nat.lt_of_lt_of_le (Heap.lt_size e) (I.ok.cab x c hfn hc)))).trans (I.base.keep b o e n hb hx)
  ·obtain ⟨sl,e1⟩:=I.base.slot b o e n hb hx
   exact ⟨sl,(hs.2 b (Nat.ne_of_lt (Nat.lt_of_lt_of_le (Heap.lt_size e) (I.ok.cab x c hfn hc)))).trans e1⟩
  ·obtain ⟨o',e1⟩:=I.base.there b o e hx
   exact ⟨o',(hs.2 b (Nat.ne_of_lt (Nat.lt_of_lt_of_le (Heap.lt_size e) (I.ok.cab x c hfn hc)))).trans e1⟩
  ·by_cases hj : j = i
   ·subst hj
    rw [hi] at e1; cases e1
    rw [List.getElem?_set_self hiσ] at e2
    cases e2
    exact ⟨u,r,.inr ⟨.inl hk,c,hc,hc'⟩⟩
   ·rw [List.getElem?_set_ne (Ne.symm hj)] at e2
    obtain ⟨u',r',q⟩:=hl j y v' e1 e2 e3
    refine ⟨u',r',?_⟩
    rcases q with q | ⟨k,c',e,z'⟩
    ·exact .inl q
    ·refine .inr ⟨k,c',e,z'.sameBut hs ?_⟩
     rintro rfl
     exact hj (zdC hN e1 (I.ok.inj _ _ _ e hc ▸ hi))
  ·by_cases hcc : c' = c
   ·subst hcc; exact ⟨_,hc'⟩
   ·obtain ⟨w2,z2⟩:=I.cell y c' e
    exact ⟨w2,z2.sameBut hs hcc⟩
  ·obtain ⟨e,n,ne,nf,d⟩:=I.pin p hp
   refine ⟨(hs.2 p.1 ?_).trans e,n,ne,nf,d⟩
   intro q
   rw [q,hoc] at e
   have q' : oc = p.2:=Option.some.inj e
   exact d w' (by rw [← q']; exact hocd)
theorem zcj {M : Model} {A : Around} {E : Value → Shared → Prop} {i : Nat} {x : Str} {v : V} {u : Value} {Q : Unit → Shared → Prop} (I : Inv X pins σ H s) (hN : X.N.Nodup) (hi : X.N[i]? = some x) (hx : Loc X.env.scope x) (r : RelV v u)
  (h : ∀ s',Inv X pins (σ.set i (some v)) H s' → Q () s') (hf : X.fn x = true ∨ X.env.scope.names.lookup x = some .local:=by first | exact .inl rfl | exact .inr rfl | assumption) : wpAny M A (storeName X.env x u) Q E s :=
 zcQ I hN hi hx r (fun s' I' _ => h s' I') hf
theorem Inv.call' {s' : Shared} {ch : List Addr} (I : Inv X pins σ H s) (ho : s'.os = s.os) (u : Un (frs X.stack) ch H H' s.heap s'.heap) (hok : HOk X.prog X.w H' s'.heap) (hg : AllBare s'.gens)
  (hch : ∀ b ∈ ch,(b ∈ X.ex ∨ X.s₀.heap.objs.size ≤ b) ∧ b ≠ X.env.locals ∧ (∀ x c,X.env.cells.lookup x = some c → c ≠ b) ∧ ∀ p ∈ X.pn ++ pins,p.1 ≠ b) : Inv X pins σ H' s':=by
 obtain ⟨h',g',d',t',o'⟩:=s'
 have e : o' = s.os:=ho
 subst e
 exact I.call (g':=g') (t':=t') (d':=d') u hok hg hch
end
abbrev XK:=Value → Option Addr → Hp → Prop
abbrev St:=List (Option V)
abbrev VK:=V → Hp → Prop
abbrev TE:=St → Hp → VK → Prop
abbrev TT:=St → Hp → (Bool → Hp → Prop) → Prop
abbrev TA:=St → Hp → (List V → Hp → Prop) → Prop
structure Ends where
 nx : St → Hp → Prop
 rt : VK
 bk : St → Hp → Prop:=fun _ _ => False
 ct : St → Hp → Prop:=fun _ _ => False
abbrev TS:=Ends → St → Hp → Prop
def EP (X : Cx) (pins : List (Addr × Obj)) (σ : St) (Q : VK) (u : Value) (s' : Shared) : Prop:=∃ v H',Inv X pins σ H' s' ∧ RelV v u ∧ Q v H'
def TP (X : Cx) (pins : List (Addr × Obj)) (σ : St) (Q : Bool → Hp → Prop) (b : Bool) (s' : Shared) : Prop:=∃ H',Inv X pins σ H' s' ∧ Q b H'
def AP (X : Cx) (pins : List (Addr × Obj)) (σ : St) (Q : List V → Hp → Prop) (us : List Value) (s' : Shared) : Prop:=∃ vs H',Inv X pins σ H' s' ∧ zx vs us ∧ Q vs H'
def SP (X : Cx) (pins : List (Addr × Obj)) (D : Ends) (f : Flow) (s' : Shared) : Prop :=
 match f with
 | .next => ∃ σ' H',Inv X pins σ' H' s' ∧ D.nx σ' H'
 | .brk => ∃ σ' H',Inv X pins σ' H' s' ∧ D.bk σ' H'
 | .cont => ∃ σ' H',Inv X pins σ' H' s' ∧ D.ct σ' H'
 | .ret u => ∃ v σ' H',Inv X pins σ' H' s' ∧ RelV v u ∧ D.rt v H'
def PE (X : Cx) (e : Expr) (t : TE) : Prop :=
 ∀ (pins : List (Addr × Obj)) (s : Shared) (σ : St) (H : Hp) (Q : VK),Inv X pins σ H s → t σ H Q → wpAny (model X.prog X.w) X.A (eval e X.env) (EP X pins σ Q) X.xe s
def PT (X : Cx) (e : Expr) (t : TT) : Prop :=
 ∀ (pins : List (Addr × Obj)) (s : Shared) (σ : St) (H : Hp) (Q : Bool → Hp → Prop),Inv X pins σ H s → t σ H Q → wpAny (model X.prog X.w) X.A (isTrue e X.env (eval e X.env)) (TP X pins σ Q) X.xe s
def PW (X : Cx) (e : Expr) (t : TT) : Prop :=
 ∀ (whole : Sem Value) (pins : List (Addr × Obj)) (s : Shared) (σ : St) (H : Hp) (Q : Bool → Hp → Prop),Inv X pins σ H s → t σ H Q → wpAny (model X.prog X.w) X.A (isTrue e X.env whole) (TP X pins σ Q) X.xe s
theorem PW.pt {X : Cx} {e : Expr} {t : TT} (h : PW X e t) : PT X e t:=h _
def PA (X : Cx) (es : List Expr) (t : TA) : Prop :=
 ∀ (pos : Pos) (pins : List (Addr × Obj)) (s : Shared) (σ : St) (H : Hp) (Q : List V → Hp → Prop),Inv X pins σ H s → t σ H Q → wpAny (model X.prog X.w) X.A (spliced (backTo pos (starEach es X.env))) (AP X pins σ Q) X.xe s
def PS (X : Cx) (st : Stmt) (t : TS) : Prop :=
 ∀ (pins : List (Addr × Obj)) (s : Shared) (σ : St) (H : Hp) (D : Ends),Inv X pins σ H s → t D σ H → wpAny (model X.prog X.w) X.A (exec st X.env) (SP X pins D) X.xe s
def PSs (X : Cx) (st : List Stmt) (t : TS) : Prop :=
 ∀ (pins : List (Addr × Obj)) (s : Shared) (σ : St) (H : Hp) (D : Ends),Inv X pins σ H s → t D σ H → wpAny (model X.prog X.w) X.A (execs st X.env) (SP X pins D) X.xe s
theorem thn {α : Type} {t : Sem α} {Q Q' : α → Shared → Prop} {M : Model} {A : Around} {E : Value → Shared → Prop} {s : Shared} (h : wpAny M A t Q E s) (hQ : ∀ a s,Q a s → Q' a s) : wpAny M A t Q' E s:=wpAny_mono h hQ fun _ _ x => x
end L2
namespace L2
open PySem PySem.Spec PyProof.Rows
section
variable {X : Cx}
def zh9 (i : Nat) : TE:=fun σ H Q => ∃ v,σ[i]? = some (some v) ∧ Q v H
def tC (v : V) : TE:=fun _ H Q => Q v H
theorem zhq {i : Nat} {x : Str} {pos : Pos} (hN : X.N[i]? = some x) (hv : Vis X.env.scope x) (hd : (x == ("__debug__" : Str)) = false:=by decide) (hcd : (x == ("__classdict__" : Str)) = false:=by decide) : PE X (.Name x pos) (zh9 i):=by
 intro pins s σ H Q I h
 obtain ⟨v,e,h⟩:=h
 obtain ⟨m,hn,hl⟩:=I.loc
 obtain ⟨u,r,l⟩:=hl i x v hN e hv
 have fin : EP X pins σ Q u s:=⟨v,H,I,r,h⟩
 rcases l with ⟨hk,hm⟩ | ⟨hk,c,hc,hcell⟩
 ·exact wpAny_Name (wpAny_loadName_local I.ok.kind hk hn hm fin) hd
 ·rcases hk with hk | hk
  ·exact wpAny_Name (wpAny_loadName_cell I.ok.kind hk hc hcell fin) hd
  ·exact wpAny_Name (wpAny_loadName_free I.ok.kind hk hc hcell fin hcd) hd
theorem zg {i j pos} : PE X (.Constant (.int i) j pos) (tC (.int i)):=fun _ _ _ H _ I h => wpAny_Constant_int ⟨.int i,H,I.tok _,⟨_,rfl⟩,h⟩
theorem zb3 {b j pos} : PE X (.Constant (.bool b) j pos) (tC (.bl b)):=fun _ _ _ H _ I h => Constant_bool ⟨.bl b,H,I,rfl,h⟩
theorem zdh {j pos} : PE X (.Constant .none j pos) (tC .non):=fun _ _ _ H _ I h => Constant_none ⟨.non,H,I,rfl,h⟩
def Gl (X : Cx) (x : Str) : Prop:=X.env.kindOf x = some .globalImplicit
theorem zgC {E : Value → Shared → Prop} {pins : List (Addr × Obj)} {s : Shared} {σ : St} {H : Hp} {x : Str} {u : Value} {pos : Pos} {Q : Value → Shared → Prop} (I : Inv X pins σ H s) (hg : Gl X x) (hm : X.mg x = some u) (h : Q u s)
  (hd : (x == ("__debug__" : Str)) = false:=by decide) : wpAny (model X.prog X.w) X.A (eval (.Name x pos) X.env) Q E s :=
 Calls.Name_function_global I.ok.kind hg (Calls.loadGlobal_global (by rw [I.ok.glob]; exact I.mod.glob.keeps I.bk) hm h) hd
theorem zbb {E : Value → Shared → Prop} {pins : List (Addr × Obj)} {s : Shared} {σ : St} {H : Hp} {x : Str} {u : Value} {pos : Pos} {Q : Value → Shared → Prop} (I : Inv X pins σ H s) (hg : Gl X x) (hm : X.mg x = none) (hv : bootBuiltins x = some u) (h : Q u s)
  (hn : x ≠ "__name__":=by decide) (hd : (x == ("__debug__" : Str)) = false:=by decide) : wpAny (model X.prog X.w) X.A (eval (.Name x pos) X.env) Q E s:=by
 obtain ⟨mb,h1,h2⟩:=I.mod.blt
 exact Calls.Name_function_global I.ok.kind hg (Calls.loadGlobal_builtin (by rw [I.ok.glob]; exact I.mod.glob.keeps I.bk) hm (by rw [I.ok.blt]; exact h1.keeps I.bk) ((h2 x hn).trans hv) h) hd
variable {a b : Expr} {ta tb : TE} {pos : Pos}
def tB (t : TE) : TT:=fun σ H Q => t σ H fun x H1 => ∃ c,x = .bl c ∧ Q c H1
theorem zhr {e : Expr} {t : TE} (h : PE X e t) (he : ∀ whole,isTrue e X.env whole = (do let v ← whole; standAt e.pos; holding [v] (truthy v)):=by intro _; rfl) : PT X e (tB t):=by
 intro pins s σ H Q I hw
 refine isTrue_plain (thn (h pins s σ H _ I hw) fun v s1 ⟨x,H1,I1,r1,q1⟩ => ?_) (he _)
 obtain ⟨d,rfl,q⟩:=q1
 cases r1
 exact wpAny_truthy_bool ⟨H1,I1,q⟩
variable {tA tB' : TT} {rest : List Expr}
def ziF (t u : TT) : TT:=fun σ H Q => t σ H fun c H1 => if c = true then u σ H1 Q else Q false H1
def tOr (t u : TT) : TT:=fun σ H Q => t σ H fun c H1 => if c = true then Q true H1 else u σ H1 Q
def ziG (t : TT) : TT:=fun σ H Q => t σ H fun c H1 => Q (!c) H1
theorem zgD (ha : PT X a tA) : PW X (.BoolOp .And [a] pos) tA:=by
 intro wh pins s σ H Q I h
 refine isTrue_and (thn (ha pins s σ H Q I h) fun c s1 e => ?_)
 cases c with
 | true => exact isTrue_and_nil e
 | false => exact e
theorem zhs (ha : PT X a tA) : PW X (.BoolOp .Or [a] pos) tA:=by
 intro wh pins s σ H Q I h
 refine isTrue_or (thn (ha pins s σ H Q I h) fun c s1 e => ?_)
 cases c with
 | false => exact isTrue_or_nil e
 | true => exact e
theorem zht (ha : PT X a tA) (hb : PW X (.BoolOp .And (b :: rest) pos) tB') : PW X (.BoolOp .And (a :: b :: rest) pos) (ziF tA tB'):=by
 intro wh pins s σ H Q I h
 refine isTrue_and (thn (ha pins s σ H _ I h) fun c s1 ⟨H1,I1,q1⟩ => ?_)
 cases c with
 | true => exact hb wh pins s1 σ H1 Q I1 q1
 | false => exact ⟨H1,I1,q1⟩
theorem zia (ha : PT X a tA) (hb : PW X (.BoolOp .Or (b :: rest) pos) tB') : PW X (.BoolOp .Or (a :: b :: rest) pos) (tOr tA tB'):=by
 intro wh pins s σ H Q I h
 refine isTrue_or (thn (ha pins s σ H _ I h) fun c s1 ⟨H1,I1,q1⟩ => ?_)
 cases c with
 | true => exact ⟨H1,I1,q1⟩
 | false => exact hb wh pins s1 σ H1 Q I1 q1
theorem zfv (ha : PT X a tA) : PT X (.UnaryOp .Not a pos) (ziG tA):=by
 intro pins s σ H Q I h
 exact isTrue_not (ha pins s σ H (fun c H1 => Q (!c) H1) I h)
end
end L2
namespace L2
open PySem PySem.Spec PyProof.Rows
def SqL (K : PySem.W.Frag) (H : Hp) (a : Addr) (xs : List V) : Prop :=
 Rd H a (.lst xs) ∨
  ∃ (o : Obj) (its : Array Value) (n : Nat),K.lookup a = some o ∧ o.cls = .type "list" ∧ o.dict = none ∧ o.data = .seq its n ∧ its.size ≤ sizeLine ∧ zx xs its.toList
def SqT (K : PySem.W.Frag) (H : Hp) (a : Addr) (xs : List V) : Prop :=
 Rd H a (.tup xs) ∨
  ∃ (o : Obj) (its : Array Value) (n : Nat),K.lookup a = some o ∧ o.cls = .type "tuple" ∧ o.data = .seq its n ∧ its.size ≤ sizeLine ∧ zx xs its.toList
def ziH : Value → Option V
 | .none => some .non
 | .bool b => some (.bl b)
 | .int i _ => some (.int i)
 | .str x _ => some (.str x)
 | .bytes b _ => some (.byt b)
 | .float b _ => some (.flt b)
 | .ref a => some (.ref a)
 | .type n => some (.ty n)
 | _ => none
theorem RelV.abs {x : V} {u : Value} (r : RelV x u) : ziH u = some x:=by
 cases x with
 | non => cases r; rfl
 | bl _ => cases r; rfl
 | int _ => obtain ⟨t,rfl⟩:=r; rfl
 | str _ => obtain ⟨t,rfl⟩:=r; rfl
 | byt _ => obtain ⟨t,rfl⟩:=r; rfl
 | flt _ => obtain ⟨t,rfl⟩:=r; rfl
 | ref _ => cases r; rfl
 | ty _ => cases r; rfl
theorem RelV.inj {x y : V} {u : Value} (r : RelV x u) (q : RelV y u) : x = y:=Option.some.inj (r.abs.symm.trans q.abs)
theorem zx.inj : ∀ {xs ys : List V} {us : List Value},zx xs us → zx ys us → xs = ys
 | _,_,_,.nil,.nil => rfl
 | _,_,_,.cons r t,.cons r' t' => by rw [r.inj r',zx.inj t t']
section
variable {X : Cx} {pins : List (Addr × Obj)} {σ : St} {H : Hp} {s : Shared} {a : Addr} {xs ys : List V}
theorem SqL.of {K : PySem.W.Frag} (h : H a = some (.lst xs)) : SqL K H a xs:=.inl (.inl h)
theorem SqT.of {K : PySem.W.Frag} (h : H a = some (.tup xs)) : SqT K H a xs:=.inl (.inl h)
theorem Inv.list (I : Inv X pins σ H s) (h : SqL X.K H a xs) : ∃ its : List Value,zx xs its ∧ PlainL s.heap a its.toArray ∧ xs.length ≤ sizeLine:=by
 rcases h with h | ⟨o,its,n,hk,hc,hd,hs,hz,r⟩
 ·obtain ⟨z,its,n,r,e⟩:=h.ok I.hok
  exact ⟨its,r,⟨_,n,e,rfl,rfl,rfl⟩,z⟩
 ·refine ⟨its.toList,r,⟨o,n,I.kIn a o hk,hc,hd,by simpa using hs⟩,?_⟩
  have e:=r.length
  simp only [Array.length_toList] at e
  omega
theorem Inv.tuple (I : Inv X pins σ H s) (h : SqT X.K H a xs) : ∃ its : List Value,zx xs its ∧ IsTup s.heap a its.toArray ∧ xs.length ≤ sizeLine:=by
 rcases h with h | ⟨o,its,n,hk,hc,hs,hz,r⟩
 ·obtain ⟨z,its,r,p⟩:=h.ok I.hok
  exact ⟨its,r,p,z⟩
 ·refine ⟨its.toList,r,⟨o,I.kIn a o hk,hc,n,by simpa using hs⟩,?_⟩
  have e:=r.length
  simp only [Array.length_toList] at e
  omega
theorem Inv.list_inj (I : Inv X pins σ H s) (h : SqL X.K H a xs) (h' : SqL X.K H a ys) : xs = ys:=by
 obtain ⟨its,r,⟨o,n,e,_,_,d⟩,_⟩:=I.list h
 obtain ⟨its',r',⟨o',n',e',_,_,d'⟩,_⟩:=I.list h'
 rw [e] at e'; cases e'
 rw [d] at d'
 injection d' with d1 _
 have : its = its':=by simpa using congrArg Array.toList d1
 subst this
 exact r.inj r'
theorem Inv.tuple_inj (I : Inv X pins σ H s) (h : SqT X.K H a xs) (h' : SqT X.K H a ys) : xs = ys:=by
 obtain ⟨its,r,⟨o,e,_,n,d⟩,_⟩:=I.tuple h
 obtain ⟨its',r',⟨o',e',_,n',d'⟩,_⟩:=I.tuple h'
 rw [e] at e'; cases e'
 rw [d] at d'
 injection d' with d1 _
 have : its = its':=by simpa using congrArg Array.toList d1
 subst this
 exact r.inj r'
end
abbrev Cx.wish (X : Cx) (E : Value → Shared → Prop) : Cx:={ X with xe:=E }
abbrev Cx.nox (X : Cx) : Cx:=X.wish fun _ _ => False
theorem Cx.Ok.wish {X : Cx} (ok : X.Ok) (E : Value → Shared → Prop) : (X.wish E).Ok :=
 ⟨ok.mod,ok.kind,ok.glob,ok.blt,ok.above,ok.inj,ok.has,ok.cab,ok.hd,ok.frames,ok.stk,ok.exf,ok.bs,ok.bsz,ok.noex,ok.exfs,ok.funs,ok.frf⟩
theorem Cx.Ok.unwish {X : Cx} {E : Value → Shared → Prop} (ok : (X.wish E).Ok) : X.Ok :=
 ⟨ok.mod,ok.kind,ok.glob,ok.blt,ok.above,ok.inj,ok.has,ok.cab,ok.hd,ok.frames,ok.stk,ok.exf,ok.bs,ok.bsz,ok.noex,ok.exfs,ok.funs,ok.frf⟩
section
variable {X : Cx} {pins : List (Addr × Obj)} {σ : St} {H : Hp} {s : Shared} {E : Value → Shared → Prop}
theorem Inv.wish (I : Inv X pins σ H s) (E : Value → Shared → Prop) : Inv (X.wish E) pins σ H s:=⟨I.ok.wish E,I.os,I.bare,I.base,I.loc,I.cell,I.free,I.freeC,I.pin,I.hok,I.len⟩
theorem Inv.unwish (I : Inv (X.wish E) pins σ H s) : Inv X pins σ H s:=⟨I.ok.unwish,I.os,I.bare,I.base,I.loc,I.cell,I.free,I.freeC,I.pin,I.hok,I.len⟩
theorem SP.unwish {D : Ends} {f : Flow} {s' : Shared} (h : SP (X.wish E) pins D f s') : SP X pins D f s':=by
 cases f with
 | next => obtain ⟨σ',H',I,q⟩:=h; exact ⟨σ',H',I.unwish,q⟩
 | brk => obtain ⟨σ',H',I,q⟩:=h; exact ⟨σ',H',I.unwish,q⟩
 | cont => obtain ⟨σ',H',I,q⟩:=h; exact ⟨σ',H',I.unwish,q⟩
 | ret u => obtain ⟨v,σ',H',I,r,q⟩:=h; exact ⟨v,σ',H',I.unwish,r,q⟩
theorem PSs.nox {st : List Stmt} {t : TS} (h : PSs X.nox st t) : PSs X st t:=fun pins s σ H D I hw =>
 wpAny_mono (h pins s σ H D (I.wish _) hw) (fun _ _ q => q.unwish) fun _ _ z => False.elim z
end
section
variable {X : Cx} {st : Stmt} {rest : List Stmt} {t u : TS} {e : Expr} {te : TE} {pos : Pos}
def zib : TS:=fun D σ H => D.nx σ H
def zic (t u : TS) : TS:=fun D σ H => t { D with nx:=u D } σ H
theorem zai : PSs X [] zib:=fun _ _ σ H _ I h => wpAny_execs_nil ⟨σ,H,I,h⟩
theorem zc (h1 : PS X st t) (h2 : PSs X rest u) : PSs X (st :: rest) (zic t u):=by
 intro pins s σ H D I h
 refine wpAny_execs_cons (thn (h1 pins s σ H { D with nx:=u D } I h) fun f s1 q => ?_)
 cases f with
 | next =>
  obtain ⟨σ',H',I',q⟩:=q
  exact h2 pins s1 σ' H' D I' q
 | ret v => exact q
 | brk => exact q
 | cont => exact q
theorem zp (h1 : PS X st t) : PSs X [st] t:=by
 intro pins s σ H D I h
 refine wpAny_execs_cons (thn (h1 pins s σ H D I h) fun f s1 q => ?_)
 cases f with
 | next => exact wpAny_execs_nil q
 | ret v => exact q
 | brk => exact q
 | cont => exact q
theorem Inv.quiet {pins : List (Addr × Obj)} {σ : St} {H : Hp} {s : Shared} (I : Inv X pins σ H s) : interactive X.env = false:=by simp [interactive,I.ok.kind]
def zid (te : TE) : TS:=fun D σ H => te σ H fun _ H1 => D.nx σ H1
theorem zbF (he : PE X e te) (hs : swapsWith e none pos.line X.env = pure false:=by rfl) : PS X (.Expr e pos) (zid te):=by
 intro pins s σ H D I h
 exact wpAny_Expr_any (thn (he pins s σ H _ I h) fun v s1 ⟨x,H1,I1,r1,q1⟩ => ⟨σ,H1,I1,q1⟩) I.quiet hs
def ziI (te : TE) : TS:=fun D σ H => te σ H D.rt
theorem zG (he : PE X e te) : PS X (.Return (some e) pos) (ziI te):=by
 intro pins s σ H D I h
 exact wpAny_Return_some (thn (he pins s σ H _ I h) fun v s1 ⟨x,H1,I1,r1,q1⟩ => ⟨x,σ,H1,I1,r1,q1⟩)
def ziJ (c : TT) (t u : TS) : TS:=fun D σ H => c σ H fun b H1 => if b = true then t D σ H1 else u D σ H1
theorem zbc {c : Expr} {a b : List Stmt} {tc : TT} (hc : PT X c tc) (ha : PSs X a t) (hb : PSs X b u) : PS X (.If c a b pos) (ziJ tc t u):=by
 intro pins s σ H D I h
 refine wpAny_If (thn (hc pins s σ H _ I h) fun d s1 ⟨H1,I1,q1⟩ => ?_)
 cases d with
 | true => exact ha pins s1 σ H1 D I1 q1
 | false => exact hb pins s1 σ H1 D I1 q1
end
abbrev TG:=V → St → Hp → (St → Hp → Prop) → Prop
abbrev TGs:=List V → St → Hp → (St → Hp → Prop) → Prop
def PG (X : Cx) (target : Expr) (t : TG) : Prop :=
 ∀ (pins : List (Addr × Obj)) (s : Shared) (σ : St) (H : Hp) (v : V) (u : Value) (Q : St → Hp → Prop),Inv X pins σ H s → RelV v u → t v σ H Q →
  wpAny (model X.prog X.w) X.A (assign target X.env u) (fun _ s' => ∃ σ' H',Inv X pins σ' H' s' ∧ Q σ' H') X.xe s
def PGs (X : Cx) (ts : List Expr) (t : TGs) : Prop :=
 ∀ (pins : List (Addr × Obj)) (s : Shared) (σ : St) (H : Hp) (vs : List V) (us : List Value) (Q : St → Hp → Prop),Inv X pins σ H s → zx vs us → t vs σ H Q →
  wpAny (model X.prog X.w) X.A (assignInOrder ((assignEach ts X.env).map (·.2)) us) (fun _ s' => ∃ σ' H',Inv X pins σ' H' s' ∧ Q σ' H') X.xe s
abbrev zhu:=V → V → V → Hp → (Hp → Prop) → Prop
def zie (X : Cx) (t : zhu) : Prop :=
 ∀ (pins : List (Addr × Obj)) (s : Shared) (σ : St) (H : Hp) (o i v : V) (ov iv u : Value) (Q : Hp → Prop),Inv X pins σ H s → RelV o ov → RelV i iv → RelV v u → t o i v H Q →
  wpAny (model X.prog X.w) X.A (setItem ov iv u) (fun _ s' => ∃ H',Inv X pins σ H' s' ∧ Q H') X.xe s
abbrev TIp:=V → V → Hp → VK → Prop
def PIp (X : Cx) (op : Operator) (t : TIp) : Prop :=
 ∀ (pins : List (Addr × Obj)) (s : Shared) (σ : St) (H : Hp) (x y : V) (v u : Value) (Q : VK),Inv X pins σ H s → RelV x v → RelV y u → t x y H Q →
  wpAny (model X.prog X.w) X.A (inplaceOp op v u) (EP X pins σ Q) X.xe s
section
variable {X : Cx} {pos : Pos}
def zbd (i : Nat) : TG:=fun v σ H Q => Q (σ.set i (some v)) H
theorem zi {i : Nat} {x : Str} (hN : X.N.Nodup) (hi : X.N[i]? = some x) (hx : Loc X.env.scope x) (hf : X.fn x = true ∨ X.env.scope.names.lookup x = some .local:=by first | exact .inl rfl | exact .inr rfl | assumption) : PG X (.Name x pos) (zbd i):=by
 intro pins s σ H v u Q I r h
 exact wpAny_assign_Name (zcj I hN hi hx r (fun s' I' => ⟨_,H,I',h⟩) hf)
def zhv : TGs:=fun vs σ H Q => vs = [] ∧ Q σ H
def zeu (t : TG) (u : TGs) : TGs:=fun vs σ H Q => ∃ v r,vs = v :: r ∧ t v σ H fun σ' H' => u r σ' H' Q
theorem zS : PGs X [] zhv:=by
 intro pins s σ H vs us Q I r h
 obtain ⟨e,h⟩:=h
 subst e
 cases r
 exact assignInOrder_nil ⟨σ,H,I,h⟩
theorem zm {e : Expr} {es : List Expr} {t : TG} {u : TGs} (h1 : PG X e t) (h2 : PGs X es u)
  (hs : (assignEach (e :: es) X.env).map (·.2) = assign e X.env :: (assignEach es X.env).map (·.2):=by rfl) : PGs X (e :: es) (zeu t u):=by
 intro pins s σ H vs us Q I r h
 obtain ⟨v,vr,e1,h⟩:=h
 subst e1
 cases r with
 | cons r rr =>
  rw [hs]
  refine assignInOrder_cons (thn (h1 pins s σ H _ _ _ I r h) fun _ s1 ⟨σ1,H1,I1,q1⟩ => ?_)
  exact h2 pins s1 σ1 H1 _ _ Q I1 rr q1
def zgE (K : PySem.W.Frag) (n : Nat) (t : TGs) : TG:=fun v σ H Q => ∃ a xs,v = .ref a ∧ SqT K H a xs ∧ xs.length = n ∧ t xs σ H Q
theorem zas {es : List Expr} {k : Nat} {t : TGs} {n : Nat} (hc : X.calm = true) (h : PGs X es t)
  (hn : (assignEach es X.env).length = n:=by rfl) (hst : (assignEach es X.env).findIdx? (·.1) = none:=by rfl) : PG X (.Tuple es k pos) (zgE X.K n t):=by
 intro pins s σ H v u Q I r hw
 obtain ⟨a,xs,e1,hq,hl,hw⟩:=hw
 subst e1
 cases r
 obtain ⟨its,rv,ht,hz⟩:=I.tuple hq
 refine assign_Tuple_tuple (I.ok.hd hc) ht (by simp [hn,← hl,rv.length]) hst fun h' hx => ?_
 have I1 : Inv X pins σ H { s with heap:=h' }:=I.kept (t':=s.toks) fun b o e => hx b o (Nat.ne_of_lt (Heap.lt_size e)) e
 exact h pins _ σ H xs _ Q I1 (by simpa using rv) hw
def ziK (to ti : TE) (t : zhu) : TG:=fun v σ H Q => to σ H fun o H1 => ti σ H1 fun i H2 => t o i v H2 fun H3 => Q σ H3
theorem zfw {o i : Expr} {to ti : TE} {t : zhu} (ho : PE X o to) (hi : PE X i ti) (hs : zie X t)
  (ha : ∀ v,assign (.Subscript o i pos) X.env v = (do
   let ov ← holding [v] (eval o X.env)
   let iv ← holding [v,ov] (eval i X.env)
   standAt pos
   holding [v,ov,iv] (setItem ov iv v)
   release [v,ov,iv] []):=by intro _; rfl) : PG X (.Subscript o i pos) (ziK to ti t):=by
 intro pins s σ H v u Q I r h
 rw [ha]
 refine wpAny_bind (wpAny_holding (thn (ho pins s σ H _ I h) fun ov s1 ⟨x,H1,I1,r1,q1⟩ => ?_))
 refine wpAny_bind (wpAny_holding (thn (hi pins s1 σ H1 _ I1 q1) fun iv s2 ⟨y,H2,I2,r2,q2⟩ => ?_))
 refine wpAny_bind (wpAny_standAt (wpAny_bind (wpAny_holding (thn (hs pins s2 σ H2 x y v ov iv u _ I2 r1 r2 r q2) fun _ s3 ⟨H3,I3,q3⟩ => ?_))))
 exact wpAny_release ⟨σ,H3,I3,q3⟩
def zfx (te : TE) (g : TG) : TS:=fun D σ H => te σ H fun x H1 => g x σ H1 D.nx
theorem zaR {tg e : Expr} {te : TE} {g : TG} (he : PE X e te) (hg : PG X tg g) (hs : swapsWithSole [tg] e pos.line X.env = pure false:=by rfl) (hw : swappedStores [tg] e X.env = pure none:=by rfl)
  (h1 : (assignEach [tg] X.env).map (·.2) = [assign tg X.env]:=by rfl) : PS X (.Assign [tg] e pos) (zfx te g):=by
 intro pins s σ H D I h
 refine wpAny_Assign_stores (thn (he pins s σ H _ I h) fun v s1 ⟨x,H1,I1,r1,q1⟩ => ?_) hs hw
 rw [h1]
 exact thn (hg pins s1 σ H1 x v _ I1 r1 q1) fun _ s2 q => q
theorem zo {i : Nat} {x : Str} {e : Expr} {te : TE} {pos' : Pos} (hN : X.N.Nodup) (hi : X.N[i]? = some x) (hx : Loc X.env.scope x) (he : PE X e te) (hs : swapsWith e (some (.Name x pos')) pos.line X.env = pure false:=by rfl) (hf : X.fn x = true ∨ X.env.scope.names.lookup x = some .local:=by first | exact .inl rfl | exact .inr rfl | assumption) :
  PS X (.Assign [.Name x pos'] e pos) (zfx te (zbd i)):=by
 intro pins s σ H D I h
 refine wpAny_Assign_Name (thn (he pins s σ H _ I h) fun v s1 ⟨y,H1,I1,r1,q1⟩ => ?_) hs
 exact zcj I1 hN hi hx r1 (fun s2 I2 => ⟨_,H1,I2,q1⟩) hf
def ziL (i : Nat) (te : TE) (ti : TIp) : TS:=fun D σ H => ∃ x,σ[i]? = some (some x) ∧ te σ H fun y H1 => ti x y H1 fun z H2 => D.nx (σ.set i (some z)) H2
theorem zfy {i : Nat} {x : Str} {e : Expr} {te : TE} {op : Operator} {ti : TIp} {pos' : Pos} (hN : X.N.Nodup) (hi : X.N[i]? = some x) (hx : Loc X.env.scope x) (he : PE X e te) (ho : PIp X op ti) (hf : X.fn x = true ∨ X.env.scope.names.lookup x = some .local:=by first | exact .inl rfl | exact .inr rfl | assumption) :
  PS X (.AugAssign (.Name x pos') op e pos) (ziL i te ti):=by
 intro pins s σ H D I h
 obtain ⟨v,e1,h⟩:=h
 obtain ⟨m,hn,hl⟩:=I.loc
 have vis : Vis X.env.scope x:=by rcases hx with k | k; exact .inl k; exact .inr (.inl k)
 obtain ⟨u,r,l⟩:=hl i x v hi e1 vis
 refine wpAny_AugAssign_Name ?_
 have go : wpAny (model X.prog X.w) X.A (eval e X.env) (fun w s₂ => wpAny (model X.prog X.w) X.A (inplaceOp op u w) (fun r s₃ => wpAny (model X.prog X.w) X.A (storeName X.env x r) (fun _ => SP X pins D .next) X.xe s₃) X.xe s₂) X.xe s:=by
  refine thn (he pins s σ H _ I h) fun w s1 ⟨y,H1,I1,r1,q1⟩ => ?_
  refine thn (ho pins s1 σ H1 v y u w _ I1 r r1 q1) fun z s2 ⟨zv,H2,I2,r2,q2⟩ => ?_
  exact zcj I2 hN hi hx r2 (fun s3 I3 => ⟨_,H2,I3,q2⟩) hf
 rcases l with ⟨hk,hm⟩ | ⟨hk,c,hc,hcell⟩
 ·exact wpAny_loadName_local I.ok.kind hk hn hm go
 ·rcases hk with hk | hk
  ·exact wpAny_loadName_cell I.ok.kind hk hc hcell go
  ·rcases hx with k | k
   ·have : X.env.scope.names.lookup x = some .free:=hk
    rw [k] at this; cases this
   ·have : X.env.scope.names.lookup x = some .free:=hk
    rw [k] at this; cases this
end
section
variable {X : Cx} {pos : Pos}
def zfz (c : TT) (tb : TS) : TS:=fun D σ H => ∃ W : Nat → St → Hp → Prop,(∃ m,W m σ H) ∧ ∀ m σ H,W m σ H →
 c σ H fun b H1 => if b = true then ∃ N : St → Hp → Prop,(∀ σ' H',N σ' H' → ∃ m',m' < m ∧ W m' σ' H') ∧ tb { D with nx:=N,ct:=N,bk:=D.nx } σ H1 else D.nx σ H1
theorem zdD {c : Expr} {body : List Stmt} {tc : TT} {tb : TS} (hp : PassesOwn (model X.prog X.w) X.A X.env X.xe) (hc : PT X c tc) (hb : PSs X body tb) : PS X (.While c body [] pos) (zfz tc tb):=by
 intro pins s σ H D I h
 obtain ⟨W,⟨m0,w0⟩,turn⟩:=h
 refine wpAny_While (codeAny_whileLoop (fun n s' => ∃ σ' H',Inv X pins σ' H' s' ∧ W n σ' H') ?_ m0 ⟨σ,H,I,w0⟩)
 rintro n s1 ⟨σ1,H1,I1,w1⟩
 refine wpAny_passesOwn hp (thn (hc pins s1 σ1 H1 _ I1 (turn n σ1 H1 w1)) fun b s2 ⟨H2,I2,q2⟩ => ?_)
 cases b with
 | true =>
  obtain ⟨N,hN,q2⟩:=q2
  rw [if_pos rfl]
  refine wpAny_passesOwn hp (thn (hb pins s2 σ1 H2 _ I2 q2) fun f s3 q3 => ?_)
  cases f with
  | next =>
   obtain ⟨σ3,H3,I3,n3⟩:=q3
   obtain ⟨m',hm,w3⟩:=hN σ3 H3 n3
   exact ⟨m',hm,σ3,H3,I3,w3⟩
  | cont =>
   obtain ⟨σ3,H3,I3,n3⟩:=q3
   obtain ⟨m',hm,w3⟩:=hN σ3 H3 n3
   exact ⟨m',hm,σ3,H3,I3,w3⟩
  | brk => exact q3
  | ret v => exact q3
 | false =>
  rw [if_neg Bool.false_ne_true]
  exact wpAny_execs_nil ⟨σ1,H2,I2,q2⟩
end
structure It where
 go : Nat → Hp → Prop
 yld : Nat → Hp → V → Hp → Prop
 stop : Nat → Hp → Prop
def zaM (X : Cx) (pins : List (Addr × Obj)) (H : Hp) (b : Addr) : Prop :=
 H b = none ∧ b ≠ X.env.locals ∧ b ∉ X.fs ∧ (b ∈ X.ex ∨ X.s₀.heap.objs.size ≤ b) ∧ (∀ x c,X.env.cells.lookup x = some c → c ≠ b) ∧ ∀ p ∈ X.pn ++ pins,p.1 ≠ b
theorem Inv.fpOk {X : Cx} {pins : List (Addr × Obj)} {σ : St} {H H' : Hp} {s : Shared} {b : Addr} (I : Inv X pins σ H s) (hb : s.heap.objs.size ≤ b) (hn : H' b = none) : zaM X pins H' b:=by
 refine ⟨hn,Nat.ne_of_gt (Nat.lt_of_lt_of_le I.lt hb),I.nofs hb,.inr (Nat.le_trans I.sz hb),fun x c e z => ?_,fun p hp z => ?_⟩
 ·obtain ⟨v,q⟩:=I.cell x c e
  exact absurd (Nat.lt_of_lt_of_le q.lt (by rw [z]; exact hb)) (Nat.lt_irrefl _)
 ·exact absurd (Nat.lt_of_lt_of_le (Heap.lt_size (I.pin p hp).1) (by rw [z]; exact hb)) (Nat.lt_irrefl _)
structure Turn (P : Program) (w : World) (K : PySem.W.Frag) (tg : Expr) (J : It) (fp : List Addr) (it : Addr) (tn : Nat → Heap → Prop) : Prop where
 mem : it ∈ fp
 obj : ∀ i h,tn i h → ∀ b ∈ fp,∃ o,h.get? b = some o ∧ ∀ v,o.data ≠ .cell v
 keep : ∀ i h h',tn i h → (∀ b ∈ fp,∀ o,h.get? b = some o → h'.get? b = some o) → tn i h'
 item : ∀ (X : Cx),X.prog = P → X.w = w → X.K = K → X.calm = true → ∀ (i : Nat) (pins : List (Addr × Obj)) (s : Shared) (σ : St) (H : Hp) (E : Value → Shared → Prop),Inv X pins σ H s → (∀ b ∈ fp,zaM X pins H b) → tn i s.heap → J.go i H →
  wpAny (model P w) X.A (pyNext (.ref it)) (fun r s1 => ∃ u,r = some u ∧
   wpAny (model P w) X.A (letOwnedTupleGo tg (.ref it) u) (fun _ s2 => ∃ x H',Inv X pins σ H' s2 ∧ RelV x u ∧ J.yld i H x H' ∧ tn (i + 1) s2.heap ∧ ∀ b ∈ fp,H' b = none) E s1) E s
 done : ∀ (X : Cx),X.prog = P → X.w = w → X.K = K → X.calm = true → ∀ (i : Nat) (pins : List (Addr × Obj)) (s : Shared) (σ : St) (H : Hp) (E : Value → Shared → Prop),Inv X pins σ H s → (∀ b ∈ fp,zaM X pins H b) → tn i s.heap → J.stop i H →
  wpAny (model P w) X.A (pyNext (.ref it)) (fun r s1 => r = none ∧ Inv X pins σ H s1) E s
 self : ∀ (A : Around) (i : Nat) (s : Shared) (Q : Value → Shared → Prop) (E : Value → Shared → Prop),tn i s.heap → Q (.ref it) s → wpAny (model P w) A (pyIter (.ref it)) Q E s
abbrev TI:=St → Hp → (It → Hp → Prop) → Prop
def PIE (X : Cx) (pins : List (Addr × Obj)) (σ : St) (tg : Expr) (R : It → Hp → Prop) (itv : Value) (s2 : Shared) : Prop :=
 ∃ (it : Addr) (fp : List Addr) (tn : Nat → Heap → Prop) (J : It) (H' : Hp),itv = .ref it ∧ Inv X pins σ H' s2 ∧ Turn X.prog X.w X.K tg J fp it tn ∧ tn 0 s2.heap ∧ (∀ b ∈ fp,zaM X pins H' b) ∧ R J H'
def PI (X : Cx) (tg iter : Expr) (wi : TI) : Prop :=
 ∀ (pins : List (Addr × Obj)) (s : Shared) (σ : St) (H : Hp) (R : It → Hp → Prop),Inv X pins σ H s → wi σ H R →
  wpAny (model X.prog X.w) X.A (eval iter X.env) (fun v s1 => wpAny (model X.prog X.w) X.A (pyIter v) (PIE X pins σ tg R) X.xe s1) X.xe s
theorem zdE {M : Model} {A : Around} {E : Value → Shared → Prop} {s : Shared} {tg : Expr} {it : Addr} {u : Value} {o : Obj} {n : String} {vs : Array Value} {Q : Unit → Shared → Prop} (ho : s.heap.get? it = some o) (hc : o.cls = .type n) (hd : o.data = .fields vs)
  (hn : ["enumerate","zip","dict_itemiterator","dict_reverseitemiterator","odict_iterator","itertools.zip_longest","itertools.pairwise"].contains n = false) (hQ : Q () s) : wpAny M A (letOwnedTupleGo tg (.ref it) u) Q E s:=by
 unfold letOwnedTupleGo
 cases tg <;> first
  | exact wpAny_pure hQ
  | (cases u <;> first
    | exact wpAny_pure hQ
    | (refine wpAny_bind (wpAny_load ho ?_)
       rw [hc,hd]
       show wpAny M A (if (["enumerate","zip","dict_itemiterator","dict_reverseitemiterator","odict_iterator","itertools.zip_longest","itertools.pairwise"].contains n && vs[0]? == some (rawInt _)) = true then _ else _) Q E s
       rw [if_neg (by intro h; rw [hn,Bool.false_and] at h; cases h)]
       exact wpAny_pure hQ))
def Itl (K : PySem.W.Frag) (a : Addr) : It :=
 ⟨fun i H => ∃ xs x,SqL K H a xs ∧ xs[i]? = some x,fun i H x H' => H' = H ∧ ∀ xs,SqL K H a xs → xs[i]? = some x,fun i H => ∃ xs,SqL K H a xs ∧ xs.length ≤ i⟩
def Itt (K : PySem.W.Frag) (a : Addr) : It :=
 ⟨fun i H => ∃ xs x,SqT K H a xs ∧ xs[i]? = some x,fun i H x H' => H' = H ∧ ∀ xs,SqT K H a xs → xs[i]? = some x,fun i H => ∃ xs,SqT K H a xs ∧ xs.length ≤ i⟩
def Itr (lo : Int) (n : Nat) : It:=⟨fun i _ => i < n,fun i H x H' => H' = H ∧ x = .int (lo + i),fun i _ => n ≤ i⟩
theorem zcR {P : Program} {w : World} {K : PySem.W.Frag} {tg : Expr} (a it : Addr) : Turn P w K tg (Itl K a) [it] it (fun i h => h.IsListIter it a i) where
 mem:=by simp
 obj:=fun i h st b hb => by
  have e : b = it:=by simpa using hb
  subst e
  obtain ⟨o,e,c,d⟩:=st
  exact ⟨o,e,fun v z => by rw [d] at z; cases z⟩
 keep:=fun i h h' st k => st.at fun o e => k it (by simp) o e
 item:=by
  intro X hP hw hK hc i pins s σ H E I hf st hg
  subst hP hw hK
  obtain ⟨xs,x,hq,hx⟩:=hg
  obtain ⟨its,rv,p,hz⟩:=I.list hq
  obtain ⟨u,hu,ru⟩:=rv.get hx
  obtain ⟨f0,f1,f2,f3,f4,f5⟩:=hf it (by simp)
  refine wpAny_pyNext_list_item st p.isList (x:=u) (by simpa using hu) fun h' st' sb => ?_
  have I1 : Inv X pins σ H { s with heap:=h' }:=I.turned (t':=s.toks) (fun b o hb e => (sb.2 b hb).trans e) f0 f1 f3 f4 f5
  obtain ⟨o,e,c,d⟩:=id st'
  exact ⟨u,rfl,zdE (s:={ s with heap:=h' }) e c d (by decide) ⟨x,H,I1,ru,⟨rfl,fun ys hy => by rw [I.list_inj hy hq]; exact hx⟩,st',fun b hb => (hf b hb).1⟩⟩
 done:=by
  intro X hP hw hK hc i pins s σ H E I hf st hg
  subst hP hw hK
  obtain ⟨xs,hq,hx⟩:=hg
  obtain ⟨its,rv,p,hz⟩:=I.list hq
  obtain ⟨f0,f1,f2,f3,f4,f5⟩:=hf it (by simp)
  have hl:=rv.length
  exact wpAny_pyNext_list_end (I.ok.hd hc) st p.isList (by simp; omega) fun h' eb => ⟨rfl,I.turned (t':=s.toks) (fun b o hb e => eb b o hb e) f0 f1 f3 f4 f5⟩
 self:=fun _ _ _ _ _ st h => wpAny_pyIter_listiter st h
theorem zck {P : Program} {w : World} {K : PySem.W.Frag} {tg : Expr} (a it : Addr) : Turn P w K tg (Itt K a) [it] it (fun i h => h.IsTupleIter it a i) where
 mem:=by simp
 obj:=fun i h st b hb => by
  have e : b = it:=by simpa using hb
  subst e
  obtain ⟨o,e,c,d⟩:=st
  exact ⟨o,e,fun v z => by rw [d] at z; cases z⟩
 keep:=fun i h h' st k => st.at fun o e => k it (by simp) o e
 item:=by
  intro X hP hw hK hc i pins s σ H E I hf st hg
  subst hP hw hK
  obtain ⟨xs,x,hq,hx⟩:=hg
  obtain ⟨its,rv,p,hz⟩:=I.tuple hq
  obtain ⟨u,hu,ru⟩:=rv.get hx
  obtain ⟨f0,f1,f2,f3,f4,f5⟩:=hf it (by simp)
  refine wpAny_pyNext_tuple_item st (show s.heap.IsTuple a its.toArray from p) (x:=u) (by simpa using hu) fun h' st' sb => ?_
  have I1 : Inv X pins σ H { s with heap:=h' }:=I.turned (t':=s.toks) (fun b o hb e => (sb.2 b hb).trans e) f0 f1 f3 f4 f5
  obtain ⟨o,e,c,d⟩:=id st'
  exact ⟨u,rfl,zdE (s:={ s with heap:=h' }) e c d (by decide) ⟨x,H,I1,ru,⟨rfl,fun ys hy => by rw [I.tuple_inj hy hq]; exact hx⟩,st',fun b hb => (hf b hb).1⟩⟩
 done:=by
  intro X hP hw hK hc i pins s σ H E I hf st hg
  subst hP hw hK
  obtain ⟨xs,hq,hx⟩:=hg
  obtain ⟨its,rv,p,hz⟩:=I.tuple hq
  obtain ⟨f0,f1,f2,f3,f4,f5⟩:=hf it (by simp)
  have hl:=rv.length
  exact wpAny_pyNext_tuple_end (I.ok.hd hc) st (show s.heap.IsTuple a its.toArray from p) (by simp; omega) fun h' eb => ⟨rfl,I.turned (t':=s.toks) (fun b o hb e => eb b o hb e) f0 f1 f3 f4 f5⟩
 self:=fun _ _ _ _ _ st h => wpAny_pyIter_tupleiter st h
theorem zd6 {P : Program} {w : World} {K : PySem.W.Frag} {tg : Expr} (it : Addr) (lo : Int) (n : Nat) : Turn P w K tg (Itr lo n) [it] it (fun i h => IsRangeIter h it (lo + (i : Nat) * 1) ((n : Int) - (i : Nat)) 1) where
 mem:=by simp
 obj:=fun i h st b hb => by
  have e : b = it:=by simpa using hb
  subst e
  exact ⟨_,st,fun v z => by
   have z' : Data.fields _ = Data.cell v:=z
   cases z'⟩
 keep:=fun i h h' st k => k it (by simp) _ st
 item:=by
  intro X hP hw hK hc i pins s σ H E I hf st hg
  subst hP hw hK
  obtain ⟨f0,f1,f2,f3,f4,f5⟩:=hf it (by simp)
  have W:=Walks.range (prog:=X.prog) (w:=X.w) (I.ok.hd hc) it lo 1 n
  refine W.item i s _ _ hg st fun v h' tk hv st' kk => ?_
  obtain ⟨t,rfl⟩:=hv
  have I1 : Inv X pins σ H { s with heap:=h',toks:=tk }:=I.turned (fun b o hb e => kk b o (by simpa using hb) e) f0 f1 f3 f4 f5
  refine ⟨_,rfl,zdE (s:={ s with heap:=h',toks:=tk }) (n:="range_iterator") st' rfl rfl (by decide) ⟨.int (lo + i),H,I1,⟨t,?_⟩,⟨rfl,rfl⟩,st',fun b hb => (hf b hb).1⟩⟩
  rw [Int.mul_one]
 done:=by
  intro X hP hw hK hc i pins s σ H E I hf st hg
  subst hP hw hK
  obtain ⟨f0,f1,f2,f3,f4,f5⟩:=hf it (by simp)
  exact wpAny_pyNext_range_end (I.ok.hd hc) st (by have : n ≤ i:=hg; omega) fun h' eb => ⟨rfl,I.turned (t':=s.toks) (fun b o hb e => eb b o hb e) f0 f1 f3 f4 f5⟩
 self:=fun _ _ _ _ _ st h => wpAny_pyIter_rangeiter st h
end L2
namespace L2
open PySem PySem.Spec PyProof.Rows
section
variable {X : Cx} {tg : Expr}
def zif (K : PySem.W.Frag) (tl : TE) : TI:=fun σ H R => tl σ H fun x H1 => ∃ a,x = .ref a ∧ (∃ xs,SqL K H1 a xs) ∧ R (Itl K a) H1
def zig (K : PySem.W.Frag) (tl : TE) : TI:=fun σ H R => tl σ H fun x H1 => ∃ a,x = .ref a ∧ (∃ xs,SqT K H1 a xs) ∧ R (Itt K a) H1
theorem zaj {l : Expr} {tl : TE} (hl : PE X l tl) : PI X tg l (zif X.K tl):=by
 intro pins s σ H R I h
 refine thn (hl pins s σ H _ I h) fun v s1 ⟨x,H1,I1,r1,q1⟩ => ?_
 obtain ⟨a,e,⟨xs,hq⟩,q⟩:=q1
 subst e
 cases r1
 obtain ⟨its,rv,p,hz⟩:=I1.list hq
 refine wpAny_pyIter_list p.isList ?_
 refine ⟨s1.heap.objs.size,[s1.heap.objs.size],_,_,H1,rfl,I1.kept (t':=s1.toks) fun b o e => Heap.get?_push_of_some _ e,zcR a _,⟨_,Heap.get?_push_size _ rfl,rfl,rfl⟩,fun b hb => ?_,q⟩
 have e : b = s1.heap.objs.size:=by simpa using hb
 subst e
 exact I1.fpOk (Nat.le_refl _) (I1.hok.fresh (Nat.le_refl _))
theorem zfA {l : Expr} {tl : TE} (hl : PE X l tl) : PI X tg l (zig X.K tl):=by
 intro pins s σ H R I h
 refine thn (hl pins s σ H _ I h) fun v s1 ⟨x,H1,I1,r1,q1⟩ => ?_
 obtain ⟨a,e,⟨xs,hq⟩,q⟩:=q1
 subst e
 cases r1
 obtain ⟨its,rv,p,hz⟩:=I1.tuple hq
 refine wpAny_pyIter_tuple (show s1.heap.IsTuple a its.toArray from p) ?_
 refine ⟨s1.heap.objs.size,[s1.heap.objs.size],_,_,H1,rfl,I1.kept (t':=s1.toks) fun b o e => Heap.get?_push_of_some _ e,zck a _,⟨_,Heap.get?_push_size _ rfl,rfl,rfl⟩,fun b hb => ?_,q⟩
 have e : b = s1.heap.objs.size:=by simpa using hb
 subst e
 exact I1.fpOk (Nat.le_refl _) (I1.hok.fresh (Nat.le_refl _))
theorem zfB {pins : List (Addr × Obj)} {σ : St} {H : Hp} {s : Shared} {R : It → Hp → Prop} {E : Value → Shared → Prop} {lo hi : Int} {t u v : Tok} {tk : Nat} (I : Inv X pins σ H s) (h1 : -(2 ^ 62) ≤ lo) (h2 : lo < 2 ^ 62) (h3 : -(2 ^ 62) ≤ hi) (h4 : hi < 2 ^ 62)
  (q : R (Itr lo (hi - lo).toNat) H) : wpAny (model X.prog X.w) X.A (pyIter (.ref s.heap.objs.size)) (PIE X pins σ tg R) E { s with heap:=s.heap.push { cls:=.type "range",data:=.fields #[.int lo t,.int hi u,.int 1 v] },toks:=tk }:=by
 refine wpAny_pyIter_range (IsRange.new ..) (small_one h1 h2 h3 h4) ?_
 have I1 : Inv X pins σ H { s with heap:=s.heap.push { cls:=.type "range",data:=.fields #[.int lo t,.int hi u,.int 1 v] },toks:=tk }:=I.kept fun b o e => Heap.get?_push_of_some _ e
 refine ⟨(s.heap.push { cls:=.type "range",data:=.fields #[.int lo t,.int hi u,.int 1 v] }).objs.size,[(s.heap.push { cls:=.type "range",data:=.fields #[.int lo t,.int hi u,.int 1 v] }).objs.size],_,_,H,rfl,
  I1.kept (t':=tk) fun b o e => Heap.get?_push_of_some _ e,zd6 _ lo (hi - lo).toNat,?_,fun b hb => ?_,q⟩
 ·have e1 : lo + ((0 : Nat) : Int) * 1 = lo:=by simp
  have e2 : (((hi - lo).toNat : Nat) : Int) - ((0 : Nat) : Int) = Builtin.Range.rangeSize lo hi 1:=by rw [rangeSize_one]; split <;> omega
  show IsRangeIter _ _ (lo + ((0 : Nat) : Int) * 1) ((((hi - lo).toNat : Nat) : Int) - ((0 : Nat) : Int)) 1
  rw [e1,e2]
  exact Heap.get?_push_size _ rfl
 ·have e : b = (s.heap.push { cls:=.type "range",data:=.fields #[.int lo t,.int hi u,.int 1 v] }).objs.size:=by simpa using hb
  subst e
  exact I1.fpOk (Nat.le_refl _) (I1.hok.fresh (Nat.le_refl _))
def zih (ta : TA) : TI:=fun σ H R => ta σ H fun vs H1 => ∃ j : Int,vs = [.int j] ∧ -(2 ^ 62) ≤ j ∧ j < 2 ^ 62 ∧ R (Itr 0 j.toNat) H1
theorem zat {a : Expr} {ta : TA} {p pos : Pos} (hg : Gl X "range") (hm : X.mg "range" = none) (ha : PA X [a] ta) (hs : starEach [a] X.env = [(false,eval a X.env)]:=by rfl) : PI X tg (.Call (.Name "range" p) [a] [] pos) (zih ta):=by
 intro pins s σ H R I h
 refine Call_ (zbb I hg hm boot_range (PyProof.Rows.callWith_type1 (thn (ha pos pins s σ H _ I h) fun us s1 ⟨vs,H1,I1,r1,q1⟩ => ?_) hs rfl))
 obtain ⟨j,e,q1,q2,q⟩:=q1
 subst e
 cases r1 with
 | cons r rr =>
  cases rr
  obtain ⟨t,rfl⟩:=r
  exact call_range_1 (zfB I1 (by omega) (by omega) q1 q2 (by simpa using q))
def ziM (wi : TI) (g : TG) (tb : TS) : TS:=fun D σ H => wi σ H fun J H1 => ∃ W : Nat → Nat → St → Hp → Prop,(∃ m,W 0 m σ H1) ∧ ∀ i m σ H,W i m σ H →
 (J.stop i H ∧ D.nx σ H) ∨ (J.go i H ∧ ∃ N : St → Hp → Prop,(∀ σ' H',N σ' H' → ∃ m',m' < m ∧ W (i + 1) m' σ' H') ∧ ∀ x H',J.yld i H x H' → g x σ H' fun σ2 H2 => tb { D with nx:=N,ct:=N,bk:=D.nx } σ2 H2)
def za1 (fp : List Addr) (h : Heap) : List (Addr × Obj):=fp.filterMap fun b => (h.get? b).map fun o => (b,o)
theorem zau {fp : List Addr} {h : Heap} {b : Addr} {o : Obj} (hb : b ∈ fp) (e : h.get? b = some o) : (b,o) ∈ za1 fp h:=List.mem_filterMap.mpr ⟨b,hb,by rw [e]; rfl⟩
theorem zcS {fp : List Addr} {h : Heap} {p : Addr × Obj} (hp : p ∈ za1 fp h) : p.1 ∈ fp ∧ h.get? p.1 = some p.2:=by
 obtain ⟨b,hb,e⟩:=List.mem_filterMap.mp hp
 cases q : h.get? b with
 | none => rw [q] at e; cases e
 | some o =>
  rw [q] at e
  have e' : (b,o) = p:=Option.some.inj e
  subst e'
  exact ⟨hb,q⟩
theorem Inv.pinned {pins : List (Addr × Obj)} {σ : St} {H : Hp} {s : Shared} {fp : List Addr} (I : Inv X pins σ H s) (hf : ∀ b ∈ fp,zaM X pins H b) (ho : ∀ b ∈ fp,∃ o,s.heap.get? b = some o ∧ ∀ v,o.data ≠ .cell v) : Inv X (pins ++ za1 fp s.heap) σ H s :=
 I.pins_of fun p hp => (List.mem_append.mp hp).elim (fun z => I.pin p (List.mem_append_right _ z)) fun z => by
  obtain ⟨hb,e⟩:=zcS z
  obtain ⟨f0,f1,f2,_⟩:=hf p.1 hb
  obtain ⟨o,e',d⟩:=ho p.1 hb
  rw [e] at e'; cases e'
  exact ⟨e,f0,f1,f2,d⟩
theorem Inv.unpinned {pins pl : List (Addr × Obj)} {σ : St} {H : Hp} {s : Shared} (I : Inv X (pins ++ pl) σ H s) : Inv X pins σ H s:=I.pins_of fun p hp => I.pin p (List.mem_append_right _ (List.mem_append_left _ hp))
theorem zaS {iter : Expr} {body : List Stmt} {wi : TI} {g : TG} {tb : TS} {pos : Pos} (hp : PassesOwn (model X.prog X.w) X.A X.env X.xe) (hc : X.calm = true) (hi : PI X tg iter wi) (hg : PG X tg g) (hb : PSs X body tb)
  (hs : ∀ x,foldedSetIterable iter X.env x = pure x:=by intro _; rfl) : PS X (.For tg iter body [] pos) (ziM wi g tb):=by
 intro pins s σ H D I h
 refine wpAny_For (thn (hi pins s σ H _ I h) fun v s1 h1 => thn h1 fun itv s2 h2 => ?_) hs
 obtain ⟨it,fp,tn,J,H2,e,I2,T,st2,f2,W,⟨m0,w0⟩,turn⟩:=h2
 subst e
 have stat : ∀ {H' : Hp},(∀ b ∈ fp,H' b = none) → ∀ b ∈ fp,zaM X pins H' b:=fun hn b hb => ⟨hn b hb,(f2 b hb).2⟩
 refine codeAny_forLoop_any (fun n s' => ∃ i σ' H',Inv X pins σ' H' s' ∧ tn i s'.heap ∧ (∀ b ∈ fp,H' b = none) ∧ W i n σ' H') ?_ m0 ⟨0,σ,H2,I2,st2,fun b hb => (f2 b hb).1,w0⟩
 rintro n s3 ⟨i,σ3,H3,I3,st3,fr3,w3⟩
 rcases turn i n σ3 H3 w3 with ⟨stop,qn⟩ | ⟨go,N,hN,step⟩
 ·refine wpAny_passesOwn hp (thn (T.done X rfl rfl rfl hc i pins s3 σ3 H3 X.xe I3 (stat fr3) st3 stop) fun r s4 ⟨hr,I4⟩ => ?_)
  subst hr
  exact wpAny_execs_nil ⟨σ3,H3,I4,qn⟩
 ·refine wpAny_passesOwn hp (thn (T.item X rfl rfl rfl hc i pins s3 σ3 H3 X.xe I3 (stat fr3) st3 go) fun r s4 ⟨u,hr,h4⟩ => ?_)
  subst hr
  refine wpAny_passesOwn hp (thn h4 fun _ s5 ⟨x,H5,I5,r5,y5,st5,fr5⟩ => ?_)
  have I5':=I5.pinned (stat fr5) (T.obj _ _ st5)
  refine wpAny_passesOwn hp (thn (hg _ s5 σ3 H5 x u _ I5' r5 (step x H5 y5)) fun _ s6 ⟨σ6,H6,I6,q6⟩ => ?_)
  refine wpAny_passesOwn hp (thn (hb _ s6 σ6 H6 _ I6 q6) fun f s7 q7 => ?_)
  have again : ∀ {σ7 : St} {H7 : Hp},Inv X (pins ++ za1 fp s5.heap) σ7 H7 s7 → N σ7 H7 → ∃ m,m < n ∧ ∃ i σ' H',Inv X pins σ' H' s7 ∧ tn i s7.heap ∧ (∀ b ∈ fp,H' b = none) ∧ W i m σ' H':=fun {σ7 H7} I7 n7 => by
   obtain ⟨m',hm,w7⟩:=hN σ7 H7 n7
   refine ⟨m',hm,i + 1,σ7,H7,I7.unpinned,T.keep _ _ _ st5 fun b hb o e => (I7.pin (b,o) (List.mem_append_right _ (List.mem_append_right _ (zau hb e)))).1,fun b hb => ?_,w7⟩
   obtain ⟨o,e,d⟩:=T.obj _ _ st5 b hb
   exact (I7.pin (b,o) (List.mem_append_right _ (List.mem_append_right _ (zau hb e)))).2.1
  cases f with
  | next => obtain ⟨σ7,H7,I7,n7⟩:=q7; exact again I7 n7
  | cont => obtain ⟨σ7,H7,I7,n7⟩:=q7; exact again I7 n7
  | brk => obtain ⟨σ7,H7,I7,q7⟩:=q7; exact ⟨σ7,H7,I7.unpinned,q7⟩
  | ret v => obtain ⟨x7,σ7,H7,I7,r7,q7⟩:=q7; exact ⟨x7,σ7,H7,I7.unpinned,r7,q7⟩
end
theorem zbG {K : PySem.W.Frag} {a : Addr} {xs : List V} {g : TG} {tb : TS} {D : Ends} {σ : St} {H : Hp} (Pv : Nat → St → Hp → Prop) (h0 : Pv 0 σ H) (hl : ∀ i σ H,i ≤ xs.length → Pv i σ H → SqL K H a xs)
  (hs : ∀ i x σ H,xs[i]? = some x → Pv i σ H → g x σ H fun σ2 H2 => tb { D with nx:=Pv (i + 1),ct:=Pv (i + 1),bk:=D.nx } σ2 H2) (hd : ∀ σ H,Pv xs.length σ H → D.nx σ H) :
  ∃ W : Nat → Nat → St → Hp → Prop,(∃ m,W 0 m σ H) ∧ ∀ i m σ H,W i m σ H →
   ((Itl K a).stop i H ∧ D.nx σ H) ∨ ((Itl K a).go i H ∧ ∃ N : St → Hp → Prop,(∀ σ' H',N σ' H' → ∃ m',m' < m ∧ W (i + 1) m' σ' H') ∧ ∀ x H',(Itl K a).yld i H x H' → g x σ H' fun σ2 H2 => tb { D with nx:=N,ct:=N,bk:=D.nx } σ2 H2):=by
 refine ⟨fun i m σ H => m = xs.length - i ∧ i ≤ xs.length ∧ Pv i σ H,⟨xs.length,by simp,Nat.zero_le _,h0⟩,?_⟩
 rintro i m σ H ⟨rfl,hi,p⟩
 have q:=hl i σ H hi p
 by_cases hlt : i < xs.length
 ·refine .inr ⟨⟨xs,xs[i],q,by simp [hlt]⟩,Pv (i + 1),fun σ' H' p' => ⟨xs.length - (i + 1),by omega,rfl,hlt,p'⟩,fun x H' y => ?_⟩
  obtain ⟨e,y⟩:=y
  subst e
  exact hs i x σ _ (y xs q) p
 ·have e : i = xs.length:=by omega
  subst e
  exact .inl ⟨⟨xs,q,Nat.le_refl _⟩,hd σ H p⟩
theorem zgF {K : PySem.W.Frag} {a : Addr} {xs : List V} {g : TG} {tb : TS} {D : Ends} {σ : St} {H : Hp} (Pv : Nat → St → Hp → Prop) (h0 : Pv 0 σ H) (hl : ∀ i σ H,i ≤ xs.length → Pv i σ H → SqT K H a xs)
  (hs : ∀ i x σ H,xs[i]? = some x → Pv i σ H → g x σ H fun σ2 H2 => tb { D with nx:=Pv (i + 1),ct:=Pv (i + 1),bk:=D.nx } σ2 H2) (hd : ∀ σ H,Pv xs.length σ H → D.nx σ H) :
  ∃ W : Nat → Nat → St → Hp → Prop,(∃ m,W 0 m σ H) ∧ ∀ i m σ H,W i m σ H →
   ((Itt K a).stop i H ∧ D.nx σ H) ∨ ((Itt K a).go i H ∧ ∃ N : St → Hp → Prop,(∀ σ' H',N σ' H' → ∃ m',m' < m ∧ W (i + 1) m' σ' H') ∧ ∀ x H',(Itt K a).yld i H x H' → g x σ H' fun σ2 H2 => tb { D with nx:=N,ct:=N,bk:=D.nx } σ2 H2):=by
 refine ⟨fun i m σ H => m = xs.length - i ∧ i ≤ xs.length ∧ Pv i σ H,⟨xs.length,by simp,Nat.zero_le _,h0⟩,?_⟩
 rintro i m σ H ⟨rfl,hi,p⟩
 have q:=hl i σ H hi p
 by_cases hlt : i < xs.length
 ·refine .inr ⟨⟨xs,xs[i],q,by simp [hlt]⟩,Pv (i + 1),fun σ' H' p' => ⟨xs.length - (i + 1),by omega,rfl,hlt,p'⟩,fun x H' y => ?_⟩
  obtain ⟨e,y⟩:=y
  subst e
  exact hs i x σ _ (y xs q) p
 ·have e : i = xs.length:=by omega
  subst e
  exact .inl ⟨⟨xs,q,Nat.le_refl _⟩,hd σ H p⟩
theorem zbQ {lo : Int} {n : Nat} {g : TG} {tb : TS} {D : Ends} {σ : St} {H : Hp} (Pv : Nat → St → Hp → Prop) (h0 : Pv 0 σ H)
  (hs : ∀ i σ H,i < n → Pv i σ H → g (.int (lo + i)) σ H fun σ2 H2 => tb { D with nx:=Pv (i + 1),ct:=Pv (i + 1),bk:=D.nx } σ2 H2) (hd : ∀ σ H,Pv n σ H → D.nx σ H) :
  ∃ W : Nat → Nat → St → Hp → Prop,(∃ m,W 0 m σ H) ∧ ∀ i m σ H,W i m σ H →
   ((Itr lo n).stop i H ∧ D.nx σ H) ∨ ((Itr lo n).go i H ∧ ∃ N : St → Hp → Prop,(∀ σ' H',N σ' H' → ∃ m',m' < m ∧ W (i + 1) m' σ' H') ∧ ∀ x H',(Itr lo n).yld i H x H' → g x σ H' fun σ2 H2 => tb { D with nx:=N,ct:=N,bk:=D.nx } σ2 H2):=by
 refine ⟨fun i m σ H => m = n - i ∧ i ≤ n ∧ Pv i σ H,⟨n,by simp,Nat.zero_le _,h0⟩,?_⟩
 rintro i m σ H ⟨rfl,hi,p⟩
 by_cases hlt : i < n
 ·refine .inr ⟨hlt,Pv (i + 1),fun σ' H' p' => ⟨n - (i + 1),by omega,rfl,hlt,p'⟩,fun x H' y => ?_⟩
  obtain ⟨e,y⟩:=y
  subst e y
  exact hs i σ _ hlt p
 ·have e : i = n:=by omega
  subst e
  exact .inl ⟨Nat.le_refl _,hd σ H p⟩
theorem zfC {c : TT} {tb : TS} {D : Ends} {σ : St} {H : Hp} (Pv : St → Hp → Prop) (μ : St → Hp → Nat) (h0 : Pv σ H)
  (hs : ∀ σ H,Pv σ H → c σ H fun b H1 => if b = true then tb { D with nx:=fun σ' H' => Pv σ' H' ∧ μ σ' H' < μ σ H,ct:=fun σ' H' => Pv σ' H' ∧ μ σ' H' < μ σ H,bk:=D.nx } σ H1 else D.nx σ H1)
  (mono : ∀ σ H Q Q',(∀ b H1,Q b H1 → Q' b H1) → c σ H Q → c σ H Q') : zfz c tb D σ H:=by
 refine ⟨fun m σ H => m = μ σ H ∧ Pv σ H,⟨_,rfl,h0⟩,?_⟩
 rintro m σ H ⟨rfl,p⟩
 refine mono σ H _ _ (fun b H1 q => ?_) (hs σ H p)
 cases b with
 | true => exact ⟨_,fun σ' H' ⟨p',l⟩ => ⟨_,l,rfl,p'⟩,q⟩
 | false => exact q
end L2
namespace L2
open PySem PySem.Spec PyProof.Rows
abbrev R2:=V → V → Hp → VK → Prop
def OpR (X : Cx) (f : Value → Value → Sem Value) (r : R2) : Prop :=
 ∀ (pins : List (Addr × Obj)) (s : Shared) (σ : St) (H : Hp) (x y : V) (v u : Value) (Q : VK),Inv X pins σ H s → RelV x v → RelV y u → r x y H Q →
  wpAny (model X.prog X.w) X.A (f v u) (EP X pins σ Q) X.xe s
def UnR (X : Cx) (f : Value → Sem Value) (r : V → Hp → VK → Prop) : Prop :=
 ∀ (pins : List (Addr × Obj)) (s : Shared) (σ : St) (H : Hp) (x : V) (v : Value) (Q : VK),Inv X pins σ H s → RelV x v → r x H Q →
  wpAny (model X.prog X.w) X.A (f v) (EP X pins σ Q) X.xe s
def zb4 (X : Cx) (f : Value) (r : List V → Hp → VK → Prop) : Prop :=
 ∀ (pins : List (Addr × Obj)) (s : Shared) (σ : St) (H : Hp) (xs : List V) (us : List Value) (Q : VK),Inv X pins σ H s → zx xs us → r xs H Q →
  wpAny (model X.prog X.w) X.A (call f us) (EP X pins σ Q) X.xe s
def ziN (X : Cx) (r : V → Hp → (Bool → Hp → Prop) → Prop) : Prop :=
 ∀ (pins : List (Addr × Obj)) (s : Shared) (σ : St) (H : Hp) (x : V) (v : Value) (Q : Bool → Hp → Prop),Inv X pins σ H s → RelV x v → r x H Q →
  wpAny (model X.prog X.w) X.A (truthy v) (TP X pins σ Q) X.xe s
def tOp (r : R2) (ta tb : TE) : TE:=fun σ H Q => ta σ H fun x H1 => tb σ H1 fun y H2 => r x y H2 Q
def tUn (r : V → Hp → VK → Prop) (ta : TE) : TE:=fun σ H Q => ta σ H fun x H1 => r x H1 Q
def rI (C : Int → Int → Prop) (g : Int → Int → V) : R2:=fun x y H Q => ∃ i j,x = .int i ∧ y = .int j ∧ C i j ∧ Q (g i j) H
def rI0 (g : Int → Int → V) : R2:=fun x y H Q => ∃ i j,x = .int i ∧ y = .int j ∧ Q (g i j) H
def rU (g : Int → V) : V → Hp → VK → Prop:=fun x H Q => ∃ i,x = .int i ∧ Q (g i) H
section
variable {X : Cx} {a b c : Expr} {ta tb tc : TE} {pos : Pos}
theorem zii (ha : PE X a ta) (hb : PE X b tb) {pins : List (Addr × Obj)} {s : Shared} {σ : St} {H : Hp} {R : V → V → Hp → Prop} (I : Inv X pins σ H s)
  (h : ta σ H fun x H1 => tb σ H1 fun y H2 => R x y H2) {Q : Value → Shared → Prop} {f : Value → Value → Sem Value}
  (hf : ∀ v u s2 x y H2,Inv X pins σ H2 s2 → RelV x v → RelV y u → R x y H2 → wpAny (model X.prog X.w) X.A (f v u) Q X.xe s2) :
  wpAny (model X.prog X.w) X.A (eval a X.env) (fun v s₁ => wpAny (model X.prog X.w) X.A (eval b X.env) (fun u s₂ => wpAny (model X.prog X.w) X.A (f v u) Q X.xe s₂) X.xe s₁) X.xe s:=by
 refine thn (ha pins s σ H _ I h) fun v s1 ⟨x,H1,I1,r1,q1⟩ => ?_
 refine thn (hb pins s1 σ H1 _ I1 q1) fun u s2 ⟨y,H2,I2,r2,q2⟩ => ?_
 exact hf v u s2 x y H2 I2 r1 r2 q2
theorem zh {op : Operator} {r : R2} (ho : OpR X (binaryOp op) r) (ha : PE X a ta) (hb : PE X b tb) : PE X (.BinOp a op b pos) (tOp r ta tb):=by
 intro pins s σ H Q I h
 exact wpAny_BinOp (zii ha hb I h fun v u s2 x y H2 I2 rx ry q => ho pins s2 σ H2 x y v u Q I2 rx ry q)
theorem zha {op : UnaryOp} {r : V → Hp → VK → Prop} (ho : UnR X (unaryOp op) r) (ha : PE X a ta) : PE X (.UnaryOp op a pos) (tUn r ta):=by
 intro pins s σ H Q I h
 exact UnaryOp_ (thn (ha pins s σ H _ I h) fun v s1 ⟨x,H1,I1,r1,q1⟩ => ho pins s1 σ H1 x v Q I1 r1 q1)
theorem opI {f : Value → Value → Sem Value} {C : Int → Int → Prop} {g : Int → Int → Int}
  (rule : ∀ (i j : Int) (t u : Tok) (s : Shared) (Q : Value → Shared → Prop) (E : Value → Shared → Prop),C i j → Q (.int (g i j) s.toks) { s with toks:=s.toks + 1 } → wpAny (model X.prog X.w) X.A (f (.int i t) (.int j u)) Q E s) :
  OpR X f (rI C fun i j => .int (g i j)):=by
 intro pins s σ H x y v u Q I rx ry h
 obtain ⟨i,j,rfl,rfl,hc,q⟩:=h
 obtain ⟨t,rfl⟩:=rx
 obtain ⟨t',rfl⟩:=ry
 exact rule i j t t' s _ _ hc ⟨.int (g i j),H,I.tok _,⟨_,rfl⟩,q⟩
theorem zhw {f : Value → Value → Sem Value} {g : Int → Int → Int}
  (rule : ∀ (i j : Int) (t u : Tok) (s : Shared) (Q : Value → Shared → Prop) (E : Value → Shared → Prop),Q (.int (g i j) s.toks) { s with toks:=s.toks + 1 } → wpAny (model X.prog X.w) X.A (f (.int i t) (.int j u)) Q E s) :
  OpR X f (rI0 fun i j => .int (g i j)):=by
 intro pins s σ H x y v u Q I rx ry h
 obtain ⟨i,j,rfl,rfl,q⟩:=h
 obtain ⟨t,rfl⟩:=rx
 obtain ⟨t',rfl⟩:=ry
 exact rule i j t t' s _ _ ⟨.int (g i j),H,I.tok _,⟨_,rfl⟩,q⟩
theorem zhx {f : Value → Value → Sem Value} {g : Int → Int → Bool}
  (rule : ∀ (i j : Int) (t u : Tok) (s : Shared) (Q : Value → Shared → Prop) (E : Value → Shared → Prop),Q (.bool (g i j)) s → wpAny (model X.prog X.w) X.A (f (.int i t) (.int j u)) Q E s) :
  OpR X f (rI0 fun i j => .bl (g i j)):=by
 intro pins s σ H x y v u Q I rx ry h
 obtain ⟨i,j,rfl,rfl,q⟩:=h
 obtain ⟨t,rfl⟩:=rx
 obtain ⟨t',rfl⟩:=ry
 exact rule i j t t' s _ _ ⟨.bl (g i j),H,I,rfl,q⟩
def zij (i j : Int) : Prop:=0 < j ∧ j < 1073741824
def ziO (i j : Int) : Prop:=0 ≤ j ∧ j ≤ 1000000 ∧ i.natAbs < 2 ^ 64
def zhy (i j : Int) : Prop:=(-(2 ^ 64) < i ∧ i < 2 ^ 64) ∨ (-(2 ^ 64) < j ∧ j < 2 ^ 64)
theorem zhy.ok {i j : Int} (h : zhy i j) : IntMulOk i j:=by
 rcases h with ⟨h1,h2⟩ | ⟨h1,h2⟩
 ·exact .of_left (intBits_le_64 h1 h2)
 ·exact .of_right (intBits_le_64 h1 h2)
theorem zE : OpR X (binaryOp .Add) (rI0 fun i j => .int (i + j)):=zhw fun _ _ _ _ _ _ _ q => add_int q
theorem zbD : OpR X (binaryOp .Sub) (rI0 fun i j => .int (i - j)):=zhw fun _ _ _ _ _ _ _ q => sub_int q
theorem zI : OpR X (binaryOp .Mult) (rI zhy fun i j => .int (i * j)):=opI fun _ _ _ _ _ _ _ hc q => mul_int q hc.ok
theorem zew : OpR X (binaryOp .FloorDiv) (rI zij fun i j => .int (i / j)):=opI fun i j _ _ _ _ _ hc q => by
 have h1 : (0 : Int) < j:=hc.1
 have h2 : j < 1073741824:=hc.2
 exact floordiv_int (by omega) (by rw [Int.fdiv_eq_ediv_of_nonneg i (by omega)]; exact q) (.inl (PyProof.noPylong_small (by omega)))
theorem zy : OpR X (binaryOp .Mod) (rI (fun _ j => 0 < j) fun i j => .int (i % j)):=opI fun i j _ _ _ _ _ hc q => by
 have h1 : (0 : Int) < j:=hc
 exact mod_int' (by omega) (by rw [Int.fmod_eq_emod_of_nonneg i (by omega)]; exact q)
theorem zhz : OpR X (binaryOp .Pow) (rI ziO fun i j => .int (i ^ j.toNat)):=opI fun _ _ _ _ _ _ _ hc q => pow_int_small hc.1 hc.2.1 hc.2.2 q
theorem zgG : OpR X (inplaceOp .Add) (rI0 fun i j => .int (i + j)):=zhw fun _ _ _ _ _ _ _ q => iadd_int q
theorem zfD : OpR X (inplaceOp .FloorDiv) (rI zij fun i j => .int (i / j)):=opI fun i j _ _ _ _ _ hc q => by
 have h1 : (0 : Int) < j:=hc.1
 have h2 : j < 1073741824:=hc.2
 exact ifloordiv_int (by omega) (by rw [Int.fdiv_eq_ediv_of_nonneg i (by omega)]; exact q) (.inl (PyProof.noPylong_small (by omega)))
theorem unI {f : Value → Sem Value} {g : Int → Int}
  (rule : ∀ (i : Int) (t : Tok) (s : Shared) (Q : Value → Shared → Prop) (E : Value → Shared → Prop),Q (.int (g i) s.toks) { s with toks:=s.toks + 1 } → wpAny (model X.prog X.w) X.A (f (.int i t)) Q E s) :
  UnR X f (rU fun i => .int (g i)):=by
 intro pins s σ H x v Q I rx h
 obtain ⟨i,rfl,q⟩:=h
 obtain ⟨t,rfl⟩:=rx
 exact rule i t s _ _ ⟨.int (g i),H,I.tok _,⟨_,rfl⟩,q⟩
theorem zfE : UnR X (unaryOp .USub) (rU fun i => .int (-i)):=unI fun _ _ _ _ _ q => neg_int q
end
def zik : V → V → Bool
 | .non,.non => true | .non,.int _ => true | .int _,.non => true | .non,.bl _ => true | .bl _,.non => true | .non,.str _ => true | .str _,.non => true
 | .int _,.int _ => true | .bl _,.bl _ => true | .str _,.str _ => true | .byt _,.byt _ => true
 | .int _,.str _ => true | .str _,.int _ => true | .bl _,.str _ => true | .str _,.bl _ => true
 | _,_ => false
def rEq : R2:=fun x y H Q => zik x y = true ∧ Q (.bl (decide (x = y))) H
def rNe : R2:=fun x y H Q => zik x y = true ∧ Q (.bl (!decide (x = y))) H
theorem zex {i j : Int} : decide (V.int i = V.int j) = (i == j):=by
 rw [Bool.eq_iff_iff]
 simp
theorem zfF {i j : Bool} : decide (V.bl i = V.bl j) = (i == j):=by
 rw [Bool.eq_iff_iff]
 simp
theorem zey {i j : Str} : decide (V.str i = V.str j) = (i == j):=by
 rw [Bool.eq_iff_iff]
 simp
theorem zez {i j : Array UInt8} : decide (V.byt i = V.byt j) = (i.toList == j.toList):=by
 rw [Bool.eq_iff_iff]
 cases i
 cases j
 simp
section
variable {X : Cx} {a b c : Expr} {ta tb tc : TE} {pos : Pos}
theorem zC {pins : List (Addr × Obj)} {σ : St} {H : Hp} {s : Shared} {Q : VK} {k k' : Bool} (I : Inv X pins σ H s) (q : Q (.bl k) H) (e : k = k') : EP X pins σ Q (.bool k') s:=by
 subst e
 exact ⟨.bl k,H,I,rfl,q⟩
theorem zhb : OpR X (compareOp .Eq) rEq:=by
 intro pins s σ H x y v u Q I rx ry h
 obtain ⟨hs,q⟩:=h
 cases x with
 | non =>
  cases rx
  cases y with
  | non => cases ry; exact PySem.EqNone.eq_none_none (zC I q (by simp))
  | bl j => cases ry; exact PySem.EqNone.eq_none_bool (zC I q (by simp))
  | int j => obtain ⟨t',rfl⟩:=ry; exact PySem.EqNone.eq_none_int (zC I q (by simp))
  | str j => obtain ⟨t',rfl⟩:=ry; exact PySem.EqNone.eq_none_str (zC I q (by simp))
  | _ => exact absurd (show false = true from hs) Bool.false_ne_true
 | bl i =>
  cases rx
  cases y with
  | non => cases ry; exact PySem.EqNone.eq_bool_none (zC I q (by simp))
  | bl j => cases ry; exact eq_bool (zC I q zfF)
  | str j => obtain ⟨t',rfl⟩:=ry; exact PySem.EqMixed.eq_bool_str (zC I q (by simp))
  | _ => exact absurd (show false = true from hs) Bool.false_ne_true
 | int i =>
  obtain ⟨t,rfl⟩:=rx
  cases y with
  | non => cases ry; exact PySem.EqNone.eq_int_none (zC I q (by simp))
  | int j => obtain ⟨t',rfl⟩:=ry; exact eq_int (zC I q zex)
  | str j => obtain ⟨t',rfl⟩:=ry; exact PySem.EqMixed.eq_int_str (zC I q (by simp))
  | _ => exact absurd (show false = true from hs) Bool.false_ne_true
 | str i =>
  obtain ⟨t,rfl⟩:=rx
  cases y with
  | non => cases ry; exact PySem.EqNone.eq_str_none (zC I q (by simp))
  | bl j => cases ry; exact PySem.EqMixed.eq_str_bool (zC I q (by simp))
  | int j => obtain ⟨t',rfl⟩:=ry; exact PySem.EqMixed.eq_str_int (zC I q (by simp))
  | str j => obtain ⟨t',rfl⟩:=ry; exact eq_str (zC I q zey)
  | _ => exact absurd (show false = true from hs) Bool.false_ne_true
 | byt i =>
  obtain ⟨t,rfl⟩:=rx
  cases y with
  | byt j => obtain ⟨t',rfl⟩:=ry; exact PySem.W.eq_bytes (zC I q zez)
  | _ => exact absurd (show false = true from hs) Bool.false_ne_true
 | _ => cases y <;> exact absurd (show false = true from hs) Bool.false_ne_true
theorem zcT : OpR X (compareOp .NotEq) rNe:=by
 intro pins s σ H x y v u Q I rx ry h
 obtain ⟨hs,q⟩:=h
 cases x with
 | non =>
  cases rx
  cases y with
  | non => cases ry; exact PySem.EqNone.ne_none_none (zC I q (by simp))
  | bl j => cases ry; exact PySem.EqNone.ne_none_bool (zC I q (by simp))
  | int j => obtain ⟨t',rfl⟩:=ry; exact PySem.EqNone.ne_none_int (zC I q (by simp))
  | str j => obtain ⟨t',rfl⟩:=ry; exact PySem.EqNone.ne_none_str (zC I q (by simp))
  | _ => exact absurd (show false = true from hs) Bool.false_ne_true
 | bl i =>
  cases rx
  cases y with
  | non => cases ry; exact PySem.EqNone.ne_bool_none (zC I q (by simp))
  | bl j => cases ry; exact ne_bool (zC I q (congrArg not zfF))
  | str j => obtain ⟨t',rfl⟩:=ry; exact PySem.EqMixed.ne_bool_str (zC I q (by simp))
  | _ => exact absurd (show false = true from hs) Bool.false_ne_true
 | int i =>
  obtain ⟨t,rfl⟩:=rx
  cases y with
  | non => cases ry; exact PySem.EqNone.ne_int_none (zC I q (by simp))
  | int j => obtain ⟨t',rfl⟩:=ry; exact ne_int (zC I q (congrArg not zex))
  | str j => obtain ⟨t',rfl⟩:=ry; exact PySem.EqMixed.ne_int_str (zC I q (by simp))
  | _ => exact absurd (show false = true from hs) Bool.false_ne_true
 | str i =>
  obtain ⟨t,rfl⟩:=rx
  cases y with
  | non => cases ry; exact PySem.EqNone.ne_str_none (zC I q (by simp))
  | bl j => cases ry; exact PySem.EqMixed.ne_str_bool (zC I q (by simp))
  | int j => obtain ⟨t',rfl⟩:=ry; exact PySem.EqMixed.ne_str_int (zC I q (by simp))
  | str j => obtain ⟨t',rfl⟩:=ry; exact ne_str (zC I q (congrArg not zey))
  | _ => exact absurd (show false = true from hs) Bool.false_ne_true
 | byt i =>
  obtain ⟨t,rfl⟩:=rx
  cases y with
  | byt j => obtain ⟨t',rfl⟩:=ry; exact PySem.W.ne_bytes (zC I q (congrArg not zez))
  | _ => exact absurd (show false = true from hs) Bool.false_ne_true
 | _ => cases y <;> exact absurd (show false = true from hs) Bool.false_ne_true
theorem zil : OpR X (compareOp .Lt) (rI0 fun i j => .bl (decide (i < j))):=zhx fun _ _ _ _ _ _ _ q => lt_int q
theorem zhc : OpR X (compareOp .Gt) (rI0 fun i j => .bl (decide (j < i))):=zhx fun _ _ _ _ _ _ _ q => gt_int q
theorem zim : OpR X (compareOp .GtE) (rI0 fun i j => .bl (decide (j ≤ i))):=zhx fun _ _ _ _ _ _ _ q => ge_int q
theorem zhA : OpR X (compareOp .Is) (fun x y H Q => y = .non ∧ Q (.bl (decide (x = .non))) H):=by
 intro pins s σ H x y v u Q I rx ry h
 obtain ⟨rfl,q⟩:=h
 cases ry
 refine is_none_gen (zC I q ?_)
 cases x <;> first
  | (cases rx; rfl)
  | (obtain ⟨t,rfl⟩:=rx; rfl)
theorem zgH : OpR X (compareOp .IsNot) (fun x y H Q => y = .non ∧ Q (.bl (!decide (x = .non))) H):=by
 intro pins s σ H x y v u Q I rx ry h
 obtain ⟨rfl,q⟩:=h
 cases ry
 refine isnot_none_gen (zC I q ?_)
 cases x <;> first
  | (cases rx; rfl)
  | (obtain ⟨t,rfl⟩:=rx; rfl)
theorem zak (b : Expr) {op : CmpOp} (h : op ≠ .In:=by decide) (h2 : op ≠ .NotIn:=by decide) : behindInMarks op b = false:=by
 have e1 : (op == CmpOp.In) = false:=by cases op <;> first | rfl | exact absurd rfl h
 have e2 : (op == CmpOp.NotIn) = false:=by cases op <;> first | rfl | exact absurd rfl h2
 cases b <;> simp [behindInMarks,e1,e2]
def zin (t : TE) : TT:=fun σ H Q => t σ H fun x H' => ∃ k,x = .bl k ∧ Q k H'
theorem zV {op : CmpOp} {r : R2} (ho : OpR X (compareOp op) r) (ha : PE X a ta) (hb : PE X b tb) (hm : behindInMarks op b = false) : PT X (.Compare a [op] [b] pos) (zin (tOp r ta tb)):=by
 intro pins s σ H Q I h
 refine wpAny_isTrue_Compare1 (thn (ha pins s σ H _ I h) fun v s1 ⟨x,H1,I1,r1,q1⟩ => thn (hb pins s1 σ H1 _ I1 q1) fun u s2 ⟨y,H2,I2,r2,q2⟩ =>
  thn (ho pins s2 σ H2 x y v u _ I2 r1 r2 q2) fun c s3 ⟨z,H3,I3,r3,k,e,q3⟩ => ?_) hm
 subst e
 cases r3
 exact wpAny_truthy_bool ⟨H3,I3,q3⟩
def zio (K : PySem.W.Frag) (x : V) (H : Hp) (k : Bool) : Prop :=
 match x with
 | .non => k = false
 | .bl b => k = b
 | .int i => k = (i != 0)
 | .str y => y.length ≤ sizeLine ∧ k = ((y.length : Int) != 0)
 | .byt y => y.size ≤ sizeLine ∧ k = ((y.size : Int) != 0)
 | .ref p => (∃ xs,SqL K H p xs ∧ k = !xs.isEmpty) ∨ (∃ xs,SqT K H p xs ∧ k = !xs.isEmpty) ∨ ∃ kvs,H p = some (.dK kvs) ∧ k = !kvs.isEmpty
 | _ => False
theorem zd7 {κ : Type} {kvs : List (κ × V)} {vs : List (κ × Value)} (r : KV kvs vs) : (!vs.isEmpty) = !kvs.isEmpty:=by
 cases r <;> rfl
theorem zcl {xs : List V} {its : List Value} (r : zx xs its) : (!its.toArray.isEmpty) = !xs.isEmpty:=by
 cases r <;> simp
theorem zcm : (sizeLine : Nat) < 2 ^ 63:=by rw [sizeLine_eq]; decide
theorem zhB : ziN X (fun x H Q => ∃ k,zio X.K x H k ∧ Q k H):=by
 intro pins s σ H x v Q I rx h
 obtain ⟨k,e,q⟩:=h
 have hl:=zcm
 have hs : sizeLine = 16777216:=sizeLine_eq
 cases x with
 | non =>
  cases rx
  have e' : k = false:=e
  subst e'
  exact truthy_none ⟨H,I,q⟩
 | bl b =>
  cases rx
  have e' : k = b:=e
  subst e'
  exact wpAny_truthy_bool ⟨H,I,q⟩
 | int i =>
  obtain ⟨t,rfl⟩:=rx
  have e' : k = (i != 0):=e
  subst e'
  exact PySem.P.truthy_int ⟨H,I,q⟩
 | str y =>
  obtain ⟨t,rfl⟩:=rx
  obtain ⟨hy,e'⟩ : y.length ≤ sizeLine ∧ k = ((y.length : Int) != 0):=e
  subst e'
  exact PySem.P.truthy_str (by omega) ⟨H,I.tok _,q⟩
 | byt y =>
  obtain ⟨t,rfl⟩:=rx
  obtain ⟨hy,e'⟩ : y.size ≤ sizeLine ∧ k = ((y.size : Int) != 0):=e
  subst e'
  exact PySem.W.truthy_bytes (by omega) ⟨H,I.tok _,q⟩
 | ref p =>
  cases rx
  have e' : (∃ xs,SqL X.K H p xs ∧ k = !xs.isEmpty) ∨ (∃ xs,SqT X.K H p xs ∧ k = !xs.isEmpty) ∨ ∃ kvs,H p = some (.dK kvs) ∧ k = !kvs.isEmpty:=e
  rcases e' with ⟨xs,hx,e'⟩ | ⟨xs,hx,e'⟩ | ⟨kvs,hx,e'⟩
  ·subst e'
   obtain ⟨its,r,pl,hz⟩:=I.list hx
   have hlen:=r.length
   exact wpAny_truthy_list pl.isList (by simp only [List.size_toArray]; omega) ⟨H,I.tok _,by rw [zcl r]; exact q⟩
  ·subst e'
   obtain ⟨its,r,pl,hz⟩:=I.tuple hx
   have hlen:=r.length
   exact truthy_tuple pl (by simp only [List.size_toArray]; omega) ⟨H,I.tok _,by rw [zcl r]; exact q⟩
  ·subst e'
   obtain ⟨hz,hS,vs,r,m⟩ : kvs.length ≤ sizeLine ∧ (p == sysModules) = false ∧ ∃ vs,KV kvs vs ∧ s.heap.DictOf (zdf X.prog X.w) p vs:=I.hok p _ hx
   have hlen : kvs.length = vs.length:=Paired.length r
   exact wpAny_truthy_dict hS m (by omega) ⟨H,I.tok _,by rw [zd7 r]; exact q⟩
 | _ => exact (show False from e).elim
theorem zfG (ha : PE X a ta) (he : ∀ whole,isTrue a X.env whole = (do let v ← whole; standAt a.pos; holding [v] (truthy v))) :
  PT X a (fun σ H Q => ta σ H fun x H' => ∃ k,zio X.K x H' k ∧ Q k H'):=by
 intro pins s σ H Q I h
 exact isTrue_plain (thn (ha pins s σ H _ I h) fun v s1 ⟨x,H1,I1,r1,q1⟩ => zhB pins s1 σ H1 x v Q I1 r1 q1) (he _)
theorem vals1 {x : V} {us : List Value} (r : zx [x] us) : ∃ u,us = [u] ∧ RelV x u:=by
 cases r with
 | cons r1 r2 => cases r2; exact ⟨_,rfl,r1⟩
theorem vals2 {x y : V} {us : List Value} (r : zx [x,y] us) : ∃ u w',us = [u,w'] ∧ RelV x u ∧ RelV y w':=by
 cases r with
 | cons r1 r2 =>
  cases r2 with
  | cons r3 r4 => cases r4; exact ⟨_,_,rfl,r1,r3⟩
theorem zcU (hc : X.calm = true) : zb4 X (.builtin "min") (fun xs H Q => ∃ i j,xs = [.int i,.int j] ∧ Q (.int (if j < i then j else i)) H):=by
 intro pins s σ H xs us Q I r h
 obtain ⟨i,j,rfl,q⟩:=h
 obtain ⟨u,w',rfl,⟨t,rfl⟩,⟨t',rfl⟩⟩:=vals2 r
 refine min_two_ints (I.ok.hd hc) fun h' tk k => ⟨_,H,I.kept k,?_,q⟩
 by_cases hj : j < i
 ·rw [if_pos hj,if_pos hj]; exact ⟨_,rfl⟩
 ·rw [if_neg hj,if_neg hj]; exact ⟨_,rfl⟩
end
end L2
namespace L2
open PySem PySem.Spec PyProof.Rows
section
variable {prog : Program} {w : World} {A : Around} {E : Value → Shared → Prop} {s : Shared} {K : PySem.W.Frag} {x dx C f : Addr} {mA : Str → Option Value} {name : Str} {v : Value}
end
section
variable {P : Program} {w : World} {H H' : Hp} {h h' : Heap} {a C dx : Addr} {fs fs' : List (Str × V)}
end
section
variable {X : Cx} {pins : List (Addr × Obj)} {σ : St} {H : Hp} {s : Shared} {a C dx : Addr} {fs : List (Str × V)} {f : Str} {v : V} {A : Around} {E : Value → Shared → Prop}
end
section
variable {X : Cx} {o e value : Expr} {f : Str} {pos pos' tpos : Pos} {ta tv : TE}
end
section
variable {X : Cx} {pins : List (Addr × Obj)} {σ : St} {H : Hp} {s : Shared} {A : Around} {E : Value → Shared → Prop} {Q : Value → Shared → Prop} {c : Value} {b : Bool}
end
end L2
namespace L2
open PySem PySem.Spec PyProof.Rows
structure Room (k : Nat) (A : Around) : Prop where
 hd : A.handled = none
 dp : A.depth + 3 * k + 5 < recursionLimit
 un : A.units + 16 * k + 200 < cLine
theorem Room.mono {j k : Nat} {A : Around} (r : Room k A) (h : j ≤ k) : Room j A:=⟨r.hd,by have:=r.dp; omega,by have:=r.un; omega⟩
theorem Room.deeper {k : Nat} {A : Around} (r : Room (k + 1) A) (env : Env) : Room k (A.deeper env) :=
 ⟨r.hd,by have:=r.dp; show A.depth + 1 + 3 * k + 5 < _; omega,by have:=r.un; show A.units + 3 + 16 * k + 200 < _; omega⟩
theorem Room.depth {k : Nat} {A : Around} (r : Room k A) : A.depth < recursionLimit:=by have:=r.dp; omega
def ziP : TA:=fun _ H Q => Q [] H
def zhd (ta : TE) (tr : TA) : TA:=fun σ H Q => ta σ H fun x H1 => tr σ H1 fun xs H2 => Q (x :: xs) H2
section
variable {X : Cx} {e : Expr} {es : List Expr} {te : TE} {t : TA} {pos : Pos}
theorem zf : PA X [] ziP:=fun _ _ _ _ H Q I h => Calls.spliced_nil ⟨[],H,I,.nil,h⟩
theorem za (ha : PE X e te) (hr : PA X es t) (hs : starEach (e :: es) X.env = (false,eval e X.env) :: starEach es X.env:=by rfl) : PA X (e :: es) (zhd te t):=by
 intro pos pins s σ H Q I h
 rw [hs]
 show wpAny _ _ (spliced ((false,eval e X.env) :: backTo pos (starEach es X.env))) _ _ s
 refine Calls.spliced_cons (thn (ha pins s σ H _ I h) fun u s1 ⟨x,H1,I1,r1,q1⟩ => ?_)
 exact thn (hr pos pins s1 σ H1 _ I1 q1) fun us s2 ⟨xs,H2,I2,r2,q2⟩ => ⟨x :: xs,H2,I2,.cons r1 r2,q2⟩
def ziQ (t : TA) : TE:=fun σ H Q => t σ H fun xs H1 => xs.length ≤ sizeLine ∧ ∀ p,H1 p = none → Q (.ref p) (upd H1 p (.tup xs))
def zgI (t : TA) : TE:=fun σ H Q => t σ H fun xs H1 => xs.length ≤ sizeLine ∧ ∀ p,H1 p = none → Q (.ref p) (upd H1 p (.lst xs))
theorem zaJ {x1} (h : PA X es t) : PE X (.Tuple es x1 pos) (ziQ t):=by
 intro pins s σ H Q I hq
 refine wpAny_Tuple_spliced (thn (h pos pins s σ H _ I hq) fun us s1 ⟨xs,H1,I1,r,z,q⟩ => ⟨by rw [← r.length]; exact z,?_⟩)
 have hf : H1 s1.heap.objs.size = none:=I1.hok.fresh (Nat.le_refl _)
 refine ⟨.ref s1.heap.objs.size,upd H1 s1.heap.objs.size (.tup xs),I1.laid (t':=s1.toks) (fun b u e => Heap.get?_push_of_some _ e) (Nat.le_refl _) ?_,rfl,q _ hf⟩
 exact ⟨z,us,r,⟨_,Heap.get?_push_size _ rfl,rfl,_,rfl⟩⟩
theorem zav (h : PA X es t) : PE X (.List es pos) (zgI t):=by
 intro pins s σ H Q I hq
 refine wpAny_List_spliced (thn (h pos pins s σ H _ I hq) fun us s1 ⟨xs,H1,I1,r,z,q⟩ => ⟨by rw [← r.length]; exact z,?_⟩)
 have hf : H1 s1.heap.objs.size = none:=I1.hok.fresh (Nat.le_refl _)
 refine ⟨.ref s1.heap.objs.size,upd H1 s1.heap.objs.size (.lst xs),I1.laid (t':=s1.toks) (fun b u e => Heap.get?_push_of_some _ e) (Nat.le_refl _) ?_,rfl,q _ hf⟩
 exact ⟨z,us,0,r,Heap.get?_push_size _ rfl⟩
end
abbrev Sp:=List V → Hp → VK → XK → Prop
abbrev CXT:=List Env → Hp → Shared → XK → Value → Shared → Prop
structure Env0 (P : Program) (w : World) (K : PySem.W.Frag) (mg : Str → Option Value) (base : Heap) (A : Around) (outer : List Env) (s : Shared) (H : Hp) : Prop where
 frames : A.frames = some outer
 mod : Mod K mg base
 bs : ∀ b o,base.get? b = some o → s.heap.get? b = some o ∧ H b = none
 bsz : base.objs.size ≤ s.heap.objs.size
 funs : s.heap.FunFrames base outer
 frf : ∀ b ∈ frs outer,H b = none
 hok : HOk P w H s.heap
 bare : AllBare s.gens
def CE (outer : List Env) (P : Program) (w : World) (H : Hp) (s : Shared) (Q : VK) (u : Value) (s' : Shared) : Prop :=
 ∃ v H',s'.os = s.os ∧ AllBare s'.gens ∧ Un (frs outer) [] H H' s.heap s'.heap ∧ HOk P w H' s'.heap ∧ RelV v u ∧ Q v H'
def CR (CX : CXT) (outer : List Env) (P : Program) (w : World) (H : Hp) (s : Shared) (Q : VK) (E : XK) (r : Result) (s' : Shared) : Prop :=
 match r with
 | .ok (.ret u) => CE outer P w H s Q u s'
 | .ok _ => False
 | .error e => CX outer H s E e s'
structure FnOk (P : Program) (w : World) (K : PySem.W.Frag) (mg : Str → Option Value) (base : Heap) (CX : CXT) (k : Nat) (f : Addr) (fd : FuncData) (ps : List Str) (sp : Sp) : Prop where
 len : ∀ vs H Q E,sp vs H Q E → vs.length = ps.length
 run : ∀ (A : Around) (outer : List Env) (s : Shared) (H : Hp) (args : Args) (us : List Value) (vs : List V) (Q : VK) (E : XK),Room k A → Env0 P w K mg base A outer s H → BindsTo s fd args (ps.zip us) → zx vs us → sp vs H Q E →
  codeAny (model P w) A (.call (.ref f) args) (CR CX outer P w H s Q E) s
section
variable {X : Cx} {pins : List (Addr × Obj)} {σ : St} {H : Hp} {s s' : Shared}
theorem Inv.env0 (I : Inv X pins σ H s) : Env0 X.prog X.w X.K X.mg X.base X.A X.stack s H :=
 ⟨I.ok.frames,I.ok.mod,I.bs,Nat.le_trans I.ok.bsz I.sz,I.stack,I.stkFree,I.hok,I.bare⟩
theorem Inv.after {Q : VK} {u : Value} (I : Inv X pins σ H s) (h : CE X.stack X.prog X.w H s Q u s') : EP X pins σ Q u s':=by
 obtain ⟨v,H',os,bare,un,hok,r,q⟩:=h
 obtain ⟨hh,g,d,t,os'⟩:=s'
 obtain rfl : os' = s.os:=os
 exact ⟨v,H',I.call (h':=hh) (g':=g) (d':=d) (t':=t) (ch:=[]) un hok bare (fun b z => absurd z (by simp)),r,q⟩
end
def ziq (sp : Sp) (dvs : List V) (E : XK) (t : TA) : TE:=fun σ H Q => t σ H fun vs H1 => sp (vs ++ dvs) H1 Q E
def Binds (K : PySem.W.Frag) (fd : FuncData) (ps : List Str) (ds : List Value) : Prop :=
 ∀ (s : Shared) (us : List Value),K.In s.heap → (us ++ ds).length = ps.length → BindsTo s fd ⟨us,[]⟩ (ps.zip (us ++ ds))
theorem Binds.all {K : PySem.W.Frag} {fd : FuncData} {ps : List Str} (h : ∀ us : List Value,us.length = ps.length → bindArgs fd ⟨us,[]⟩ = pure (ps.zip us)) : Binds K fd ps []:=fun s us _ hl => by
 rw [List.append_nil] at hl ⊢
 exact .of_eq (h us hl)
def zd8 (CX : CXT) (X : Cx) (E : XK) : Prop:=∀ (pins : List (Addr × Obj)) (σ : St) (H : Hp) (s : Shared) (e : Value) (s' : Shared),Inv X pins σ H s → CX X.stack H s E e s' → X.xe e s'
section
variable {X : Cx} {CX : CXT} {k : Nat} {f C : Addr} {fd : FuncData} {ps : List Str} {sp : Sp} {dvs : List V} {ds : List Value} {E : XK} {x m : Str} {p pos apos : Pos} {e o : Expr} {es : List Expr} {ta : TE} {t : TA}
theorem zhC {pins : List (Addr × Obj)} {σ : St} {H : Hp} {s : Shared} {Q : VK} {us : List Value} {vs : List V} (F : FnOk X.prog X.w X.K X.mg X.base CX k f fd ps sp) (hr : Room k X.A) (hb : Binds X.K fd ps ds) (hd : zx dvs ds) (hx : zd8 CX X E)
  (I : Inv X pins σ H s) (r : zx vs us) (h : sp (vs ++ dvs) H Q E) : wpAny (model X.prog X.w) X.A (call (.ref f) us) (EP X pins σ Q) X.xe s:=by
 have r2 : zx (vs ++ dvs) (us ++ ds):=r.append hd
 have hl : (us ++ ds).length = ps.length:=by rw [← r2.length]; exact F.len _ _ _ _ h
 refine wpAny_call (codeAny_mono (F.run X.A X.stack s H ⟨us,[]⟩ (us ++ ds) (vs ++ dvs) Q E hr I.env0 (hb s us I.kIn hl) r2 h) fun r s' hq => ?_)
 cases r with
 | error e => exact hx pins σ H s e s' I hq
 | ok fl =>
  cases fl with
  | ret u => exact I.after hq
  | next => exact False.elim hq
  | brk => exact False.elim hq
  | cont => exact False.elim hq
theorem zt (F : FnOk X.prog X.w X.K X.mg X.base CX k f fd ps sp) (hr : Room k X.A) (hg : Gl X x) (hm : X.mg x = some (.ref f)) (hk : PySem.W.keepIn X.K (.ref f) = true) (hb : Binds X.K fd ps ds) (hd : zx dvs ds) (hx : zd8 CX X E)
  (ha : PA X (e :: es) t) (hdb : (x == ("__debug__" : Str)) = false:=by decide) (he : starEach (e :: es) X.env = (false,eval e X.env) :: starEach es X.env:=by rfl) (hpl : (backTo pos (starEach es X.env)).any (·.1) = false:=by rfl) :
  PE X (.Call (.Name x p) (e :: es) [] pos) (ziq sp dvs E t):=by
 intro pins s σ H Q I h
 refine wpAny_Call_Name_kw (zgC I hg hm ?_ hdb)
 refine PySem.W.callWith_K (h₀:=X.base) I.ok.mod.kin hk (thn (ha pos pins s σ H _ I h) fun us s1 ⟨vs,H1,I1,r,q⟩ => ⟨I1.kIn,?_⟩) he hpl
 exact zhC F hr hb hd hx I1 r q
end
section
variable {X : Cx} {CX : CXT} {k : Nat} {f C : Addr} {fd : FuncData} {ps ks : List Str} {sp : Sp} {E : XK} {x m : Str} {p pos apos kpos : Pos} {e o : Expr} {es : List Expr} {kws : List Keyword} {te ta : TE} {t tk : TA} {nm : Option Str}
variable {g : List Value → List Value → List Value} {gV : List V → List V → List V}
end
structure FnScope (N P : List Str) (sc : Scope) : Prop where
 kind : sc.kind = .function
 co : sc.isCoroutine = false
 gen : sc.isGenerator = false
 nd : N.Nodup
 pre : N.take P.length = P
 par : ∀ x ∈ P,sc.names.lookup x = some .local ∨ sc.names.lookup x = some .cell
 nofree : ∀ y ∈ sc.names,y.2 ≠ .free
theorem zcV {kindOf : Str → Option NameKind} {x : Str} : ∀ {binds : List (Str × Value)} {m : Str → Option Value},(∀ v,(x,v) ∉ binds) → bindL kindOf binds m x = m x
 | [],_,_ => rfl
 | (n,v) :: r,m,h => by
  unfold bindL
  rw [zcV fun w hw => h w (List.mem_cons_of_mem _ hw)]
  split
  ·have : x ≠ n:=by rintro rfl; exact h v List.mem_cons_self
   simp [this]
  ·rfl
theorem zcW {kindOf : Str → Option NameKind} {x : Str} : ∀ {binds : List (Str × Value)} {m : Str → Option Value},(∀ v,(x,v) ∉ binds) → bindC kindOf binds m x = m x
 | [],_,_ => rfl
 | (n,v) :: r,m,h => by
  unfold bindC
  rw [zcW fun w hw => h w (List.mem_cons_of_mem _ hw)]
  split
  ·rfl
  ·have : x ≠ n:=by rintro rfl; exact h v List.mem_cons_self
   simp [this]
theorem zcX {kindOf : Str → Option NameKind} {x : Str} {v : Value} : ∀ {P : List Str} {vs : List Value} {i : Nat} {m : Str → Option Value},P.Nodup → P[i]? = some x → vs[i]? = some v → kindOf x = some .local →
  bindL kindOf (P.zip vs) m x = some v
 | [],_,_,_,_,h,_,_ => by simp at h
 | _ :: _,[],_,_,_,_,h,_ => by simp at h
 | p :: P,w :: vs,0,m,nd,h1,h2,hk => by
  simp at h1 h2; subst h1; subst h2
  show bindL kindOf ((p,w) :: P.zip vs) m p = _
  unfold bindL
  rw [zcV fun v hv => (List.nodup_cons.mp nd).1 (List.of_mem_zip hv).1,if_pos hk]
  simp
 | p :: P,w :: vs,i + 1,m,nd,h1,h2,hk => by
  show bindL kindOf ((p,w) :: P.zip vs) m x = _
  unfold bindL
  exact zcX (i:=i) (List.nodup_cons.mp nd).2 (by simpa using h1) (by simpa using h2) hk
theorem zcY {kindOf : Str → Option NameKind} {x : Str} {v : Value} : ∀ {P : List Str} {vs : List Value} {i : Nat} {m : Str → Option Value},P.Nodup → P[i]? = some x → vs[i]? = some v → kindOf x ≠ some .local →
  bindC kindOf (P.zip vs) m x = some v
 | [],_,_,_,_,h,_,_ => by simp at h
 | _ :: _,[],_,_,_,_,h,_ => by simp at h
 | p :: P,w :: vs,0,m,nd,h1,h2,hk => by
  simp at h1 h2; subst h1; subst h2
  show bindC kindOf ((p,w) :: P.zip vs) m p = _
  unfold bindC
  rw [zcW fun v hv => (List.nodup_cons.mp nd).1 (List.of_mem_zip hv).1,if_neg hk]
  simp
 | p :: P,w :: vs,i + 1,m,nd,h1,h2,hk => by
  show bindC kindOf ((p,w) :: P.zip vs) m x = _
  unfold bindC
  exact zcY (i:=i) (List.nodup_cons.mp nd).2 (by simpa using h1) (by simpa using h2) hk
def start (N : List Str) (vs : List V) : St:=vs.map some ++ List.replicate (N.length - vs.length) none
def ze5 (CX : CXT) (P : Program) (w : World) (K : PySem.W.Frag) (mg : Str → Option Value) (base : Heap) (N : List Str) (qual : Str) (scope : Scope) (f : Addr) (cd : Value) (A : Around) (outer : List Env) (s : Shared) (H : Hp) (E : XK) : Cx where
 prog:=P
 w:=w
 K:=K
 mg:=mg
 base:=base
 A:=A.deeper (envOfC qual scope s.heap.objs.size f cd)
 N:=N
 s₀:=s
 H₀:=H
 env:=envOfC qual scope s.heap.objs.size f cd
 outer:=outer
 stack:=envOfC qual scope s.heap.objs.size f cd :: outer
 ex:=[]
 calm:=true
 fn:=fun _ => true
 pn:=[]
 xe:=fun e s' => wpAny (model P w) (A.deeper (envOfC qual scope s.heap.objs.size f cd)) (leaving (envOfC qual scope s.heap.objs.size f cd) e) (fun _ s'' => CX outer H s E e s'') (fun e' s'' => CX outer H s E e' s'') s'
theorem zdF {sc : Scope} {n : Nat} {x : Str} (h : sc.names.lookup x = some .cell) : ∃ c,(cellsFrom n sc.names []).lookup x = some c:=by
 have q:=PySem.W.cellsFrom_some sc.names n [] (.inl h)
 exact Option.isSome_iff_exists.mp q
theorem ze6 {CX : CXT} {P : Program} {w : World} {K : PySem.W.Frag} {mg : Str → Option Value} {base : Heap} {N ps : List Str} {qual : Str} {scope : Scope} {f : Addr} {cd : Value} {A : Around} {outer : List Env} {s s1 : Shared} {H : Hp} {E : XK} {us : List Value} {vs : List V}
  (S : FnScope N ps scope) (hd : A.handled = none) (e0 : Env0 P w K mg base A outer s H) (hl : vs.length = ps.length) (r : zx vs us)
  (x : InCallC s s.heap.objs.size (bindL (envOfC qual scope s.heap.objs.size f cd).kindOf (ps.zip us) fun _ => none) (cellsFrom (s.heap.objs.size + 1) scope.names []) (bindC (envOfC qual scope s.heap.objs.size f cd).kindOf (ps.zip us) fun _ => none) s1) :
  Inv (ze5 CX P w K mg base N qual scope f cd A outer s H E) [] (start N vs) H s1:=by
 have hpl : ps.length ≤ N.length:=by have:=congrArg List.length S.pre; rw [List.length_take] at this; omega
 obtain ⟨h1,tk,rfl,hk⟩:=x.done
 have noA : ∀ b : Addr,b ∉ (ze5 CX P w K mg base N qual scope f cd A outer s H E).ex:=fun b z => absurd (show b ∈ ([] : List Addr) from z) (by simp)
 refine ⟨⟨e0.mod,S.kind,rfl,rfl,Nat.le_refl _,fun y z c h1 h2 => ?_,fun y hy => ?_,fun y c _ h => ?_,fun _ => hd,Around.frames_deeper e0.frames,.inr ⟨rfl,rfl⟩,fun b z => absurd z (noA b),e0.bs,e0.bsz,fun b _ _ => noA b,fun b z => absurd z (noA b),e0.funs,e0.frf⟩,
  rfl,e0.bare,Un.kept hk,⟨_,x.toInCall.ns,fun i y v h1 h2 h3 => ?_⟩,fun y c h => ⟨_,x.cell y c h⟩,e0.hok.fresh (Nat.le_refl _),fun y c h => ?_,fun p hp => absurd (show p ∈ ([] : List (Addr × Obj)) from hp) (by simp),e0.hok.kept hk,?_⟩
 ·exact name_of_addr x.apart (PySem.mem_of_lookup h1) (PySem.mem_of_lookup h2)
 ·have hy : scope.names.lookup y = some .cell ∨ scope.names.lookup y = some .free:=hy
  rcases hy with hy | hy
  ·exact zdF hy
  ·exact absurd rfl (S.nofree _ (PySem.mem_of_lookup hy))
 ·exact Nat.le_of_lt (x.above y c (PySem.mem_of_lookup h))
 ·have hi : i < vs.length:=by
   unfold start at h2
   by_cases hi : i < vs.length
   ·exact hi
   ·rw [List.getElem?_append_right (by simpa using hi)] at h2
    rw [List.getElem?_replicate] at h2
    split at h2 <;> cases h2
  have ha : vs[i]? = some v:=by
   unfold start at h2
   rw [List.getElem?_append_left (by simpa using hi),List.getElem?_map] at h2
   cases e : vs[i]? with
   | none => rw [e] at h2; cases h2
   | some a => rw [e] at h2; cases h2; rfl
  obtain ⟨u,hu,rv⟩:=r.get ha
  have hp : ps[i]? = some y:=by
   rw [← S.pre,List.getElem?_take_of_lt (by omega)]; exact h1
  have ndP : ps.Nodup:=by rw [← S.pre]; exact S.nd.sublist (List.take_sublist _ _)
  refine ⟨u,rv,?_⟩
  rcases S.par y (List.mem_of_getElem? hp) with k | k
  ·exact .inl ⟨k,zcX ndP hp hu k⟩
  ·obtain ⟨c,e⟩:=zdF (n:=s.heap.objs.size + 1) k
   refine .inr ⟨.inl k,c,e,?_⟩
   have q:=x.cell y c e
   rw [zcY ndP hp hu (by show scope.names.lookup y ≠ _; rw [k]; decide)] at q
   exact q
 ·exact e0.hok.fresh (Nat.le_of_lt (x.above y c (PySem.mem_of_lookup h)))
 ·unfold start
  show _ = N.length
  rw [List.length_append,List.length_map,List.length_replicate]
  omega
theorem zir {CX : CXT} {P : Program} {w : World} {K : PySem.W.Frag} {mg : Str → Option Value} {base : Heap} {k : Nat} {f : Addr} {name qual : Str} {params : Arguments} {body : List Stmt} {scope : Scope} {dV kV doc pm cdv ct oc : Value} {an od : Option Addr}
  {osl : Array (Option Value)} {N ps : List Str} {sp : Sp} (lk : K.lookup f = some ⟨oc,od,.func (PySem.W.fnOf name qual params body scope dV kV doc pm an cdv ct),osl⟩) (hcd : PySem.W.codeIn K cdv qual = true) (S : FnScope N ps scope)
  (len : ∀ vs H Q E,sp vs H Q E → vs.length = ps.length)
  (hbody : ∀ (A : Around) (outer : List Env) (s : Shared) (H : Hp) (vs : List V) (Q : VK) (E : XK),Room k (A.deeper (envOfC qual scope s.heap.objs.size f cdv)) → sp vs H Q E →
   ∃ t,PSs (ze5 CX P w K mg base N qual scope f cdv A outer s H E) body t ∧ t { nx:=fun _ H' => Q .non H',rt:=Q } (start N vs) H) :
  FnOk P w K mg base CX (k + 1) f (PySem.W.fnOf name qual params body scope dV kV doc pm an cdv ct) ps sp:=by
 refine ⟨len,fun A outer s H args us vs Q E hr e0 hb r hsp => ?_⟩
 have hl:=len _ _ _ _ hsp
 have KX : K.In s.heap:=e0.mod.kin.keeps fun b o e => (e0.bs b o e).1
 have lim : s.heap.NoLimit:=e0.mod.nolimit.keeps fun b o e => (e0.bs b o e).1
 have hkind : ∀ y ∈ ps.zip us,scope.names.lookup y.1 = some .local ∨ (scope.names.lookup y.1 = some .cell ∧ ((cellsFrom (s.heap.objs.size + 1) scope.names []).lookup y.1).isSome = true):=fun ⟨n,v⟩ hy => by
  rcases S.par n (List.of_mem_zip hy).1 with q | q
  ·exact .inl q
  ·exact .inr ⟨q,PySem.W.cellsFrom_some _ _ _ (.inl q)⟩
 refine codeAny_call_function hr.depth (KX _ _ lk) rfl S.co S.gen rfl (PySem.W.codeRec_of KX hcd) (hb _ _ _ _ ?_)
 refine wpAny_newFunctionEnv_cells S.kind hkind fun env he s1 x => ?_
 subst he
 refine ⟨lim.keeps x.toInCall.keep,codeAny_func ?_⟩
 obtain ⟨t,ht,hq⟩:=hbody A outer s H vs Q E (hr.deeper _) hsp
 have I : Inv (ze5 CX P w K mg base N qual scope f cdv A outer s H E) [] (start N vs) H s1:=ze6 S hr.hd e0 hl r x
 refine wpAny_mono (ht [] s1 (start N vs) H _ I hq) (fun fl s' hs => ?_) fun e s' hs => hs
 have fin : ∀ {σ' : St} {H' : Hp} {v : V} {u : Value},Inv (ze5 CX P w K mg base N qual scope f cdv A outer s H E) [] σ' H' s' → RelV v u → Q v H' → CE outer P w H s Q u s' :=
  fun {σ' H' v u} J rv q => ⟨v,H',J.os,J.bare,J.base,J.hok,rv,q⟩
 cases fl with
 | ret u =>
  obtain ⟨v,σ',H',J,rv,q⟩:=hs
  exact fin J rv q
 | next =>
  obtain ⟨σ',H',J,q⟩:=hs
  exact fin (v:=V.non) (u:=Value.none) J rfl q
 | brk =>
  obtain ⟨_,_,_,q⟩:=hs
  exact False.elim q
 | cont =>
  obtain ⟨_,_,_,q⟩:=hs
  exact False.elim q
end L2
namespace L2
open PySem PySem.Spec PyProof.Rows
section
variable {X : Cx} {x : Str} {p pos : Pos} {e : Expr} {es : List Expr} {t : TA} {id T : String} {r : List V → Hp → VK → Prop}
def tCB (r : List V → Hp → VK → Prop) (t : TA) : TE:=fun σ H Q => t σ H fun vs H1 => r vs H1 Q
theorem zK (hc : zb4 X (.builtin id) r) (hg : Gl X x) (hm : X.mg x = none) (hv : bootBuiltins x = some (.builtin id)) (ha : PA X (e :: es) t) (hn : x ≠ "__name__":=by decide) (hdb : (x == ("__debug__" : Str)) = false:=by decide)
  (he : starEach (e :: es) X.env = (false,eval e X.env) :: starEach es X.env:=by rfl) (hpl : (backTo pos (starEach es X.env)).any (·.1) = false:=by rfl) : PE X (.Call (.Name x p) (e :: es) [] pos) (tCB r t):=by
 intro pins s σ H Q I h
 refine wpAny_Call_Name_kw (zbb I hg hm hv ?_ hn hdb)
 exact PyProof.Rows.callWith_builtin1 (thn (ha pos pins s σ H _ I h) fun us s1 ⟨vs,H1,I1,r1,q1⟩ => hc pins s1 σ H1 vs us Q I1 r1 q1) he hpl
theorem zah (hc : zb4 X (.type T) r) (hg : Gl X x) (hm : X.mg x = none) (hv : bootBuiltins x = some (.type T)) (ha : PA X (e :: es) t) (hn : x ≠ "__name__":=by decide) (hdb : (x == ("__debug__" : Str)) = false:=by decide)
  (he : starEach (e :: es) X.env = (false,eval e X.env) :: starEach es X.env:=by rfl) (hpl : (backTo pos (starEach es X.env)).any (·.1) = false:=by rfl) : PE X (.Call (.Name x p) (e :: es) [] pos) (tCB r t):=by
 intro pins s σ H Q I h
 refine wpAny_Call_Name_kw (zbb I hg hm hv ?_ hn hdb)
 exact PyProof.Rows.callWith_type1 (thn (ha pos pins s σ H _ I h) fun us s1 ⟨vs,H1,I1,r1,q1⟩ => hc pins s1 σ H1 vs us Q I1 r1 q1) he hpl
end
end L2
namespace HT
open PySem PyProof.Rows
section
open PySem.SeqAt
open PySem.AutoSeq1 (wpAny_loadPart')
open PySem.MeetsSeq PySem.MeetsSeq2 PySem.MeetsSeq3
end
section
variable {prog : Program} {w : World} {A : Around} {E : Value → Shared → Prop} {s : Shared}
theorem cat_tup {t b : Addr} {vs ws : List Value} {Q : Value → Shared → Prop} (ht : IsTup s.heap t vs.toArray) (hb : IsTup s.heap b ws.toArray) (hv : vs ≠ [])
  (h1 : ws = [] → Q (.ref t) s) (h2 : ws ≠ [] → Q (.ref s.heap.objs.size) { s with heap:=s.heap.push { cls:=.type "tuple",data:=.seq (vs ++ ws).toArray } })
  (hsz : vs.length + ws.length ≤ sizeLine) : wpAny (model prog w) A (binaryOp .Add (.ref t) (.ref b)) Q E s:=by
 obtain ⟨⟨cls,dd,data,sl⟩,ho,hc,n,hd⟩:=id ht
 obtain ⟨⟨cls2,dd2,data2,sl2⟩,ho2,hc2,n2,hd2⟩:=id hb
 simp only at hc hd hc2 hd2
 subst hc hd hc2 hd2
 have e : vs.toArray ++ ws.toArray = (vs ++ ws).toArray:=by simp
 by_cases hw : ws = []
 ·exact concat_meets ⟨_,ho,rfl⟩ ⟨_,ho2,rfl⟩ noFill_tuple_add seq_tuple_add PySem.F.slot_tuple_add PySem.F.entry_tuple_add (PySem.F.args_tuple_add_2 _ _)
   (tuple_addW1 t b vs.toArray ws.toArray n n2 dd dd2 sl sl2 (by simpa using hv) (by simp [hw])) ⟨ho,ho2,h1 hw⟩
 ·refine concat_meets ⟨_,ho,rfl⟩ ⟨_,ho2,rfl⟩ noFill_tuple_add seq_tuple_add PySem.F.slot_tuple_add PySem.F.entry_tuple_add (PySem.F.args_tuple_add_2 _ _)
   (tuple_addW2 t b vs.toArray ws.toArray n n2 dd dd2 sl sl2 (by simpa using hv) (by simpa using hw) (by rw [List.size_toArray,List.size_toArray]; exact hsz)) ⟨ho,ho2,?_⟩
  rw [e]
  exact h2 hw
def sIx (n d : Nat) : Option Int → Nat
 | none => d
 | some v => if v < 0 then (v + (n : Int)).toNat else min v.toNat n
theorem sIx_none (n d : Nat) : sIx n d none = d:=rfl
theorem sIx_nat (n d k : Nat) : sIx n d (some (k : Int)) = min k n:=by
 show (if (k : Int) < 0 then ((k : Int) + (n : Int)).toNat else min (k : Int).toNat n) = min k n
 rw [if_neg (by omega),Int.toNat_natCast]
theorem zhD (n d : Nat) (hd : d ≤ n) (o : Option Int) : sIx n d o ≤ n:=by
 cases o with
 | none => exact hd
 | some v =>
  show (if v < 0 then (v + (n : Int)).toNat else min v.toNat n) ≤ n
  by_cases hv : v < 0
  ·rw [if_pos hv]; omega
  ·rw [if_neg hv]; exact Nat.min_le_right _ _
theorem zeA (v : Int) (n d : Nat) : (if v < 0 then max (v + (n : Int)) 0 else min v (n : Int)) = ((sIx n d (some v) : Nat) : Int):=by
 show (if v < 0 then max (v + (n : Int)) 0 else min v (n : Int)) = (((if v < 0 then (v + (n : Int)).toNat else min v.toNat n) : Nat) : Int)
 by_cases hv : v < 0
 ·simp only [if_pos hv]; omega
 ·simp only [if_neg hv]; omega
theorem zd9 (lo hi : Option Int) (n : Nat) : Builtin.Slice.sliceAdjust lo hi 1 (n : Int) = (((sIx n 0 lo : Nat) : Int),((sIx n n hi : Nat) : Int)):=by
 have h1 : ¬ ((1 : Int) < 0):=by omega
 unfold Builtin.Slice.sliceAdjust
 simp only [h1,if_false]
 refine Prod.ext ?_ ?_
 ·cases lo with
  | none => rfl
  | some v => exact zeA v n 0
 ·cases hi with
  | none => rfl
  | some v => exact zeA v n n
theorem zea (i j : Nat) : Builtin.Slice.slicePlaces (i : Int) (j : Int) 1 = j - i:=by
 unfold Builtin.Slice.slicePlaces
 have h1 : (1 : Int) > 0:=by omega
 simp only [h1,if_true,Int.ediv_one]
 split <;> omega
theorem zcn {v : Value} {o : Option Int} {Q : Option Int → Shared → Prop} (p : IsPart v o) (h : Q o s) : wpAny (model prog w) A (Builtin.Slice.slicePartIndex v) Q E s:=by
 cases p with
 | none => exact slicePart_none h
 | int i t => exact slicePart_int h
theorem zbR {sl : Addr} {vl vu : Value} {lo hi : Option Int} {n : Nat} {Q : Int × Int × Nat → Shared → Prop} (hs : s.heap.IsSliceOf sl vl vu .none) (pl : IsPart vl lo) (pu : IsPart vu hi)
  (h : Q (((sIx n 0 lo : Nat) : Int),1,sIx n n hi - sIx n 0 lo) s) : wpAny (model prog w) A (Builtin.Slice.sliceApplied (.ref sl) (pure (n : Int))) Q E s:=by
 obtain ⟨os,hos,hcs,hds⟩:=id hs
 unfold Builtin.Slice.sliceApplied Builtin.Slice.sliceFields
 refine wpAny_bind (wpAny_bind (wpAny_field hos hds (x:=vl) rfl (wpAny_bind (wpAny_field hos hds (x:=vu) rfl (wpAny_bind (wpAny_field hos hds (x:=.none) rfl (wpAny_pure ?_)))))))
 refine wpAny_bind (slicePart_none ?_)
 show wpAny _ _ (if ((1 : Int) == 0) = true then _ else _) _ _ s
 rw [if_neg (by decide)]
 refine wpAny_bind (zcn pl (wpAny_bind (zcn pu (wpAny_bind (wpAny_pure ?_)))))
 show wpAny _ _ (match Builtin.Slice.sliceAdjust lo hi 1 (n : Int) with | (lo,hi) => pure (lo,(1 : Int),Builtin.Slice.slicePlaces lo hi 1)) _ _ s
 rw [zd9 lo hi n]
 show wpAny _ _ (pure (((sIx n 0 lo : Nat) : Int),(1 : Int),Builtin.Slice.slicePlaces ((sIx n 0 lo : Nat) : Int) ((sIx n n hi : Nat) : Int) 1)) _ _ s
 rw [zea]
 exact wpAny_pure h
theorem zfH (xs : Array Value) (i k : Nat) : ((List.range k).filterMap fun (m : Nat) => xs[((i : Int) + (m : Int) * 1).toNat]?).toArray = ((xs.toList.drop i).take k).toArray:=by
 have e : (fun (m : Nat) => xs[((i : Int) + (m : Int) * 1).toNat]?) = fun m => xs[i + m]?:=by
  funext m
  have : ((i : Int) + (m : Int) * 1).toNat = i + m:=by omega
  rw [this]
 rw [e]
 have:=pick_run xs i k
 rw [List.filterMap_map] at this
 have e2 : ((fun x => xs[x]?) ∘ fun x => i + x) = fun m => xs[i + m]?:=rfl
 rw [e2] at this
 rw [this]
theorem getItem_tuple_cut {t sl : Addr} {items : Array Value} {vl vu : Value} {lo hi : Option Int} {Q : Value → Shared → Prop} (ht : IsTup s.heap t items) (hs : s.heap.IsSliceOf sl vl vu .none) (pl : IsPart vl lo) (pu : IsPart vu hi)
  (hw : ¬ (sIx items.size 0 lo = 0 ∧ sIx items.size items.size hi = items.size))
  (h : Q (.ref s.heap.objs.size) { s with heap:=s.heap.push { cls:=.type "tuple",data:=.seq ((items.toList.drop (sIx items.size 0 lo)).take (sIx items.size items.size hi - sIx items.size 0 lo)).toArray } })
  (hsz : items.size ≤ sizeLine) : wpAny (model prog w) A (getItem (.ref t) (.ref sl)) Q E s:=by
 have htake : sizeOk (.seq ((items.toList.drop (sIx items.size 0 lo)).take (sIx items.size items.size hi - sIx items.size 0 lo)).toArray):=by
  show ((items.toList.drop (sIx items.size 0 lo)).take (sIx items.size items.size hi - sIx items.size 0 lo)).toArray.size ≤ sizeLine
  rw [List.size_toArray,List.length_take,List.length_drop,Array.length_toList]
  omega
 have hj : sIx items.size items.size hi ≤ items.size:=zhD _ _ (Nat.le_refl _) hi
 obtain ⟨os,hos,hcs,hds⟩:=id hs
 have hTs : s.TypeIs (.ref sl) "slice":=⟨os,hos,hcs⟩
 unfold getItem
 try with_reducible refine wpAny_holding ?_
 first | refine wpAny_bind (wpAny_pure ?_) | skip
 refine wpAny_bind (wpAny_sequenceKey ht.typeIs (by decide) ?_)
 refine wpAny_bind (wpAny_callSpecial?_slot (name:=Str.ofString "__getitem__") ht.typeIs PyProof.Rows.slot_tuple_getitem
  (wpAny_call_entry PyProof.Rows.slot_tuple_getitem ht.typeIs entry_tuple_getitem ?_ (args_tuple_getitem _ _)))
 show wpAny _ _ (Builtin.Tuple.tupleItemsOf (.ref t) >>= _) _ _ s
 refine wpAny_bind (tupleItemsOf_ ht ?_)
 refine wpAny_bind (wpAny_typeOf hTs ?_)
 rw [if_pos (by decide)]
 refine wpAny_bind (zbR hs pl pu ?_)
 have hno : ¬ ((((sIx items.size 0 lo : Nat) : Int) == 0 && (1 : Int) == 1 && (sIx items.size items.size hi - sIx items.size 0 lo) == items.size) = true):=by
  intro q
  rw [Bool.and_eq_true,Bool.and_eq_true] at q
  have q1 : ((sIx items.size 0 lo : Nat) : Int) = 0:=eq_of_beq q.1.1
  have q2 : sIx items.size items.size hi - sIx items.size 0 lo = items.size:=eq_of_beq q.2
  exact hw ⟨by omega,by omega⟩
 show wpAny _ _ (if (((sIx items.size 0 lo : Nat) : Int) == 0 && (1 : Int) == 1 && (sIx items.size items.size hi - sIx items.size 0 lo) == items.size) = true then _ else _) _ _ s
 rw [if_neg hno,zfH]
 first
  | exact wpAny_bind (m:=Builtin.Tuple.tupleExact _) (wpAny_newObj_type (wpAny_pure ⟨_,rfl,wpAny_pure h⟩) htake)
  | exact wpAny_bind (m:=Builtin.Tuple.tupleExact _) (wpAny_newObj_type (wpAny_bind (wpAny_pure (wpAny_pure ⟨_,rfl,wpAny_pure h⟩))) htake)
  | exact wpAny_bind (wpAny_bind (m:=Builtin.Tuple.tupleExact _) (wpAny_newObj_type (wpAny_pure (wpAny_pure ⟨_,rfl,wpAny_pure h⟩)) htake))
  | exact wpAny_bind (wpAny_bind (m:=Builtin.Tuple.tupleExact _) (wpAny_newObj_type (wpAny_pure ⟨_,rfl,wpAny_pure h⟩) htake))
end
end HT
namespace L2
open PySem PySem.Spec PyProof.Rows
abbrev TO:=St → Hp → (Option Int → Hp → Prop) → Prop
def PO (X : Cx) (e : Option Expr) (t : TO) : Prop :=
 ∀ (pins : List (Addr × Obj)) (s : Shared) (σ : St) (H : Hp) (Q : Option Int → Hp → Prop),Inv X pins σ H s → t σ H Q →
  wpAny (model X.prog X.w) X.A (evalPart e X.env) (fun u s' => ∃ o H',Inv X pins σ H' s' ∧ IsPart u o ∧ Q o H') X.xe s
def zgJ : TO:=fun _ H Q => Q none H
def zis (t : TE) : TO:=fun σ H Q => t σ H fun x H1 => ∃ i,x = .int i ∧ Q (some i) H1
section
variable {X : Cx} {e : Expr} {te : TE} {lo hi : Option Expr} {tl th : TO} {pos p2 : Pos}
theorem zce : PO X none zgJ:=by
 intro pins s σ H Q I h
 rw [evalPart_none]
 exact wpAny_pure ⟨none,H,I,.none,h⟩
theorem zbq (h : PE X e te) : PO X (some e) (zis te):=by
 intro pins s σ H Q I hw
 rw [evalPart_some]
 refine thn (h pins s σ H _ I hw) fun u s1 ⟨x,H1,I1,r1,q1⟩ => ?_
 obtain ⟨i,rfl,q⟩:=q1
 obtain ⟨t,rfl⟩:=r1
 exact ⟨some i,H1,I1,.int i t,q⟩
def SlR (X : Cx) (r : V → Option Int → Option Int → Hp → VK → Prop) : Prop :=
 ∀ (pins : List (Addr × Obj)) (s : Shared) (σ : St) (H : Hp) (x : V) (v vl vu : Value) (lo hi : Option Int) (sl : Addr) (Q : VK),Inv X pins σ H s → RelV x v → s.heap.IsSliceOf sl vl vu .none → IsPart vl lo → IsPart vu hi → r x lo hi H Q →
  ∃ T id,typeLookup (.type T) "__getitem__" = pure (some (.builtin id)) ∧ s.TypeIs v T ∧ wpAny (model X.prog X.w) X.A (getItem v (.ref sl)) (EP X pins σ Q) X.xe s
def tSl (r : V → Option Int → Option Int → Hp → VK → Prop) (te : TE) (tl th : TO) : TE:=fun σ H Q => te σ H fun x H1 => tl σ H1 fun l H2 => th σ H2 fun u H3 => r x l u H3 Q
theorem zbe {r : V → Option Int → Option Int → Hp → VK → Prop} (hr : SlR X r) (he : PE X e te) (hl : PO X lo tl) (hu : PO X hi th) : PE X (.Subscript e (.Slice lo hi none p2) pos) (tSl r te tl th):=by
 intro pins s σ H Q I h
 refine Subscript_ (thn (he pins s σ H _ I h) fun v s1 ⟨x,H1,I1,r1,q1⟩ => ?_)
 refine wpAny_Slice (thn (hl pins s1 σ H1 _ I1 q1) fun vl s2 ⟨l,H2,I2,pl,q2⟩ => thn (hu pins s2 σ H2 _ I2 q2) fun vu s3 ⟨u,H3,I3,pu,q3⟩ => ?_)
 rw [evalPart_none]
 refine wpAny_pure ?_
 have I4 : Inv X pins σ H3 { s3 with heap:=s3.heap.push { cls:=.type "slice",data:=.fields #[vl,vu,.none] } }:=I3.kept (t':=s3.toks) fun b ob q => Heap.get?_push_of_some _ q
 obtain ⟨T,id,hT,ht,hg⟩:=hr pins { s3 with heap:=s3.heap.push { cls:=.type "slice",data:=.fields #[vl,vu,.none] } } σ H3 x v vl vu l u s3.heap.objs.size Q I4 r1 (Heap.IsSliceOf.new ..) pl pu q3
 show wpAny (model X.prog X.w) X.A (subscriptTail e (.Slice lo hi none p2) v (.ref s3.heap.objs.size)) (EP X pins σ Q) X.xe { s3 with heap:=s3.heap.push { cls:=.type "slice",data:=.fields #[vl,vu,.none] } }
 exact tail_any (ops:=[.ref s3.heap.objs.size,v]) ht hT hg (by with_unfolding_all rfl)
def za9 (xs : List V) (lo hi : Option Int) : List V:=(xs.drop (HT.sIx xs.length 0 lo)).take (HT.sIx xs.length xs.length hi - HT.sIx xs.length 0 lo)
theorem zb5 (xs : List V) (lo hi : Option Int) : (za9 xs lo hi).length ≤ xs.length:=by
 unfold za9
 rw [List.length_take,List.length_drop]
 omega
def zit (K : PySem.W.Frag) : V → Option Int → Option Int → Hp → VK → Prop:=fun x lo hi H Q => ∃ a xs,x = .ref a ∧ SqT K H a xs ∧
 ¬ (HT.sIx xs.length 0 lo = 0 ∧ HT.sIx xs.length xs.length hi = xs.length) ∧ ∀ p,H p = none → Q (.ref p) (upd H p (.tup (za9 xs lo hi)))
theorem zfI : SlR X (zit X.K):=by
 intro pins s σ H x v vl vu lo hi sl Q I rx hs pl pu h
 obtain ⟨a,xs,rfl,hx,hw,q⟩:=h
 cases rx
 obtain ⟨its,r,ht,hz⟩:=I.tuple hx
 have hlen : its.toArray.size = xs.length:=by rw [List.size_toArray]; exact r.length.symm
 refine ⟨"tuple",_,PyProof.Rows.slot_tuple_getitem.lookup,ht.typeIs,?_⟩
 refine HT.getItem_tuple_cut ht hs pl pu (by rw [hlen]; exact hw) ?_ (by rw [hlen]; exact hz)
 rw [hlen]
 refine ⟨.ref s.heap.objs.size,_,I.laid (t':=s.toks) (o:=.tup (za9 xs lo hi)) (fun b ob q => Heap.get?_push_of_some _ q) (Nat.le_refl _) ?_,rfl,q _ (I.hok.fresh (Nat.le_refl _))⟩
 exact ⟨Nat.le_trans (zb5 xs lo hi) hz,_,(r.drop (HT.sIx xs.length 0 lo)).take (HT.sIx xs.length xs.length hi - HT.sIx xs.length 0 lo),IsTup.new _ _⟩
def ziu (K : PySem.W.Frag) : R2:=fun x y H Q => ∃ a b xs ys,x = .ref a ∧ y = .ref b ∧ SqT K H a xs ∧ SqT K H b ys ∧ xs ≠ [] ∧ xs.length + ys.length ≤ sizeLine ∧
 (ys = [] → Q (.ref a) H) ∧ (ys ≠ [] → ∀ p,H p = none → Q (.ref p) (upd H p (.tup (xs ++ ys))))
theorem zx.nil_iff {xs : List V} {us : List Value} (r : zx xs us) : us = [] ↔ xs = []:=by
 cases r with
 | nil => simp
 | cons _ _ => simp
theorem zeB : OpR X (binaryOp .Add) (ziu X.K):=by
 intro pins s σ H x y v u Q I rx ry h
 obtain ⟨a,b,xs,ys,rfl,rfl,ha,hb,hx,hz,q1,q2⟩:=h
 cases rx
 cases ry
 obtain ⟨its,r1,p1,_⟩:=I.tuple ha
 obtain ⟨its2,r2,p2,_⟩:=I.tuple hb
 refine HT.cat_tup p1 p2 (fun z => hx (r1.nil_iff.mp z)) (fun z => ⟨.ref a,H,I,rfl,q1 (r2.nil_iff.mp z)⟩) (fun z => ?_) (by rw [← r1.length,← r2.length]; exact hz)
 refine ⟨.ref s.heap.objs.size,_,I.laid (t':=s.toks) (o:=.tup (xs ++ ys)) (fun b ob q => Heap.get?_push_of_some _ q) (Nat.le_refl _) ?_,rfl,q2 (fun w => z (r2.nil_iff.mpr w)) _ (I.hok.fresh (Nat.le_refl _))⟩
 exact ⟨by rw [List.length_append]; exact hz,_,r1.append r2,IsTup.new _ _⟩
end
end L2
namespace L2
open PySem PySem.Spec PyProof.Rows
def ixN (n : Nat) (i : Int) : Option Nat:=if 0 ≤ i then (if i < n then some i.toNat else none) else if -(n : Int) ≤ i then some (i + n).toNat else none
def atI {α : Type} (xs : List α) (i : Int) : Option α:=(ixN xs.length i).bind fun j => xs[j]?
theorem zeC {n : Nat} {i : Int} {j : Nat} (h : ixN n i = some j) : seqIndex? i n = some j ∧ j < n ∧ -(n : Int) ≤ i ∧ i < n:=by
 unfold ixN at h
 by_cases h0 : 0 ≤ i
 ·rw [if_pos h0] at h
  by_cases h1 : i < n
  ·rw [if_pos h1] at h
   have e : i.toNat = j:=Option.some.inj h
   exact ⟨by rw [seqIndex_of h0 h1,e],by omega,by omega,h1⟩
  ·rw [if_neg h1] at h; cases h
 ·rw [if_neg h0] at h
  by_cases h1 : -(n : Int) ≤ i
  ·rw [if_pos h1] at h
   have e : (i + n).toNat = j:=Option.some.inj h
   exact ⟨by rw [seqIndex_neg (by omega) h1,e],by omega,h1,by omega⟩
  ·rw [if_neg h1] at h; cases h
theorem zeD {α : Type} {xs : List α} {i : Int} {v : α} (h : atI xs i = some v) : ∃ j,seqIndex? i xs.length = some j ∧ xs[j]? = some v ∧ j < xs.length ∧ -(xs.length : Int) ≤ i ∧ i < xs.length:=by
 unfold atI at h
 cases e : ixN xs.length i with
 | none => rw [e] at h; cases h
 | some j =>
  rw [e] at h
  obtain ⟨h1,h2,h3,h4⟩:=zeC e
  exact ⟨j,h1,h,h2,h3,h4⟩
theorem zal {α : Type} {xs : List α} {j : Nat} {v : α} (h : xs[j]? = some v) : atI xs (j : Int) = some v:=by
 have hj : j < xs.length:=(List.getElem?_eq_some_iff.mp h).1
 have e : ixN xs.length (j : Int) = some j:=by
  unfold ixN
  rw [if_pos (by omega),if_pos (by omega)]; simp
 unfold atI; rw [e]; exact h
def zgK (b : Expr) : Prop:=∀ o i,subscripted b false o i = operate [o,i] (getItem o i)
def IxR (X : Cx) (r : R2) : Prop :=
 ∀ (value slice : Expr) (pins : List (Addr × Obj)) (s : Shared) (σ : St) (H : Hp) (x y : V) (v u : Value) (Q : VK),Inv X pins σ H s → RelV x v → RelV y u → r x y H Q →
  subscripted slice false v u = operate [v,u] (getItem v u) → wpAny (model X.prog X.w) X.A (subscriptTail value slice v u) (EP X pins σ Q) X.xe s
def MtR (X : Cx) (id : String) (r : V → List V → Hp → VK → Prop) : Prop :=
 ∀ (pins : List (Addr × Obj)) (s : Shared) (σ : St) (H : Hp) (x : V) (xs : List V) (v : Value) (us : List Value) (Q : VK),Inv X pins σ H s → RelV x v → zx xs us → r x xs H Q →
  wpAny (model X.prog X.w) X.A (call (.builtin id) (v :: us)) (EP X pins σ Q) X.xe s
section
variable {X : Cx} {a b : Expr} {ta tb : TE} {pos : Pos}
theorem zJ {r : R2} (hr : IxR X r) (ha : PE X a ta) (hb : PE X b tb) (hs : zgK b) : PE X (.Subscript a b pos) (tOp r ta tb):=by
 intro pins s σ H Q I h
 exact Subscript_ (zii ha hb I h fun v u s2 x y H2 I2 rx ry q => hr a b pins s2 σ H2 x y v u Q I2 rx ry q (hs _ _))
def ziv (K : PySem.W.Frag) : R2:=fun x y H Q => ∃ p xs i v,x = .ref p ∧ y = .int i ∧ SqL K H p xs ∧ atI xs i = some v ∧ Q v H
def ziR (K : PySem.W.Frag) : R2:=fun x y H Q => ∃ p xs i v,x = .ref p ∧ y = .int i ∧ SqT K H p xs ∧ atI xs i = some v ∧ Q v H
theorem zD : IxR X (ziv X.K):=by
 intro value slice pins s σ H x y v u Q I rx ry h hs
 obtain ⟨p,xs,i,z,rfl,rfl,hq,he,q⟩:=h
 cases rx
 obtain ⟨t,rfl⟩:=ry
 obtain ⟨its,r,pl,hz⟩:=I.list hq
 obtain ⟨j,h1,h2,h3,h4,h5⟩:=zeD he
 obtain ⟨w,ew,rw'⟩:=r.get h2
 have hl:=r.length
 have hn:=zcm
 have fin : EP X pins σ Q w s:=⟨z,H,I,rw',q⟩
 by_cases h0 : 0 ≤ i
 ·have hj : i.toNat = j:=by
   rw [seqIndex_of h0 h5] at h1
   exact Option.some.inj h1
  exact item_listR pl.isList h0 (by omega) (by rw [hj]; simpa using ew) fin hs
 ·have hj : (i + (its.toArray.size : Int)).toNat = j:=by
   rw [seqIndex_neg (by omega) h4] at h1
   rw [List.size_toArray,← hl]
   exact Option.some.inj h1
  exact subscriptTail_builtinR (x:=w) pl.isList.typeIs slot_list_getitem.lookup
   (wpAny_getItem_list_neg (Q:=fun r s' => r = w ∧ EP X pins σ Q r s') pl.isList (by omega) (by rw [List.size_toArray] <;> omega) (by omega) (by rw [hj]; simpa using ew) ⟨rfl,fin⟩) hs
theorem zeb : IxR X (ziR X.K):=by
 intro value slice pins s σ H x y v u Q I rx ry h hs
 obtain ⟨p,xs,i,z,rfl,rfl,hq,he,q⟩:=h
 cases rx
 obtain ⟨t,rfl⟩:=ry
 obtain ⟨its,r,pl,hz⟩:=I.tuple hq
 obtain ⟨j,h1,h2,h3,h4,h5⟩:=zeD he
 obtain ⟨w,ew,rw'⟩:=r.get h2
 have hl:=r.length
 have hn:=zcm
 have fin : EP X pins σ Q w s:=⟨z,H,I,rw',q⟩
 exact subscriptTail_builtinR (x:=w) pl.typeIs slot_tuple_getitem.lookup
  (getItem_tuple (j:=j) (Q:=fun r s' => r = w ∧ EP X pins σ Q r s') pl (by omega) (by omega) (by rw [List.size_toArray,← hl]; exact h1) (by simpa using ew) ⟨rfl,fin⟩) hs
theorem zec (its : List Value) (n j : Nat) (u : Value) : Obj.mapSeq (·.setIfInBounds j u) { cls:=.type "list",data:=.seq its.toArray n } = { cls:=.type "list",data:=.seq (its.set j u).toArray n }:=by
 simp [Obj.mapSeq]
theorem Inv.lst {pins : List (Addr × Obj)} {σ : St} {H : Hp} {s : Shared} {p : Addr} {xs : List V} (I : Inv X pins σ H s) (h : H p = some (.lst xs)) :
  ∃ (its : List Value) (n : Nat),zx xs its ∧ s.heap.get? p = some { cls:=.type "list",data:=.seq its.toArray n } ∧ xs.length ≤ sizeLine:=by
 obtain ⟨z,its,n,r,e⟩:=I.hok p _ h
 exact ⟨its,n,r,e,z⟩
theorem Inv.lstUpd {pins : List (Addr × Obj)} {σ : St} {H : Hp} {s : Shared} {p : Addr} {xs ys : List V} {its its' : List Value} {n n' : Nat} {f : Obj → Obj} (I : Inv X pins σ H s) (h : H p = some (.lst xs))
  (ho : s.heap.get? p = some { cls:=.type "list",data:=.seq its.toArray n }) (hf : f { cls:=.type "list",data:=.seq its.toArray n } = { cls:=.type "list",data:=.seq its'.toArray n' }) (r : zx ys its') (hz : ys.length ≤ sizeLine) (t : Nat) :
  Inv X pins σ (upd H p (.lst ys)) { s with heap:=s.heap.update p f,toks:=t }:=by
 have e : (s.heap.update p f).get? p = some { cls:=.type "list",data:=.seq its'.toArray n' }:=by
  rw [Heap.get?_update_self f ho (by rw [hf] <;> rfl),hf]
 refine I.write (x:=p) (e:=p) (by rw [h]; trivial) (.inl rfl) (fun b u hb q => (Heap.get?_update_other _ _ (Ne.symm hb)).trans q) ⟨_,e⟩ ?_
 exact ⟨hz,its',n',r,e⟩
def ziw : V → V → V → Hp → (Hp → Prop) → Prop:=fun o i v H Q => ∃ p xs k j,o = .ref p ∧ i = .int k ∧ H p = some (.lst xs) ∧ ixN xs.length k = some j ∧ Q (upd H p (.lst (xs.set j v)))
theorem set_list : zie X ziw:=by
 intro pins s σ H o i v ov iv u Q I ro ri rv h
 obtain ⟨p,xs,k,j,rfl,rfl,hp,hj,q⟩:=h
 cases ro
 obtain ⟨t,rfl⟩:=ri
 obtain ⟨its,n,r,ho,hz⟩:=I.lst hp
 obtain ⟨h1,h2,h3,h4⟩:=zeC hj
 have hl:=r.length
 have hn:=zcm
 have I' : Inv X pins σ (upd H p (.lst (xs.set j v))) { s with heap:=s.heap.update p (Obj.mapSeq (·.setIfInBounds j u)) } :=
  I.lstUpd hp ho (zec its n j u) (r.set rv j) (by rw [List.length_set]; exact hz) s.toks
 by_cases h0 : 0 ≤ k
 ·have hk : k.toNat = j:=by
   rw [seqIndex_of h0 h4] at h1
   exact Option.some.inj h1
  exact PySem.W.ki_setAt ho h0 (by omega) (by rw [List.size_toArray,← hl]; exact h4) (by rw [hk]; exact ⟨_,I',q⟩)
 ·have hk : (k + (its.toArray.size : Int)).toNat = j:=by
   rw [seqIndex_neg (by omega) h3] at h1
   rw [List.size_toArray,← hl]
   exact Option.some.inj h1
  exact PySem.W.ki_setBack ho (by omega) (by rw [List.size_toArray,← hl]; exact h3) (by omega) (by rw [hk]; exact ⟨_,I',q⟩)
theorem zdi (lo hi : Option Int) (n : Nat) : (sliceBounds lo hi none n).1 = ((HT.sIx n 0 lo : Nat) : Int) ∧ (sliceBounds lo hi none n).2.1 = ((HT.sIx n n hi : Nat) : Int) ∧ (sliceBounds lo hi none n).2.2 = 1:=by
 refine ⟨?_,?_,rfl⟩
 ·cases lo with
  | none => simp [sliceBounds,HT.sIx]
  | some i =>
   simp only [sliceBounds,HT.sIx,Option.getD_none,show (1 : Int) > 0 by decide,if_true]
   by_cases h : i < 0
   ·simp only [h,if_true] <;> omega
   ·simp only [h,if_false] <;> omega
 ·cases hi with
  | none => simp [sliceBounds,HT.sIx]
  | some i =>
   simp only [sliceBounds,HT.sIx,Option.getD_none,show (1 : Int) > 0 by decide,if_true]
   by_cases h : i < 0
   ·simp only [h,if_true] <;> omega
   ·simp only [h,if_false] <;> omega
theorem zcH (its : List Value) (lo hi : Option Int) : slicePick its.toArray lo hi none = ((its.drop (HT.sIx its.length 0 lo)).take (HT.sIx its.length its.length hi - HT.sIx its.length 0 lo)).toArray:=by
 obtain ⟨h1,h2,h3⟩:=zdi lo hi its.toArray.size
 unfold slicePick
 rw [h1,h2,h3]
 simp only [sliceRange_one,pick_run,List.size_toArray] <;> rfl
def ziS (K : PySem.W.Frag) : V → Option Int → Option Int → Hp → VK → Prop:=fun x lo hi H Q => ∃ a xs,x = .ref a ∧ SqL K H a xs ∧ ∀ p,H p = none → Q (.ref p) (upd H p (.lst (za9 xs lo hi)))
theorem zdj : SlR X (ziS X.K):=by
 intro pins s σ H x v vl vu lo hi sl Q I rx hs pl pu h
 obtain ⟨a,xs,rfl,hx,q⟩:=h
 cases rx
 obtain ⟨its,r,ht,hz⟩:=I.list hx
 have hlen:=r.length
 refine ⟨"list",_,slot_list_getitem.lookup,ht.isList.typeIs,?_⟩
 refine wpAny_getItem_list_slice ht.isList hs pl pu .none (by simp) ?_ (by rw [List.size_toArray] <;> omega)
 rw [zcH,← hlen]
 refine ⟨.ref s.heap.objs.size,_,I.laid (t':=s.toks) (o:=.lst (za9 xs lo hi)) (fun b ob q => Heap.get?_push_of_some _ q) (Nat.le_refl _) ?_,rfl,q _ (I.hok.fresh (Nat.le_refl _))⟩
 exact ⟨Nat.le_trans (zb5 xs lo hi) hz,_,0,(r.drop (HT.sIx xs.length 0 lo)).take (HT.sIx xs.length xs.length hi - HT.sIx xs.length 0 lo),Heap.get?_push_size _ rfl⟩
def zbH : V → Bool
 | .non => true
 | .bl _ => true
 | .int _ => true
 | .str _ => true
 | _ => false
def eqV : V → V → Bool
 | .non,.non => true
 | .bl a,.bl b => a == b
 | .bl a,.int b => (if a then 1 else 0) == b
 | .int a,.bl b => a == (if b then 1 else 0)
 | .int a,.int b => a == b
 | .str a,.str b => a == b
 | _,_ => false
theorem zhE {A : Around} {s : Shared} {y x : V} {u v : Value} (ry : RelV y u) (rx : RelV x v) (fy : zbH y = true) (fx : zbH x = true) : SeqAt.EqAt A s u v (eqV y x):=by
 cases y with
 | non =>
  cases ry
  cases x with
  | non => cases rx; exact SeqAt.EqAt.same _
  | bl b => cases rx; exact SeqAt.EqAt.none_bool b
  | int b => obtain ⟨t,rfl⟩:=rx; exact SeqAt.EqAt.none_int b t
  | str b => obtain ⟨t,rfl⟩:=rx; exact SeqAt.EqAt.none_str b t
  | _ => exact absurd (show false = true from fx) Bool.false_ne_true
 | bl a =>
  cases ry
  cases x with
  | non => cases rx; exact SeqAt.EqAt.bool_none a
  | bl b => cases rx; exact SeqAt.EqAt.bool_bool a b
  | int b => obtain ⟨t,rfl⟩:=rx; exact SeqAt.EqAt.bool_int a b t
  | str b => obtain ⟨t,rfl⟩:=rx; exact SeqAt.EqAt.bool_str a b t
  | _ => exact absurd (show false = true from fx) Bool.false_ne_true
 | int a =>
  obtain ⟨t',rfl⟩:=ry
  cases x with
  | non => cases rx; exact SeqAt.EqAt.int_none a t'
  | bl b => cases rx; exact SeqAt.EqAt.int_bool a t' b
  | int b => obtain ⟨t,rfl⟩:=rx; exact SeqAt.EqAt.int_int a t' b t
  | str b => obtain ⟨t,rfl⟩:=rx; exact SeqAt.EqAt.int_str a t' b t
  | _ => exact absurd (show false = true from fx) Bool.false_ne_true
 | str a =>
  obtain ⟨t',rfl⟩:=ry
  cases x with
  | non => cases rx; exact SeqAt.EqAt.str_none a t'
  | bl b => cases rx; exact SeqAt.EqAt.str_bool a t' b
  | int b => obtain ⟨t,rfl⟩:=rx; exact SeqAt.EqAt.str_int a t' b t
  | str b => obtain ⟨t,rfl⟩:=rx; exact SeqAt.EqAt.str_str a t' b t
  | _ => exact absurd (show false = true from fx) Bool.false_ne_true
 | _ => exact absurd (show false = true from fy) Bool.false_ne_true
def eqU (x : V) (u : Value) : Bool:=match u with
 | .none => eqV .non x
 | .bool b => eqV (.bl b) x
 | .int i _ => eqV (.int i) x
 | .str z _ => eqV (.str z) x
 | _ => false
theorem zfJ {x y : V} {u : Value} (r : RelV y u) (f : zbH y = true) : eqU x u = eqV y x:=by
 cases y with
 | non => cases r; rfl
 | bl b => cases r; rfl
 | int i => obtain ⟨t,rfl⟩:=r; rfl
 | str z => obtain ⟨t,rfl⟩:=r; rfl
 | _ => exact absurd (show false = true from f) Bool.false_ne_true
theorem zdk {x : V} : ∀ {xs : List V} {us : List Value},zx xs us → xs.all zbH = true → us.any (eqU x) = xs.any fun y => eqV y x
 | _,_,.nil,_ => rfl
 | y :: xs,u :: us,.cons r t,f => by
  rw [List.all_cons,Bool.and_eq_true] at f
  rw [List.any_cons,List.any_cons,zfJ r f.1,zdk t f.2]
theorem zco {A : Around} {s : Shared} {x : V} {v : Value} (rx : RelV x v) (fx : zbH x = true) : ∀ {xs : List V} {us : List Value},zx xs us → xs.all zbH = true → ∀ u ∈ us,SeqAt.EqAt A s u v (eqU x u)
 | _,_,.nil,_ => fun u hu => by cases hu
 | y :: xs,u :: us,.cons r t,f => fun u' hu => by
  rw [List.all_cons,Bool.and_eq_true] at f
  rcases List.mem_cons.mp hu with rfl | hu
  ·rw [zfJ r f.1]; exact zhE r rx f.1 fx
  ·exact zco rx fx t f.2 u' hu
def inV (x : V) (xs : List V) : Bool:=xs.any fun y => eqV y x
def rIn (K : PySem.W.Frag) (neg : Bool) : R2:=fun x y H Q => ∃ p xs,y = .ref p ∧ (SqL K H p xs ∨ SqT K H p xs) ∧ zbH x = true ∧ xs.all zbH = true ∧ Q (.bl (if neg then !inV x xs else inV x xs)) H
theorem ze7 : OpR X (compareOp .In) (rIn X.K false):=by
 intro pins s σ H x y v u Q I rx ry h
 obtain ⟨p,xs,rfl,hq,fx,fs,q⟩:=h
 cases ry
 rcases hq with hq | hq
 ·obtain ⟨its,r,pl,hz⟩:=I.list hq
  refine SeqAt.in_listAt (eqU x) pl.isList (fun w hw => zco rx fx r fs w (by simpa using hw)) ⟨.bl _,H,I,rfl,?_⟩
  rw [show its.toArray.any (eqU x) = its.any (eqU x) by simp,zdk r fs]
  exact q
 ·obtain ⟨its,r,pl,hz⟩:=I.tuple hq
  refine SeqAt.in_tupleAt (eqU x) pl (fun w hw => zco rx fx r fs w (by simpa using hw)) ⟨.bl _,H,I,rfl,?_⟩
  rw [show its.toArray.any (eqU x) = its.any (eqU x) by simp,zdk r fs]
  exact q
theorem zz : zb4 X (.builtin "len") (fun xs H Q => ∃ p ys,xs = [.ref p] ∧ (SqL X.K H p ys ∨ SqT X.K H p ys) ∧ Q (.int ys.length) H):=by
 intro pins s σ H xs us Q I r h
 obtain ⟨p,ys,rfl,hq,q⟩:=h
 obtain ⟨u,rfl,rx⟩:=vals1 r
 cases rx
 have hn:=zcm
 rcases hq with hq | hq
 ·obtain ⟨its,r',pl,hz⟩:=I.list hq
  have hlen:=r'.length
  exact Calls.call_len_list pl.isList (by simp only [List.size_toArray] <;> omega) ⟨.int ys.length,H,I.tok _,⟨s.toks + 1,by rw [List.size_toArray,hlen]⟩,q⟩
 ·obtain ⟨its,r',pl,hz⟩:=I.tuple hq
  have hlen:=r'.length
  exact len_tuple pl (by simp only [List.size_toArray] <;> omega) ⟨.int ys.length,H,I.tok _,⟨s.toks + 1,by rw [List.size_toArray,hlen]⟩,q⟩
theorem zaz : zb4 X (.type "tuple") (fun xs H Q => ∃ p ys,xs = [.ref p] ∧ ((SqL X.K H p ys ∧ ∀ l,H l = none → Q (.ref l) (upd H l (.tup ys))) ∨ (SqT X.K H p ys ∧ Q (.ref p) H))):=by
 intro pins s σ H xs us Q I r h
 obtain ⟨p,ys,rfl,h⟩:=h
 obtain ⟨u,rfl,rx⟩:=vals1 r
 cases rx
 rcases h with ⟨hq,q⟩ | ⟨hq,q⟩
 ·obtain ⟨its,r',pl,hz⟩:=I.list hq
  have hlen:=r'.length
  refine call_tuple_list pl.isList (fun h' kp => ?_) (by simp only [List.size_toArray] <;> omega)
  have I1 : Inv X pins σ H { s with heap:=h' }:=I.kept (t':=s.toks) kp
  have I2 : Inv X pins σ (upd H h'.objs.size (.tup ys)) { s with heap:=h'.push { cls:=.type "tuple",data:=.seq its.toArray } } :=
   I1.laid (t':=s.toks) (fun b o e => Heap.get?_push_of_some _ e) (Nat.le_refl _) (show zaD X.prog X.w _ _ _ (.tup ys) from ⟨hz,its,r',IsTup.new _ _⟩)
  exact ⟨.ref h'.objs.size,_,I2,rfl,q _ (I1.hok.fresh (Nat.le_refl _))⟩
 ·obtain ⟨its,r',pl,hz⟩:=I.tuple hq
  exact call_tuple_same pl ⟨.ref p,H,I,rfl,q⟩
def tyV (K : PySem.W.Frag) (T : String) (x : V) (H : Hp) : Prop:=match x with
 | .str _ => T = "str"
 | .int _ => T = "int"
 | .ref p => (T = "list" ∧ ∃ xs,SqL K H p xs) ∨ (T = "tuple" ∧ ∃ o,K.lookup p = some o ∧ o.cls = .type "tuple" ∧ o.dict = none) ∨
   (T = "dict" ∧ ((∃ kvs,H p = some (.dK kvs)) ∨ ∃ kvs,H p = some (.dT kvs))) ∨ (T = "set" ∧ ∃ S n,H p = some (.set S n))
 | _ => False
theorem zhF {pins : List (Addr × Obj)} {σ : St} {H : Hp} {s : Shared} {T : String} {x : V} {v : Value} (I : Inv X pins σ H s) (r : RelV x v) (ty : tyV X.K T x H) :
  s.TypeIs v T ∧ ∀ a,v = .ref a → ∃ ob,s.heap.get? a = some ob ∧ ob.dict = none:=by
 cases x with
 | str z =>
  obtain ⟨t,rfl⟩:=r
  cases (show T = "str" from ty)
  exact ⟨typeIs_str s z t,fun _ e => nomatch e⟩
 | int i =>
  obtain ⟨t,rfl⟩:=r
  cases (show T = "int" from ty)
  exact ⟨typeIs_int s i t,fun _ e => nomatch e⟩
 | ref p =>
  cases r
  rcases ty with ⟨rfl,xs,hq⟩ | ⟨rfl,o,hk,hc,hd⟩ | ⟨rfl,hk⟩ | ⟨rfl,S,n,hk⟩
  ·obtain ⟨its,_,pl,_⟩:=I.list hq
   refine ⟨pl.isList.typeIs,fun a e => ?_⟩
   cases e
   obtain ⟨o,n,e,c,hd,_⟩:=pl
   exact ⟨o,e,hd⟩
  ·refine ⟨⟨o,I.kIn p o hk,hc⟩,fun a e => ?_⟩
   cases e
   exact ⟨o,I.kIn _ o hk,hd⟩
  ·have z : ∃ o,s.heap.get? p = some o ∧ o.ExactDict:=by
    rcases hk with ⟨kvs,hk⟩ | ⟨kvs,hk⟩
    ·obtain ⟨_,_,_,_,o,_,_,e,ex,_⟩:=I.hok p _ hk
     exact ⟨o,e,ex⟩
    ·obtain ⟨_,_,_,_,o,_,_,e,ex,_⟩:=I.hok p _ hk
     exact ⟨o,e,ex⟩
   obtain ⟨o,e,ex⟩:=z
   refine ⟨⟨o,e,ex.1⟩,fun a e2 => ?_⟩
   cases e2
   exact ⟨o,e,ex.2.1⟩
  ·obtain ⟨o,_,_,_,e,ex,_⟩:=I.hok p _ hk
   refine ⟨⟨o,e,ex.1⟩,fun a e2 => ?_⟩
   cases e2
   exact ⟨o,e,ex.2.1⟩
 | _ => exact False.elim ty
def tBM (K : PySem.W.Frag) (T : String) (r : V → List V → Hp → VK → Prop) (to : TE) (t : TA) : TE:=fun σ H Q => to σ H fun x H1 => tyV K T x H1 ∧ t σ H1 fun xs H2 => r x xs H2 Q
variable {o e : Expr} {es : List Expr} {to : TE} {t : TA} {name : Str} {apos cpos : Pos} {T id : String} {r : V → List V → Hp → VK → Prop}
theorem zcZ (pa : PlainAttrs T) (slot : Slot T name id) (hty : typeOf (.builtin id) = pure (.type "method_descriptor")) (hm : MtR X id r) (ho : PE X o to) (ha : PA X (e :: es) t)
  (hbase : attributeBase o name X.env (eval o X.env) = eval o X.env:=by rfl)
  (hfew : ((backTo cpos (starEach (e :: es) X.env)).all (fun x => !x.1) && (backToKw cpos (keywordEach [] X.env)).all (fun x => x.1.isSome)
   && decide ((e :: es).length + ([] : List Keyword).length + (if ([] : List Keyword).isEmpty then 0 else 1) < 30)) = true:=by rfl)
  (hline : (apos.endLine == cpos.line) = true:=by rfl) (hs : starEach (e :: es) X.env = (false,eval e X.env) :: starEach es X.env:=by rfl) (hplain : (backTo cpos (starEach es X.env)).any (·.1) = false:=by rfl) :
  PE X (.Call (.Attribute o name apos) (e :: es) [] cpos) (tBM X.K T r to t):=by
 intro pins s σ H Q I h
 refine wpAny_Call_method_late hbase hfew hline rfl (thn (ho pins s σ H _ I h) fun v s1 ⟨x,H1,I1,r1,ty,q1⟩ => ?_)
 obtain ⟨h1,h2⟩:=zhF I1 r1 ty
 refine ⟨T,id,pa,slot,hty,h1,h2,?_⟩
 have hA:=ha cpos pins s1 σ H1 _ I1 q1
 rw [hs] at hA ⊢
 refine Calls.callWith_builtin (by show (false || (backTo cpos (starEach es X.env)).any (·.1)) = false; rw [hplain] <;> rfl) (Calls.evalArgs_plain ?_)
 exact thn hA fun us s2 ⟨vs,H2,I2,r2,q2⟩ => hm pins s2 σ H2 x vs v us Q I2 r1 r2 q2
end
end L2
namespace L2
open PySem PySem.Spec PyProof.Rows
def MtM (X : Cx) (id : String) (r : V → List V → Hp → VK → Prop) : Prop :=
 ∀ (pins : List (Addr × Obj)) (s : Shared) (σ : St) (H : Hp) (x : V) (xs : List V) (v : Value) (us : List Value) (Q : VK),Inv X pins σ H s → RelV x v → zx xs us → r x xs H Q →
  wpAny (model X.prog X.w) X.A (call (.builtin id) (v :: us)) (EP X pins σ Q) X.xe s
theorem zx.one : ∀ {x : V} {us : List Value},zx [x] us → ∃ u,us = [u] ∧ RelV x u
 | _,_,.cons r .nil => ⟨_,rfl,r⟩
theorem zx.eraseIdx : ∀ {xs : List V} {us : List Value} (i : Nat),zx xs us → zx (xs.eraseIdx i) (us.eraseIdx i)
 | _,_,_,.nil => .nil
 | _,_,0,.cons _ t => t
 | _,_,i + 1,.cons r t => .cons r (zx.eraseIdx i t)
theorem zx.rep {xs : List V} {us : List Value} (h : zx xs us) : ∀ k : Nat,zx (List.replicate k xs).flatten (List.replicate k us).flatten
 | 0 => .nil
 | k + 1 => by
  rw [List.replicate_succ,List.replicate_succ,List.flatten_cons,List.flatten_cons]
  exact zx.append h (zx.rep h k)
theorem zc0 {α : Type} : ∀ (l : List α) (i : Nat),(l.eraseIdx i).length ≤ l.length
 | [],_ => Nat.le_refl _
 | _ :: _,0 => Nat.le_succ _
 | _ :: r,i + 1 => Nat.succ_le_succ (zc0 r i)
theorem foldl_rep (its : List Value) : ∀ (k : Nat) (acc : List Value),
  List.foldl (fun x1 x2 => x1 ++ x2) acc.toArray (List.replicate k its.toArray) = (acc ++ (List.replicate k its).flatten).toArray
 | 0,acc => by simp
 | k + 1,acc => by
  have e : acc.toArray ++ its.toArray = (acc ++ its).toArray:=by simp
  have e2 : (acc ++ its) ++ (List.replicate k its).flatten = acc ++ (List.replicate (k + 1) its).flatten:=by
   rw [List.replicate_succ,List.flatten_cons,List.append_assoc]
  rw [← e2,← foldl_rep its k (acc ++ its),← e,List.replicate_succ,List.foldl_cons]
section
variable {X : Cx} {pins : List (Addr × Obj)} {σ : St} {H : Hp} {s : Shared} {l b : Addr} {xs ys zs : List V}
theorem Inv.lset {its its' : List Value} {n : Nat} {f : Array Value → Array Value} {t' : Nat} (I : Inv X pins σ H s) (hH : H l = some (.lst xs))
  (e : s.heap.get? l = some { cls:=.type "list",data:=.seq its.toArray n }) (hf : f its.toArray = its'.toArray) (hv : zx ys its') (hz : ys.length ≤ sizeLine) :
  Inv X pins σ (upd H l (.lst ys)) { s with heap:=s.heap.update l (Obj.mapSeq f),toks:=t' }:=by
 have q:=PySem.IsL.update e f
 rw [hf] at q
 refine I.write (x:=l) (e:=l) (by rw [hH]; exact trivial) (.inl rfl) (fun b' u hb hu => (Heap.get?_update_other s.heap (Obj.mapSeq f) (Ne.symm hb)).trans hu) ⟨_,q⟩ ?_
 exact ⟨hz,its',_,hv,q⟩
theorem Inv.lnew {its : List Value} {t' : Nat} (I : Inv X pins σ H s) (hv : zx ys its) (hz : ys.length ≤ sizeLine) :
  Inv X pins σ (upd H s.heap.objs.size (.lst ys)) { s with heap:=s.heap.push { cls:=.type "list",data:=.seq its.toArray },toks:=t' } :=
 I.laid (fun _ _ q => Heap.get?_push_of_some _ q) (Nat.le_refl _) ⟨hz,its,0,hv,Heap.get?_push_size _ rfl⟩
theorem Inv.fresh (I : Inv X pins σ H s) : H s.heap.objs.size = none:=I.hok.fresh (Nat.le_refl _)
theorem Inv.lstM (I : Inv X pins σ H s) (hH : H l = some (.lst xs)) : xs.length ≤ sizeLine ∧ ∃ (its : List Value) (n : Nat),zx xs its ∧ xs.length = its.length ∧ s.heap.get? l = some { cls:=.type "list",data:=.seq its.toArray n }:=by
 obtain ⟨z,its,n,r,e⟩:=I.hok l _ hH
 exact ⟨z,its,n,r,r.length,e⟩
theorem zfK {n : Nat} (h : n ≤ sizeLine) : Builtin.List.listTooLong n = false:=by
 unfold Builtin.List.listTooLong
 exact decide_eq_false (by omega)
end
section
variable {X : Cx}
def zgL : V → List V → Hp → VK → Prop:=fun x vs H Q => ∃ l xs y,x = .ref l ∧ vs = [y] ∧ H l = some (.lst xs) ∧ xs.length < sizeLine ∧ Q .non (upd H l (.lst (xs ++ [y])))
theorem zaW : MtM X "list.append" zgL:=by
 intro pins s σ H x vs v us Q I rx rv h
 obtain ⟨l,xs,y,rfl,rfl,hH,hz,q⟩:=h
 cases rx
 obtain ⟨u,rfl,ru⟩:=rv.one
 obtain ⟨z,its,n,r,hl,e⟩:=I.lstM hH
 refine call_meets F.slot_list_append ⟨_,e,rfl⟩ F.entry_list_append (F.args_list_append_2 _ _) (PySem.list_append l its.toArray n u (by rw [List.size_toArray]; omega)) ⟨e,?_⟩
 refine ⟨.non,_,I.lset (its':=its ++ [u]) hH e (by simp) (r.append (.cons ru .nil)) ?_,rfl,q⟩
 rw [List.length_append,List.length_singleton]
 omega
def zhG : V → List V → Hp → VK → Prop:=fun x vs H Q => ∃ l xs i k y,x = .ref l ∧ vs = [.int i] ∧ H l = some (.lst xs) ∧ -(2 ^ 63) ≤ i ∧ i < 2 ^ 63 ∧ seqIndex? i xs.length = some k ∧ xs[k]? = some y ∧ Q y (upd H l (.lst (xs.eraseIdx k)))
theorem zdG : MtM X "list.pop" zhG:=by
 intro pins s σ H x vs v us Q I rx rv h
 obtain ⟨l,xs,i,k,y,rfl,rfl,hH,h1,h2,hk,hy,q⟩:=h
 cases rx
 obtain ⟨u,rfl,ru⟩:=rv.one
 obtain ⟨t,rfl⟩:=ru
 obtain ⟨z,its,n,r,hl,e⟩:=I.lstM hH
 obtain ⟨w,hw,rw'⟩:=r.get hy
 refine call_meets F.slot_list_pop ⟨_,e,rfl⟩ F.entry_list_pop (F.args_list_pop_2 _ _)
  (MeetsSeq.list_pop_at l its.toArray n i t k w (fitsIndex_both h1 h2) (by rw [List.size_toArray,← hl]; exact hk) (by rw [← Array.getElem?_toList]; exact hw) (by rw [List.size_toArray]; omega)) ⟨e,?_⟩
 refine ⟨y,_,I.lset (its':=its.eraseIdx k) hH e ?_ (r.eraseIdx k) ?_,rw',q⟩
 ·show its.toArray.eraseIdxIfInBounds k = (its.eraseIdx k).toArray
  rw [List.eraseIdxIfInBounds_toArray]
 ·have:=zc0 xs k
  omega
def ziT : R2:=fun x y H Q => ∃ l b xs zs,x = .ref l ∧ y = .ref b ∧ H l = some (.lst xs) ∧ H b = some (.lst zs) ∧ xs.length + zs.length ≤ sizeLine ∧ ∀ p,H p = none → Q (.ref p) (upd H p (.lst (xs ++ zs)))
theorem zdl : OpR X (binaryOp .Add) ziT:=by
 intro pins s σ H x y v u Q I rx ry h
 obtain ⟨l,b,xs,zs,rfl,rfl,hH,hB,hz,q⟩:=h
 cases rx
 cases ry
 obtain ⟨z,its,n,r,hl,e⟩:=I.lstM hH
 obtain ⟨z2,its2,n2,r2,hl2,e2⟩:=I.lstM hB
 refine PySem.P.add_list e e2 ?_ (by rw [List.size_toArray,List.size_toArray]; omega)
 have ea : its.toArray ++ its2.toArray = (its ++ its2).toArray:=by simp
 rw [ea]
 exact ⟨.ref _,_,I.lnew (t':=s.toks) (r.append r2) (by rw [List.length_append]; omega),rfl,q _ I.fresh⟩
def ziU : R2:=fun x y H Q => ∃ l k xs,x = .ref l ∧ y = .int k ∧ H l = some (.lst xs) ∧ -(2 ^ 63) ≤ k ∧ k < 2 ^ 63 ∧ xs.length * k.toNat ≤ sizeLine ∧
 ∀ p,H p = none → Q (.ref p) (upd H p (.lst (List.replicate k.toNat xs).flatten))
theorem len_rep {α : Type} (xs : List α) (k : Nat) : (List.replicate k xs).flatten.length = k * xs.length:=by
 induction k with
 | zero => simp
 | succ k ih => rw [List.replicate_succ,List.flatten_cons,List.length_append,ih,Nat.succ_mul,Nat.add_comm]
theorem zfL : OpR X (binaryOp .Mult) ziU:=by
 intro pins s σ H x y v u Q I rx ry h
 obtain ⟨l,k,xs,rfl,rfl,hH,h1,h2,hz,q⟩:=h
 cases rx
 obtain ⟨t,rfl⟩:=ry
 obtain ⟨z,its,n,r,hl,e⟩:=I.lstM hH
 have hlen : its.toArray.size * k.toNat ≤ sizeLine:=by rw [List.size_toArray,← hl]; exact hz
 have hcap : ¬ its.toArray.size * k.toNat > (2 ^ 63 - 1) / 8:=by
  have : (sizeLine : Nat) ≤ (2 ^ 63 - 1) / 8:=by decide
  omega
 have hfit : ¬ (!Builtin.List.listFitsIndex k) = true:=by
  rw [fitsIndex_both h1 h2]
  exact Bool.false_ne_true
 have hlong : ¬ Builtin.List.listTooLong (its.toArray.size * k.toNat) = true:=by
  rw [zfK hlen]
  exact Bool.false_ne_true
 have hnew : List.foldl (fun x1 x2 => x1 ++ x2) #[] (List.replicate (if its.toArray.isEmpty = true then 0 else k.toNat) its.toArray) = (List.replicate k.toNat its).flatten.toArray:=by
  have f0 : ∀ m : Nat,List.foldl (fun x1 x2 => x1 ++ x2) #[] (List.replicate m its.toArray) = (List.replicate m its).flatten.toArray:=fun m => by
   have:=foldl_rep its m []
   rw [List.nil_append] at this
   exact this
  rw [f0]
  cases its with
  | nil => simp
  | cons a r' => rw [if_neg (by simp)]
 refine wpAny_binaryOp_repeat_ref (T:="list") (U:="int") (by decide) ⟨_,e,rfl⟩ (fun s' => typeIs_int s' k t) noFill_list_mul F.fills_int_mul F.slot_int_rmul repeat_list F.slot_int_index.lookup
  (call_meets F.slot_int_rmul (typeIs_int s k t) F.entry_int_rmul (F.args_int_rmul_2 _ _) (int___rmul___int_list k t l its.toArray n)
   ⟨e,rfl,⟨_,e,rfl⟩,call_meets F.slot_list_mul ⟨_,e,rfl⟩ F.entry_list_mul (F.args_list_mul_2 _ _) (AutoListH.list___mul___list_int_3 l its.toArray n k t hfit hcap hlong) ⟨e,?_⟩⟩)
 rw [hnew]
 exact ⟨.ref _,_,I.lnew (t':=s.toks) (r.rep k.toNat) (by rw [len_rep,Nat.mul_comm]; exact hz),rfl,q _ I.fresh⟩
end
section
variable {prog : Program} {w : World} {A : Around} {E : Value → Shared → Prop} {s : Shared}
end
section
variable {X : Cx}
end
end L2
namespace Att
open PySem PySem.W PySem.Calls PyProof.Rows
theorem zca {P : Params} {h : Heap} : ∀ (ns : List Int) (vs : List Value),WellAll P h vs (ns.map WData.int) → IntsAre vs ns:=by
 intro ns
 induction ns with
 | nil =>
  intro vs w
  rw [List.map_nil] at w
  cases w
  exact .nil
 | cons n ns ih =>
  intro vs w
  rw [List.map_cons] at w
  cases w with
  | cons a b =>
   cases a
   exact .cons _ _ (ih _ b)
theorem ze8 {l : OpenLaw} {n : Nat} (hn : l.most = some n) {P : Params} {h : Heap} {args : List WData} {vals : List Value}
  (hpre : l.row.toRowW.claim.pre args = true) (hwl : WellAll P h vals args) :
  ∃ a vs ns,vals = [Value.ref a] ∧ args = [WData.list (ns.map WData.int)] ∧ h.get? a = some { cls:=.type "list",data:=.seq vs.toArray } ∧ IntsAre vs ns ∧ ns.length ≤ n:=by
 have hsh : WShape.hasAll [] args [.list .int] = true:=(pre_splitW hpre).1
 have hc : l.pre.holds [] { args:=args } = true:=(pre_splitW hpre).2
 obtain ⟨d,r,rfl,h1,h2⟩:=hasAllW_cons hsh
 obtain rfl:=hasAllW_nil h2
 obtain ⟨xs,rfl,h3⟩:=hasW_list h1
 obtain ⟨ns,rfl⟩:=items_int h3
 have hlen : ns.length ≤ n:=by
  unfold OpenLaw.pre at hc
  have h4 : (WTm.not (.lt (.lit (.int (n : Int))) (.len (.arg 0)))).holds [] { args:=[.list (ns.map .int)] } = true:=by
   have h4:=(holds_andW hc).1
   rw [hn] at h4
   exact h4
  have h5:=condW_of h4 (w_not (w_lt w_lit (w_len_list (w_arg rfl))))
  rw [List.length_map] at h5
  refine Nat.le_of_not_lt fun q => ?_
  have q' : (n : Int) < ((ns.length : Nat) : Int):=by omega
  first
   | (rw [decide_eq_true q'] at h5; exact absurd h5 (by decide))
   | (simp at h5; omega)
 cases hwl with
 | cons w1 w2 =>
  cases w2
  cases w1 with
  | list ho hall => exact ⟨_,_,ns,rfl,rfl,ho,zca ns _ hall,hlen⟩
theorem ze9 (l : OpenLaw) (args : List WData) : l.row.toRowW.claim.post args (.bool true) args = true :=
 postW_of (r:=l.row.toRowW) (X:=(true == true))
  (show WShape.has [] (.bool true) .bool = true by first | rfl | decide | simp [WShape.has,WShape.arms,WShape.armsAll])
  (show (WTm.eq .res (.lit (.bool true))).value [] { args:=args,res:=some (.bool true),after:=args } = some (.bool (true == true)) from w_eq_bool (w_res rfl) w_lit) rfl
theorem attach_call {l : OpenLaw} {n : Nat} {q : Program} {loose : List Str} {XP : (Str → Option Value) → Heap → Prop} {YP : World → Heap → Prop} {d : DefRec}
  (hn : l.most = some n) (hdf : d.params.defaults = [])
  (call : ∀ (w : World) (s₀ s₁ : Shared) (mg mb : Str → Option Value) (fa : Addr) (o : Obj) (pm cd doc : Value) (a : Addr) (vs : List Value) (ns : List Int),
   Ground q loose [] XP w s₀ mg mb s₁.heap → YP w s₁.heap →
   s₁.heap.get? fa = some o → o.data = .func (docDef d.name d.params d.body d.scope pm cd doc) → s₁.heap.CodeRec cd d.name → mg d.name = some (.ref fa) →
   s₁.heap.get? a = some { cls:=.type "list",data:=.seq vs.toArray } → IntsAre vs ns → ns.length ≤ n → s₁.gens = #[] →
   codeAny (model l.prog w) callerA (.call (.ref fa) ⟨[.ref a],[]⟩) (fun r s' => r = .ok (.ret (.bool true)) ∧ OldK s₁.heap s'.heap ∧ s'.os = s₁.os ∧ AllBare s'.gens) s₁) :
  WalkO q loose XP YP l.row.toRowW d [] (fun f vs => PySem.call f vs):=by
 intro w s₀ s₁ mg mb G Y fa o pm cd doc dV kV ho hd hcd hD hmg hg args vals as hpre hlay hrd hwl hlo
 obtain rfl : dV = .none:=Dflts.none hD hdf
 obtain rfl : kV = .none:=Dflts.noKw hD
 obtain ⟨a,vs,ns,rfl,rfl,hobj,hints,hlen⟩:=ze8 hn hpre hwl
 refine enter_call (codeAny_mono (call w s₀ s₁ mg mb fa o pm cd doc a vs ns G Y ho (fd_plain hd) hcd hmg hobj hints hlen hg) fun r s' hq => ?_)
 obtain ⟨rfl,h2,h3,h4⟩:=hq
 exact ⟨.inl ⟨.bool true,.bool true,[],rfl,fun _ => rfl,.bool true,ze9 l _,fun _ => ⟨List.Pairwise.nil,fun _ hm => (nomatch hm)⟩⟩,h2,h3,h4⟩
section
variable {prog : Program} {w : World} {A : Around} {E : Value → Shared → Prop} {s : Shared} {K : Frag}
end
end Att
namespace L2
open PySem PySem.Spec PyProof.Rows
theorem zc1 : ∀ {vs : List Value} {ns : List Int},IntsAre vs ns → zx (ns.map V.int) vs
 | _,_,.nil => .nil
 | _,_,.cons n t h => .cons ⟨t,rfl⟩ (zc1 h)
def zhH (H : Hp) : Prop:=∀ b,H b = none ∨ ∃ o xs,H b = some (.frz o (.lst xs))
theorem zfM {P : Program} {w : World} {K : PySem.W.Frag} {mg mb : Str → Option Value} {CX : CXT} {k : Nat} {fa a : Addr} {fd : FuncData} {x : Str} {sp : Sp} {s₁ : Shared} {vs : List Value} {ns : List Int}
  (KX : K.In s₁.heap) (hns : s₁.heap.Ns mainGlobals mg) (hb : s₁.heap.Ns builtinsNs mb) (hbb : ∀ x : Str,x ≠ "__name__" → mb x = bootBuiltins x) (hlim : s₁.heap.NoLimit) (hg : s₁.gens = #[])
  (ha : s₁.heap.get? a = some { cls:=.type "list",data:=.seq vs.toArray }) (hi : IntsAre vs ns) (hl : ns.length ≤ sizeLine) (hr : Room k callerA)
  (F : ∀ base : Heap,K.In base → base.Ns mainGlobals mg → FnOk P w K mg base CX k fa fd [x] sp) (hbind : ∀ (s : Shared) (u : Value),BindsTo s fd ⟨[u],[]⟩ [(x,u)])
  (hsp : ∀ H : Hp,zhH H → SqL K H a (ns.map V.int) → sp [.ref a] H (fun v _ => v = .bl true) fun _ _ _ => False)
  (hCX : ∀ H e s',CX [] H s₁ (fun _ _ _ => False) e s' → False) :
  codeAny (model P w) callerA (.call (.ref fa) ⟨[.ref a],[]⟩) (fun r s' => r = .ok (.ret (.bool true)) ∧ OldK s₁.heap s'.heap ∧ s'.os = s₁.os ∧ AllBare s'.gens) s₁:=by
 have rv:=zc1 hi
 have lenV:=hi.length
 have core : ∀ H : Hp,zhH H → SqL K H a (ns.map V.int) → HOk P w H s₁.heap → (∀ b,H b ≠ none → b = a) → (H a ≠ none → K.lookup a = none) →
   codeAny (model P w) callerA (.call (.ref fa) ⟨[.ref a],[]⟩) (fun r s' => r = .ok (.ret (.bool true)) ∧ OldK s₁.heap s'.heap ∧ s'.os = s₁.os ∧ AllBare s'.gens) s₁:=by
  intro H hO hS hok hA hK
  have base_of : ∀ {b : Addr} {o : Obj},s₁.heap.get? b = some o → H b = none → (zdg s₁.heap H).get? b = some o:=fun e n => zfu e n
  have noA : ∀ {b : Addr} {o : Obj} {es : Array DictEntry} {ep : Nat},s₁.heap.get? b = some o → o.data = .dict es ep → H b = none:=fun {b o es ep} e d => by
   cases q : H b with
   | none => rfl
   | some u =>
    have e' : b = a:=hA b (by rw [q]; simp)
    subst e'
    rw [ha] at e; cases e
    have d' : Data.seq vs.toArray _ = Data.dict es ep:=d
    cases d'
  have nsK : ∀ {b : Addr} {m : Str → Option Value},s₁.heap.Ns b m → (zdg s₁.heap H).Ns b m:=fun {b m} ⟨o,es,ep,e,d,r⟩ => ⟨o,es,ep,base_of e (noA e d),d,r⟩
  have hKb : K.In (zdg s₁.heap H):=fun b o e => base_of (KX b o e) (by
   cases q : H b with
   | none => rfl
   | some u =>
    have e' : b = a:=hA b (by rw [q]; simp)
    subst e'
    rw [hK (by rw [q]; simp)] at e; cases e)
  have hM : Mod K mg (zdg s₁.heap H):=⟨hKb,nsK hns,⟨mb,nsK hb,hbb⟩,let ⟨mc,h1,h2⟩:=hlim; ⟨mc,nsK h1,h2⟩⟩
  have e0 : Env0 P w K mg (zdg s₁.heap H) callerA [] s₁ H:=⟨rfl,hM,fun b o e => zgB e,Nat.le_of_eq (ze4 _ _),trivial,fun b hb => absurd (show b ∈ ([] : List Addr) from hb) (by simp),hok,.of_eq hg⟩
  refine codeAny_mono ((F _ hKb (nsK hns)).run callerA [] s₁ H ⟨[.ref a],[]⟩ [.ref a] [.ref a] _ _ hr e0 (hbind s₁ (.ref a)) (.cons rfl .nil) (hsp H hO hS)) fun r s' h => ?_
  cases r with
  | error e => exact (hCX H e s' h).elim
  | ok fl =>
   cases fl with
   | next => exact False.elim h
   | brk => exact False.elim h
   | cont => exact False.elim h
   | ret u =>
    obtain ⟨v,H',os,bare,un,hok',r',q⟩:=h
    have q' : v = .bl true:=q
    subst q'
    obtain rfl : u = Value.bool true:=r'
    refine ⟨rfl,OldK.of_keep fun b o e => ?_,os,bare⟩
    cases q : H b with
    | none => exact un.keep b o e q (by intro z; exact absurd (show b ∈ ([] : List Addr) from z) (by simp)) (by simp)
    | some u =>
     rcases hO b with z | ⟨ob,xs,z⟩
     ·rw [q] at z; cases z
     ·have z2:=un.frzs b ob _ z
      obtain ⟨e1,_⟩:=hok b _ z
      obtain ⟨e2,_⟩:=hok' b _ z2
      rw [e] at e1; cases e1
      exact e2
 cases hk : K.lookup a with
 | some o =>
  have e:=KX a o hk
  rw [ha] at e
  cases e
  refine core (fun _ => none) (fun _ => .inl rfl) (.inr ⟨_,vs.toArray,_,hk,rfl,rfl,rfl,by rw [List.size_toArray,lenV]; exact hl,by simpa using rv⟩) (fun b u z => by have z' : (none : Option HO) = some u:=z; cases z') (fun b z => absurd rfl z) fun z => absurd rfl z
 | none =>
  refine core (fun b => if b = a then some (.frz { cls:=.type "list",data:=.seq vs.toArray } (.lst (ns.map V.int))) else none) (fun b => ?_) (.inl (.inr ⟨{ cls:=.type "list",data:=.seq vs.toArray },if_pos rfl⟩)) (fun b u z => ?_) (fun b z => ?_) fun _ => hk
  ·by_cases hb : b = a
   ·exact .inr ⟨_,_,if_pos hb⟩
   ·exact .inl (if_neg hb)
  ·by_cases hb : b = a
   ·have z':=(if_pos hb).symm.trans z
    cases z'
    subst hb
    exact ⟨ha,by rw [List.length_map]; exact hl,vs,_,rv,ha⟩
   ·have z':=(if_neg hb).symm.trans z
    cases z'
  ·by_cases hb : b = a
   ·exact hb
   ·exact absurd (if_neg hb) z
end L2
namespace L2
open PySem PySem.Spec PyProof.Rows
theorem zgM {l : PySem.W.OpenLaw} {n k : Nat} {q : Program} {loose : List Str} {XP : (Str → Option Value) → Heap → Prop} {YP : World → Heap → Prop} {d : DefRec} {K : Params → PySem.W.Frag} {CX : World → CXT} {sp : World → Sp} {x : Str}
  (hn : l.most = some n) (hn2 : n ≤ sizeLine) (hdf : d.params.defaults = []) (hr : Room k callerA)
  (hY : ∀ (w : World) (h : Heap),YP w h → (K w.params).In h)
  (F : ∀ (w : World) (mg : Str → Option Value) (fa : Addr) (h : Heap),(K w.params).In h → h.Ns mainGlobals mg → mg d.name = some (.ref fa) →
   ∃ fd : FuncData,(∀ (s : Shared) (u : Value),BindsTo s fd ⟨[u],[]⟩ [(x,u)]) ∧
    ∀ base : Heap,(K w.params).In base → base.Ns mainGlobals mg → FnOk l.prog w (K w.params) mg base (CX w) k fa fd [x] (sp w))
  (hsp : ∀ (w : World) (H : Hp) (a : Addr) (ns : List Int),ns.length ≤ n → zhH H → SqL (K w.params) H a (ns.map V.int) → sp w [.ref a] H (fun v _ => v = .bl true) fun _ _ _ => False)
  (hCX : ∀ (w : World) (H : Hp) (s : Shared) (e : Value) (s' : Shared),CX w [] H s (fun _ _ _ => False) e s' → False) :
  PySem.W.WalkO q loose XP YP l.row.toRowW d [] (fun f vs => PySem.call f vs):=by
 refine Att.attach_call hn hdf fun w s₀ s₁ mg mb fa o pm cd doc a vs ns G Y ho hd hcd hmg hobj hints hlen hg => ?_
 have KX:=hY w _ Y
 obtain ⟨fd,hb,hF⟩:=F w mg fa _ KX G.T.g hmg
 exact zfM KX G.T.g G.T.b G.T.builtins G.T.nolimit hg hobj hints (Nat.le_trans hlen hn2) hr hF hb (fun H hO hS => hsp w H a ns hlen hO hS) fun H e s' => hCX w H s₁ e s'
end L2
namespace L2
open PySem PySem.Spec PyProof.Rows
def zaN (s : Stmt) : Arguments:=match s with
 | .FunctionDef _ a _ _ _ _ _ _ _ _ => a
 | _ => { posonlyargs:=[],args:=[],vararg:=none,kwonlyargs:=[],kw_defaults:=[],kwarg:=none,defaults:=[] }
def zaF (s : Stmt) : List Stmt:=match s with
 | .FunctionDef _ _ b _ _ _ _ _ _ _ => b
 | _ => []
def zj (s : Stmt) : Scope:=match s with
 | .FunctionDef _ _ _ _ _ _ sc _ _ _ => sc
 | _ => { kind:=.function,names:=[],isGenerator:=false,isCoroutine:=false }
abbrev CX0 : CXT:=fun _ _ _ _ _ _ => False
abbrev E0 : XK:=fun _ _ _ => False
theorem zP {X : Cx} : zd8 CX0 X E0:=fun _ _ _ _ _ _ _ h => h.elim
structure Fun (K : PySem.W.Frag) (x qual : Str) (st : Stmt) (f : Addr) (fd : FuncData) : Prop where
 ex : ∃ (oc : Value) (od : Option Addr) (kV doc pm : Value) (an : Option Addr) (cdv ct : Value) (osl : Array (Option Value)),
  fd = PySem.W.fnOf x qual (zaN st) (zaF st) (zj st) .none kV doc pm an cdv ct ∧ K.lookup f = some ⟨oc,od,.func fd,osl⟩ ∧ PySem.W.codeIn K cdv qual = true
 kp : PySem.W.keepIn K (.ref f) = true
section
variable {P : Program} {w : World} {K : PySem.W.Frag} {mg : Str → Option Value} {base : Heap}
theorem Fun.ok {x qual : Str} {st : Stmt} {f : Addr} {fd : FuncData} {N ps : List Str} {k : Nat} {sp : Sp} (F : Fun K x qual st f fd) (S : FnScope N ps (zj st)) (len : ∀ vs H Q E,sp vs H Q E → vs.length = ps.length)
  (hbody : ∀ (cdv : Value) (A : Around) (outer : List Env) (s : Shared) (H : Hp) (vs : List V) (Q : VK) (E : XK),Room k (A.deeper (envOfC qual (zj st) s.heap.objs.size f cdv)) → sp vs H Q E →
   ∃ t,PSs (ze5 CX0 P w K mg base N qual (zj st) f cdv A outer s H E).nox (zaF st) t ∧ t { nx:=fun _ H' => Q .non H',rt:=Q } (start N vs) H) : FnOk P w K mg base CX0 (k + 1) f fd ps sp:=by
 obtain ⟨oc,od,kV,doc,pm,an,cdv,ct,osl,rfl,lk,hcd⟩:=F.ex
 refine zir lk hcd S len fun A outer s H vs Q E hr hsp => ?_
 obtain ⟨t,h,q⟩:=hbody cdv A outer s H vs Q E hr hsp
 exact ⟨t,h.nox,q⟩
theorem Fun.binds {x qual : Str} {st : Stmt} {f : Addr} {fd : FuncData} {ps : List Str} (F : Fun K x qual st f fd)
  (h : ∀ (kV doc pm : Value) (an : Option Addr) (cdv ct : Value) (us : List Value),us.length = ps.length → bindArgs (PySem.W.fnOf x qual (zaN st) (zaF st) (zj st) .none kV doc pm an cdv ct) ⟨us,[]⟩ = pure (ps.zip us)) : Binds K fd ps []:=by
 obtain ⟨oc,od,kV,doc,pm,an,cdv,ct,osl,rfl,lk,hcd⟩:=F.ex
 exact .all (h kV doc pm an cdv ct)
theorem zfN {x qual : Str} {st : Stmt} {f : Addr} {oc : Value} {od an : Option Addr} {osl : Array (Option Value)} {kV doc pm cdv ct : Value} (l : K.lookup f = some ⟨oc,od,.func (PySem.W.fnOf x qual (zaN st) (zaF st) (zj st) .none kV doc pm an cdv ct),osl⟩)
  (c : PySem.W.codeIn K cdv qual = true) (k : PySem.W.keepIn K (.ref f) = true) : Fun K x qual st f (PySem.W.fnOf x qual (zaN st) (zaF st) (zj st) .none kV doc pm an cdv ct):=⟨⟨oc,od,kV,doc,pm,an,cdv,ct,osl,rfl,l,c⟩,k⟩
end
section
variable {X : Cx}
end
theorem zhI {A B : Prop} (h : B) : if false = true then A else B:=by
 rw [if_neg Bool.false_ne_true]
 exact h
theorem ziV {A B : Prop} (h : A) : if true = true then A else B:=by
 rw [if_pos rfl]
 exact h
theorem za2 {c A B : Prop} [Decidable c] (h1 : c → A) (h2 : ¬ c → B) : if c then A else B:=by
 by_cases h : c
 ·rw [if_pos h]
  exact h1 h
 ·rw [if_neg h]
  exact h2 h
def zB (H H' : Hp) : Prop:=∀ b o,H b = some o → H' b = some o
theorem zB.trans {H H1 H2 : Hp} (a : zB H H1) (b : zB H1 H2) : zB H H2:=fun c o h => b c o (a c o h)
theorem zB.free {H H' : Hp} (e : zB H H') {l : Addr} (h : H' l = Option.none) : H l = Option.none:=by
 cases q : H l with
 | none => rfl
 | some o =>
  rw [e l o q] at h
  cases h
theorem zB.seq {K : PySem.W.Frag} {H H' : Hp} {a : Addr} {xs : List V} (e : zB H H') (h : SqL K H a xs) : SqL K H' a xs:=by
 rcases h with (h | ⟨o,h⟩) | h
 ·exact .inl (.inl (e _ _ h))
 ·exact .inl (.inr ⟨o,e _ _ h⟩)
 ·exact .inr h
end L2
section
set_option maxHeartbeats 3999000
namespace L2
open PySem PySem.Spec PyProof.Rows
def zZ (cs : List (Str × Addr)) : List (Str × NameKind) → List (Str × Addr) → List (Str × Addr)
 | [],acc => acc
 | (n,k) :: r,acc => if k == .free then zZ cs r ((n,(cs.lookup n).getD 0) :: acc) else zZ cs r acc
theorem zaT {scope : Scope} {env : Env} (h : ∀ y ∈ scope.names,y.2 = .free → ∃ c,env.cells.lookup y.1 = some c) :
  closureFor scope env = pure (zZ env.cells scope.names []):=by
 have go : ∀ (names : List (Str × NameKind)) (acc : List (Str × Addr)),(∀ y ∈ names,y.2 = .free → ∃ c,env.cells.lookup y.1 = some c) →
   (forIn names acc (fun (x : Str × NameKind) (cs : List (Str × Addr)) => (if (x.2 == NameKind.free) = true then do
    let a ← cellOf env x.1
    pure (ForInStep.yield ((x.1,a) :: cs)) else pure (ForInStep.yield cs) : Sem (ForInStep (List (Str × Addr)))))) = (pure (zZ env.cells names acc) : Sem _):=by
  intro names
  induction names with
  | nil => intro acc _; rfl
  | cons y r ih =>
   intro acc hy
   obtain ⟨n,k⟩:=y
   rw [List.forIn_cons]
   cases hk : (k == NameKind.free) with
   | true =>
    obtain ⟨c,hc⟩:=hy (n,k) List.mem_cons_self (by simpa using hk)
    have hcell : cellOf env n = pure c:=by
     unfold cellOf
     have hc' : env.cells.lookup n = some c:=hc
     rw [hc']
    simp only [hk,if_true,hcell]
    have e:=ih ((n,c) :: acc) fun y hy' => hy y (List.mem_cons_of_mem _ hy')
    have hc' : env.cells.lookup n = some c:=hc
    simp only [zZ,hk,if_true,hc',Option.getD_some]
    exact e
   | false =>
    simp only [hk,Bool.false_eq_true,if_false]
    have e:=ih acc fun y hy' => hy y (List.mem_cons_of_mem _ hy')
    simp only [zZ,hk,Bool.false_eq_true,if_false]
    exact e
 have e:=go scope.names [] h
 unfold closureFor
 show (forIn scope.names [] _ >>= fun cs => pure cs) = _
 first
  | (rw [e]; rfl)
  | (simp only []; rw [e]; rfl)
  | (have e':=e; simp at e' ⊢; exact e')
theorem zaA {cs : List (Str × Addr)} : ∀ (names : List (Str × NameKind)) (acc : List (Str × Addr)),
  (∀ y ∈ names,y.2 = .free → ∃ c,cs.lookup y.1 = some c) → (∀ x c,acc.lookup x = some c → cs.lookup x = some c) →
  ∀ x c,(zZ cs names acc).lookup x = some c → cs.lookup x = some c
 | [],acc,_,h,x,c,e => h x c e
 | (n,k) :: r,acc,hy,h,x,c,e => by
  have hr : ∀ y ∈ r,y.2 = .free → ∃ c,cs.lookup y.1 = some c:=fun y hy' => hy y (List.mem_cons_of_mem _ hy')
  unfold zZ at e
  cases hk : (k == NameKind.free) with
  | false =>
   rw [hk] at e
   exact zaA r acc hr h x c e
  | true =>
   rw [hk] at e
   obtain ⟨d,hd⟩:=hy (n,k) List.mem_cons_self (by simpa using hk)
   have hd' : cs.lookup n = some d:=hd
   refine zaA r _ hr (fun x c e' => ?_) x c e
   rw [hd',Option.getD_some,List.lookup_cons] at e'
   cases hx : (x == n) with
   | true =>
    rw [hx] at e'
    have : x = n:=by simpa using hx
    subst this
    rw [hd']
    exact e'
   | false =>
    rw [hx] at e'
    exact h x c e'
theorem zaw {cs : List (Str × Addr)} : ∀ (names : List (Str × NameKind)) (acc : List (Str × Addr)) (x : Str),
  ((∃ c,acc.lookup x = some c) ∨ (x,NameKind.free) ∈ names) → ∃ c,(zZ cs names acc).lookup x = some c
 | [],acc,x,h => by
  rcases h with h | h
  ·exact h
  ·cases h
 | (n,k) :: r,acc,x,h => by
  unfold zZ
  cases hk : (k == NameKind.free) with
  | false =>
   refine zaw r acc x ?_
   rcases h with h | h
   ·exact .inl h
   ·rcases List.mem_cons.mp h with h | h
    ·cases h
     exact absurd hk (by decide)
    ·exact .inr h
  | true =>
   refine zaw r _ x ?_
   cases hx : (x == n) with
   | true => exact .inl ⟨_,by rw [List.lookup_cons,hx]⟩
   | false =>
    rcases h with ⟨c,h⟩ | h
    ·exact .inl ⟨c,by rw [List.lookup_cons,hx]; exact h⟩
    ·rcases List.mem_cons.mp h with h | h
     ·cases h
      simp at hx
     ·exact .inr h
theorem lookup_mem {α : Type} : ∀ {l : List (Str × α)} {x : Str} {k : α},l.lookup x = some k → (x,k) ∈ l
 | [],x,k,h => by simp at h
 | (n,j) :: r,x,k,h => by
  rw [List.lookup_cons] at h
  cases hx : (x == n) with
  | true =>
   rw [hx] at h
   have : x = n:=by simpa using hx
   subst this
   cases h
   exact List.mem_cons_self
  | false =>
   rw [hx] at h
   exact List.mem_cons_of_mem _ (lookup_mem h)
theorem z7 {env : Env} : ∀ {names : List (Str × NameKind)} {x : Str},names.lookup x = some .free →
  (names.map fun (n,k) => if (k == NameKind.free && env.scope.kind == .function && env.kindOf n == some .cell) then (n,NameKind.cell) else (n,k)).lookup x = some .cell ∨
  (names.map fun (n,k) => if (k == NameKind.free && env.scope.kind == .function && env.kindOf n == some .cell) then (n,NameKind.cell) else (n,k)).lookup x = some .free
 | [],_,h => by simp at h
 | (n,k) :: r,x,h => by
  have ih:=@z7 env r x
  simp only [List.map_cons]
  cases hx : x == n with
  | true =>
   simp only [List.lookup_cons,hx] at h; cases h
   by_cases hc : (NameKind.free == NameKind.free && env.scope.kind == .function && env.kindOf n == some .cell) = true
   ·rw [if_pos hc]; left; simp only [List.lookup_cons,hx]
   ·rw [if_neg hc]; right; simp only [List.lookup_cons,hx]
  | false =>
   simp only [List.lookup_cons,hx] at h; rcases Classical.em ((k == NameKind.free && env.scope.kind == .function && env.kindOf n == some .cell) = true) with hc | hc
   ·exact (by rw [if_pos hc]; simp only [List.lookup_cons,hx]; exact ih h)
   ·exact (by rw [if_neg hc]; simp only [List.lookup_cons,hx]; exact ih h)
theorem za3 {env : Env} : ∀ {names : List (Str × NameKind)} {x : Str},
  ((names.map fun (n,k) => if (k == NameKind.free && env.scope.kind == .function && env.kindOf n == some .cell) then (n,NameKind.cell) else (n,k)).lookup x = some .cell ∨
  (names.map fun (n,k) => if (k == NameKind.free && env.scope.kind == .function && env.kindOf n == some .cell) then (n,NameKind.cell) else (n,k)).lookup x = some .free) →
  names.lookup x = some .free ∨ names.lookup x = some .cell
 | [],_,h => by simp at h
 | (n,k) :: r,x,h => by
  have ih:=@za3 env r x
  simp only [List.map_cons] at h
  cases hx : x == n with
  | true =>
   rcases Classical.em ((k == NameKind.free && env.scope.kind == .function && env.kindOf n == some .cell) = true) with hc | hc
   ·have hk : k = .free:=by
     simp only [Bool.and_eq_true] at hc; simpa using hc.1.1
    subst hk
    exact .inl (by simp only [List.lookup_cons,hx])
   ·rw [if_neg hc] at h
    simp only [List.lookup_cons,hx] at h ⊢
    rcases h with h | h
    ·exact .inr h
    ·exact .inl h
  | false =>
   rcases Classical.em ((k == NameKind.free && env.scope.kind == .function && env.kindOf n == some .cell) = true) with hc | hc
   ·rw [if_pos hc] at h
    simp only [List.lookup_cons,hx] at h ⊢
    exact ih h
   ·rw [if_neg hc] at h
    simp only [List.lookup_cons,hx] at h ⊢
    exact ih h
end L2
end
section
set_option maxHeartbeats 3999000
namespace L2
open PySem PySem.Spec PyProof.Rows
abbrev zA (X : Cx) (N' : List Str) (scope : Scope) (s₃ : Shared) (H₃ : Hp) (ex : List Addr) (pins : List (Addr × Obj)) : Cx :=
 { X with N:=N',s₀:=s₃,H₀:=H₃,env:=compEnvC scope (zZ X.env.cells scope.names []) s₃.heap.objs.size X.env,outer:=X.stack,stack:=X.stack,ex:=ex,fn:=fun _ => false,pn:=X.pn ++ pins,xe:=fun _ _ => False }
def zdm (ifs : List Expr) (env : Env) : Sem Bool :=
 forIn ifs true fun c r => if r = true then do let ok ← isTrue c env (eval c env); pure (ForInStep.yield ok) else pure (ForInStep.yield r)
def zcb (X : Cx) (ifs : List Expr) (t : TT) : Prop :=
 ∀ (pins : List (Addr × Obj)) (s : Shared) (σ : St) (H : Hp) (Q : Bool → Hp → Prop),Inv X pins σ H s → t σ H Q → wpAny (model X.prog X.w) X.A (zdm ifs X.env) (TP X pins σ Q) X.xe s
def zhJ : TT:=fun _ H Q => Q true H
theorem zL {X : Cx} : zcb X [] zhJ:=fun _ _ _ H _ I h => wpAny_pure ⟨H,I,h⟩
theorem zdH {X : Cx} {c : Expr} {t : TT} (h : PT X c t) : zcb X [c] t:=by
 intro pins s σ H Q I hw
 unfold zdm
 rw [List.forIn_cons]
 simp only [if_true]
 exact wpAny_bind (wpAny_bind (thn (h pins s σ H _ I hw) fun b s1 q => wpAny_pure (wpAny_pure q)))
structure CompSc (X : Cx) (N' : List Str) (ix : List (Option Nat)) (scope : Scope) : Prop where
 kind : scope.kind = .function
 nocell : ∀ y ∈ scope.names,y.2 ≠ .cell
 names : ∀ y ∈ scope.names,y.2 = .local → scope.names.lookup y.1 = some .local
 free : ∀ y ∈ scope.names,y.2 = .free → X.env.kindOf y.1 = some .cell ∨ X.env.kindOf y.1 = some .free
 len : N'.length = ix.length
 cap : ∀ j i : Nat,ix[j]? = some (some i) → ∃ x,N'[j]? = some x ∧ X.N[i]? = some x ∧ scope.names.lookup x = some .free
def zeE (osc : Scope) (oN N' : List Str) (ix : List (Option Nat)) (scope : Scope) : Bool :=
 (scope.kind == .function) && (scope.names.all fun y => y.2 != .cell) && (scope.names.all fun y => y.2 != .local || scope.names.lookup y.1 == some .local) &&
 (scope.names.all fun y => y.2 != .free || (osc.names.lookup y.1 == some .cell || osc.names.lookup y.1 == some .free)) && (N'.length == ix.length) &&
 ((List.range ix.length).all fun j => match ix[j]? with
  | some (some i) => (match N'[j]? with
   | some x => oN[i]? == some x && scope.names.lookup x == some .free
   | none => false)
  | _ => true)
theorem CompSc.of {X : Cx} {N' : List Str} {ix : List (Option Nat)} {scope : Scope} (osc : Scope) (oN : List Str) (h1 : X.env.scope = osc) (h2 : X.N = oN) (hb : zeE osc oN N' ix scope = true) : CompSc X N' ix scope:=by
 unfold zeE at hb
 simp only [Bool.and_eq_true,List.all_eq_true] at hb
 obtain ⟨⟨⟨⟨⟨a,b⟩,c⟩,d⟩,e⟩,f⟩:=hb
 refine ⟨?_,fun y hy => ?_,fun y hy hl => ?_,fun y hy hf => ?_,by simpa using e,fun j i hj => ?_⟩
 ·revert a
  cases scope.kind <;> first | (intro _; rfl) | (intro h; exact absurd h (by decide))
 ·have:=b y hy
  simpa using this
 ·have:=c y hy
  rw [hl] at this
  simpa using this
 ·have:=d y hy
  rw [hf] at this
  have e1 : X.env.kindOf y.1 = osc.names.lookup y.1:=by rw [← h1]; rfl
  rw [e1]
  simpa using this
 ·have hlt : j < ix.length:=(List.getElem?_eq_some_iff.mp hj).1
  have:=f j (List.mem_range.mpr hlt)
  rw [hj] at this
  cases hN : N'[j]? with
  | none =>
   rw [hN] at this
   simp at this
  | some x =>
   rw [hN] at this
   refine ⟨x,rfl,?_⟩
   rw [h2]
   simpa using this
def zX (ix : List (Option Nat)) (σ : St) : St:=ix.map fun o => match o with
 | none => none
 | some i => (σ[i]?).join
theorem Inv.track {X : Cx} {pins : List (Addr × Obj)} {σ : St} {H : Hp} {s : Shared} {D : Addr} {o : HO} (I : Inv X pins σ H s) (hn : H D = none) (hs : X.s₀.heap.objs.size ≤ D) (hL : X.env.locals ≠ D)
  (hC : ∀ x c,X.env.cells.lookup x = some c → c ≠ D) (hp : ∀ p ∈ X.pn ++ pins,p.1 ≠ D) (ok : zaD X.prog X.w (upd H D o) s.heap D o) : Inv X pins σ (upd H D o) s:=by
 have ne : ∀ b u,H b = some u → b ≠ D:=fun b u e => zu e hn
 refine ⟨I.ok,I.os,I.bare,⟨I.base.keep,I.base.slot,fun b u e n hx => ?_,I.base.there,fun b xs e => ?_,fun b u xs e => ?_,fun b ps e => ?_⟩,I.loc,I.cell,?_,fun x c e => ?_,fun p hp' => ?_,fun b u e => ?_,I.len⟩
 ·have : b ≠ D:=Nat.ne_of_lt (Nat.lt_of_lt_of_le (Heap.lt_size e) hs)
  rw [zn this]
  exact I.base.free b u e n hx
 ·have:=I.base.tups b xs e
  rw [zn (ne b _ this)]
  exact this
 ·have:=I.base.frzs b u xs e
  rw [zn (ne b _ this)]
  exact this
 ·obtain ⟨more,q⟩:=I.base.tbls b ps e
  exact ⟨more,by rw [zn (ne b _ q)]; exact q⟩
 ·rw [zn hL]
  exact I.free
 ·rw [zn (hC x c e)]
  exact I.freeC x c e
 ·obtain ⟨a1,a2,a3⟩:=I.pin p hp'
  exact ⟨a1,by rw [zn (hp p hp')]; exact a2,a3⟩
 ·by_cases hb : b = D
  ·subst hb
   rw [zb] at e
   cases e
   exact ok
  ·rw [zn hb] at e
   exact (I.hok b u e).stay (fun c v _ q => q) (fun c q => by rw [zn (ne c _ q)]; exact q) fun c xs q => by rw [zn (ne c _ q)]; exact q
theorem zbf {prog : Program} {w : World} {A : Around} {R : Result → Shared → Prop} {s : Shared} {elt target iter : Expr} {ifs : List Expr} {scope : Scope} {pos : Pos} {it acc : Value} {env : Env} (I : Nat → Shared → Prop) (turn : ∀ n s,I n s → wpAny (model prog w) A (pyNext it) (fun r s₁ => match r with
   | none => R (.ok .next) s₁
   | some v => wpAny (model prog w) A (letOwnedTupleGo target it v) (fun _ s₁' => wpAny (model prog w) A (assign target env v) (fun _ s₂ =>
     wpAny (model prog w) A (zdm ifs env) (fun ok s₃ => if ok = true then wpAny (model prog w) A (eval elt env) (fun x s₄ =>
       wpAny (model prog w) A (call (.builtin "list.append") [acc,x]) (fun _ s₅ => ∃ m,m < n ∧ I m s₅) (fun _ _ => False) s₄) (fun _ _ => False) s₃
      else ∃ m,m < n ∧ I m s₃) (fun _ _ => False) s₂) (fun _ _ => False) s₁') (fun _ _ => False) s₁) (fun _ _ => False) s)
  (n : Nat) (h : I n s) : codeAny (model prog w) A (.compLoop (.ListComp elt [⟨target,iter,ifs,0⟩] scope pos) 0 it acc env) R s:=by
 refine codeAny_loop rfl I (fun n s hI => ?_) n h; show wpAny _ A ((compTurn (.ListComp elt [⟨target,iter,ifs,0⟩] scope pos) 0 it acc env).onRaise (fun x => do noteFrame x env; theTreesLotGoes x)) _ _ s
 refine wpAny_noted ?_
 rw [compTurn_list]
 refine wpAny_bind (wpAny_standAt (wpAny_bind (wpAny_mono (turn n s hI) (fun r s₁ h₁ => ?_) fun _ _ z => False.elim z)))
 cases r with
 | none => exact wpAny_pure h₁
 | some v =>
  refine wpAny_bind (wpAny_mono h₁ (fun _ s₁' h₁' => ?_) fun _ _ z => False.elim z)
  refine wpAny_bind (wpAny_mono h₁' (fun _ s₂ h₂ => wpAny_bind (wpAny_mono h₂ (fun ok s₃ h₃ => ?_) fun _ _ z => False.elim z)) fun _ _ z => False.elim z)
  cases ok with
  | false => exact (wpAny_pure ⟨rfl,h₃⟩)
  | true =>
   exact wpAny_bind (wpAny_bind (wpAny_mono h₃ (fun x s₄ h₄ => wpAny_bind (wpAny_mono h₄ (fun _ s₅ h₅ => wpAny_pure (wpAny_pure ⟨rfl,h₅⟩)) fun _ _ z => False.elim z)) fun _ _ z => False.elim z))
def Wk (σ0 σ1 : St) : Prop:=σ1.length = σ0.length ∧ ∀ (j : Nat) v,σ0[j]? = some (some v) → σ1[j]? = some (some v)
theorem Wk.refl (σ : St) : Wk σ σ:=⟨rfl,fun _ _ h => h⟩
theorem Wk.set {ix : List (Option Nat)} {σ σ1 : St} {i : Nat} {v : Option V} (hi : ix[i]? = some none) (h : Wk (zX ix σ) σ1) : Wk (zX ix σ) (σ1.set i v):=by
 refine ⟨by rw [List.length_set]; exact h.1,fun j w e => ?_⟩
 have hj : j ≠ i:=by
  rintro rfl
  unfold zX at e
  rw [List.getElem?_map,hi] at e
  simp at e
 rw [List.getElem?_set_ne (Ne.symm hj)]
 exact h.2 j w e
def GK (ix : List (Option Nat)) (g : TG) : Prop:=∀ (σ σ1 : St) (x : V) (H : Hp) (Q : St → Hp → Prop),Wk (zX ix σ) σ1 → g x σ1 H Q → g x σ1 H fun σ2 H2 => Wk (zX ix σ) σ2 ∧ Q σ2 H2
def GKs (ix : List (Option Nat)) (g : TGs) : Prop:=∀ (σ σ1 : St) (xs : List V) (H : Hp) (Q : St → Hp → Prop),Wk (zX ix σ) σ1 → g xs σ1 H Q → g xs σ1 H fun σ2 H2 => Wk (zX ix σ) σ2 ∧ Q σ2 H2
theorem zam {ix : List (Option Nat)} {i : Nat} (hi : ix[i]? = some none) : GK ix (zbd i):=fun σ σ1 x H Q hw h => ⟨hw.set hi,h⟩
theorem zbI {ix : List (Option Nat)} : GKs ix zhv:=fun σ σ1 xs H Q hw h => ⟨h.1,hw,h.2⟩
theorem z8 {ix : List (Option Nat)} {i : Nat} {u : TGs} (hi : ix[i]? = some none) (h2 : GKs ix u) : GKs ix (zeu (zbd i) u):=fun σ σ1 xs H Q hw h => by
 obtain ⟨v,r,e,h⟩:=h
 exact ⟨v,r,e,h2 σ _ r H Q (hw.set hi) h⟩
theorem zcp {ix : List (Option Nat)} {K : PySem.W.Frag} {n : Nat} {t : TGs} (h : GKs ix t) : GK ix (zgE K n t):=fun σ σ1 x H Q hw hg => by
 obtain ⟨a,xs,e,hq,hl,hg⟩:=hg
 exact ⟨a,xs,e,hq,hl,h σ σ1 xs H Q hw hg⟩
def cGo (g : TG) (ts : TT) (te : TE) (σ0 : St) (J : It) (Q : VK) (H1 : Hp) : Prop :=
 ∃ W : Nat → Nat → List V → Hp → Prop,(∃ m,W 0 m [] H1) ∧ ∀ i m ys H,W i m ys H →
  (J.stop i H ∧ ∀ D,H D = none → Q (.ref D) (upd H D (.lst ys))) ∨
  (J.go i H ∧ ∃ N : List V → Hp → Prop,(∀ ys' H',N ys' H' → ∃ m',m' < m ∧ W (i + 1) m' ys' H') ∧ ∀ x H',J.yld i H x H' → g x σ0 H' fun σ2 H2 => ts σ2 H2 fun b H3 =>
   if b = true then te σ2 H3 fun y H4 => ys.length < sizeLine ∧ N (ys ++ [y]) H4 else N ys H3)
def zhe (ix : List (Option Nat)) (wi : TI) (g : TG) (ts : TT) (te : TE) : TE:=fun σ H Q => wi σ H fun J H1 => cGo g ts te (zX ix σ) J Q H1
section
variable {X : Cx} {elt tg iter : Expr} {ifs : List Expr} {scope : Scope} {pos : Pos} {N' : List Str} {ix : List (Option Nat)} {g : TG} {ts : TT} {te : TE}
theorem zc2 {pins : List (Addr × Obj)} {σ : St} {H2 : Hp} {s2 : Shared} {it : Addr} {fp : List Addr} {tn : Nat → Heap → Prop} {J : It} {Q : VK} {E : Value → Shared → Prop} {RR : Value → Addr → Result → Shared → Prop}
  (SC : CompSc X N' ix scope) (hc : X.calm = true) (hk : GK ix g)
  (hg : ∀ s₃ H₃ ex pins,PG (zA X N' scope s₃ H₃ ex pins) tg g) (ht : ∀ s₃ H₃ ex pins,zcb (zA X N' scope s₃ H₃ ex pins) ifs ts) (he : ∀ s₃ H₃ ex pins,PE (zA X N' scope s₃ H₃ ex pins) elt te)
  (I2 : Inv X pins σ H2 s2) (T : Turn X.prog X.w X.K tg J fp it tn) (st2 : tn 0 s2.heap) (f2 : ∀ b ∈ fp,zaM X pins H2 b) (q : cGo g ts te (zX ix σ) J Q H2)
  (hRR : ∀ (D C : Addr) (s' : Shared) (ys : List V) (H' : Hp) (m : Str → Option Value),Inv X pins σ (upd H' D (.lst ys)) s' → zaM X pins (upd H' D (.lst ys)) C → s'.heap.Ns C m → Q (.ref D) (upd H' D (.lst ys)) → RR (.ref D) C (.ok .next) s') :
  wpAny (model X.prog X.w) X.A (newList []) (fun acc s₃ => wpAny (model X.prog X.w) X.A (newFunctionEnv scope X.env.globals (zZ X.env.cells scope.names []) [] X.env.qual none .none (some X.env)) (fun cenv s₄ =>
   codeAny (model X.prog X.w) X.A (.compStart (.ListComp elt [⟨tg,iter,ifs,0⟩] scope pos) 0 (.ref it) acc { cenv with scope:=relabel scope X.env }) (RR acc cenv.locals) s₄) E s₃) E s2:=by
 have hfr : ∀ y ∈ scope.names,y.2 = .free → ∃ c,X.env.cells.lookup y.1 = some c:=fun y hy hf => I2.ok.has y.1 (SC.free y hy hf)
 have hcl : ∀ x c,(zZ X.env.cells scope.names []).lookup x = some c → X.env.cells.lookup x = some c:=zaA scope.names [] hfr (fun x c e => by simp at e)
 refine wpAny_newObj_type (wpAny_newFunctionEnv SC.nocell (by intro y hy; simp at hy) (fun h₁ hns₁ hsb₁ => ?_) SC.kind)
 dsimp only at hns₁ hsb₁ ⊢
 have I3 : Inv X pins σ H2 { s2 with heap:=s2.heap.push { cls:=.type "list",dict:=none,data:=.seq ([] : List Value).toArray } }:=I2.kept (t':=s2.toks) fun b o e => Heap.get?_push_of_some _ e
 have hD3 : (s2.heap.push { cls:=.type "list",dict:=none,data:=.seq ([] : List Value).toArray }).get? s2.heap.objs.size = some { cls:=.type "list",dict:=none,data:=.seq ([] : List Value).toArray }:=Heap.get?_push_size _ rfl
 have hst3 : tn 0 (s2.heap.push { cls:=.type "list",dict:=none,data:=.seq ([] : List Value).toArray }):=T.keep _ _ _ st2 fun b hb o e => Heap.get?_push_of_some _ e
 have hsz3 : (s2.heap.push { cls:=.type "list",dict:=none,data:=.seq ([] : List Value).toArray }).objs.size = s2.heap.objs.size + 1:=Heap.size_push _ _
 generalize hh3 : s2.heap.push { cls:=.type "list",dict:=none,data:=.seq ([] : List Value).toArray } = h3 at *
 have hfpO:=T.obj _ _ st2
 have hfpLt : ∀ b ∈ fp,b < s2.heap.objs.size:=fun b hb => by obtain ⟨o,e,_⟩:=hfpO b hb; exact Heap.lt_size e
 have stk : ∀ b ∈ frs X.stack,b = X.env.locals ∨ b ∈ X.fs:=fun b hb => List.mem_cons.mp (I2.stkSub b hb)
 have hDok : zaM X pins H2 s2.heap.objs.size:=I2.fpOk (Nat.le_refl _) I2.fresh
 have exOk : ∀ b ∈ s2.heap.objs.size :: fp,zaM X pins H2 b:=fun b hb => by
  rcases (List.mem_cons.mp hb) with e | hb
  ·rw [e]; exact hDok
  ·exact f2 b hb
 have exLt : ∀ b ∈ s2.heap.objs.size :: fp,b < h3.objs.size:=fun b hb => by
  rw [hsz3]
  rcases (List.mem_cons.mp hb) with e | hb; · rw [e]; exact Nat.lt_succ_self _
  ·exact Nat.lt_succ_of_lt (hfpLt b hb)
 have exStk : ∀ b ∈ s2.heap.objs.size :: fp,b ∉ frs X.stack:=fun b hb z => by
  obtain ⟨_,a1,a2,_⟩:=exOk b hb
  rcases stk b z with e | e
  ·exact a1 e
  ·exact a2 e
 have old : ∀ b o,h3.get? b = some o → h₁.get? b = some o:=fun b o e => hsb₁.extBut b o (Nat.ne_of_lt (Heap.lt_size e)) (Heap.get?_push_of_some _ e)
 let s3 : Shared:={ s2 with heap:=h3 }
 let Y : Cx:=zA X N' scope s3 H2 (s2.heap.objs.size :: fp) pins
 have I3' : Inv X pins σ H2 s3:=I3
 have okY : Y.Ok:=by
  refine ⟨I2.ok.mod,SC.kind,I2.ok.glob,I2.ok.blt,Nat.le_refl _,fun x y c h1 h2 => I2.ok.inj x y c (hcl x c h1) (hcl y c h2),fun x hx => ?_,fun x c z => (by cases z),I2.ok.hd,I2.ok.frames,.inl rfl,fun b hb => ?_,fun b o e => I3'.bs b o e,?_,fun b o e hb => ?_,exStk,I3'.stack,I3'.stkFree⟩
  ·have hx':=za3 (env:=X.env) (names:=scope.names) (x:=x) hx
   rcases hx' with hx' | hx'
   ·exact zaw scope.names [] x (.inr (lookup_mem hx'))
   ·exact absurd rfl (SC.nocell _ (lookup_mem hx'))
  ·exact ⟨Nat.ne_of_lt (exLt b hb),fun x c e => (exOk b hb).2.2.2.2.1 x c (hcl x c e)⟩
  ·exact Nat.le_trans I2.ok.bsz I3'.sz
  ·obtain ⟨_,_,_,a3,_⟩:=exOk b hb
   rcases a3 with z | z
   ·exact I2.ok.noex b o e z
   ·have:=(I2.ok.bs b o e).1
    exact absurd (Nat.lt_of_lt_of_le (Heap.lt_size this) z) (Nat.lt_irrefl _)
 have inv4 : Inv Y [] (zX ix σ) H2 { s3 with heap:=h₁,toks:=s2.toks + ([] : List (Str × Value)).length }:=by
  refine ⟨okY,rfl,I2.bare,Un.kept old,⟨_,hns₁,fun j x v e1 e2 e3 => ?_⟩,fun x c e => ?_,I3'.fresh,fun x c e => I2.freeC x c (hcl x c e),fun p hp => ?_,I3'.hok.kept old,?_⟩
  ·unfold zX at e2
   rw [List.getElem?_map] at e2
   cases hj : ix[j]? with
   | none => rw [hj] at e2; simp at e2
   | some oi =>
    rw [hj] at e2
    cases oi with
    | none => simp at e2
    | some i =>
     obtain ⟨y,h1,h2,h3'⟩:=SC.cap j i hj
     have hxy : y = x:=by
      have e1' : N'[j]? = some x:=e1
      rw [h1] at e1'
      exact Option.some.inj e1'
     subst hxy
     have e2' : (σ[i]?).join = some v:=by simpa using e2
     have e2'' : σ[i]? = some (some v):=by
      cases hs : σ[i]? with
      | none => rw [hs] at e2'; simp at e2'
      | some w => rw [hs] at e2'; simp at e2'; rw [e2']
     obtain ⟨m,hn,hl⟩:=I3'.loc
     have hk:=SC.free (y,.free) (lookup_mem h3') rfl
     have hvis : Vis X.env.scope y:=hk.elim (fun z => .inr (.inl z)) fun z => .inr (.inr z)
     obtain ⟨u,r,l⟩:=hl i y v h2 e2'' hvis
     refine ⟨u,r,.inr ⟨z7 h3',?_⟩⟩
     obtain ⟨c,hcc⟩:=zaw (cs:=X.env.cells) scope.names [] y (.inr (lookup_mem h3'))
     refine ⟨c,hcc,?_⟩
     rcases l with ⟨hk',_⟩ | ⟨_,c',hc',hcell⟩
     ·rcases hk with hk | hk
      ·have hk2 : X.env.kindOf y = some .cell:=hk
       rw [hk2] at hk'; cases hk'
      ·have hk2 : X.env.kindOf y = some .free:=hk
       rw [hk2] at hk'; cases hk'
     ·have:=hcl y c hcc
      rw [hc'] at this
      cases this
      obtain ⟨o,ho,hd⟩:=hcell
      exact ⟨o,old _ _ ho,hd⟩
  ·obtain ⟨v,o,ho,hd⟩:=I3'.cell x c (hcl x c e)
   exact ⟨v,o,old _ _ ho,hd⟩
  ·have hp' : p ∈ X.pn ++ pins:=by
    have : p ∈ (X.pn ++ pins) ++ ([] : List (Addr × Obj)):=hp
    simpa using this
   obtain ⟨a1,a2,a3,a4,a5⟩:=I3'.pin p hp'
   exact ⟨old _ _ a1,a2,Nat.ne_of_lt (Heap.lt_size a1),fun z => (stk _ z).elim a3 a4,a5⟩
  ·unfold zX
   rw [List.length_map]
   exact SC.len.symm
 obtain ⟨W,⟨m0,w0⟩,turn⟩:=q
 have fpY : ∀ {H' : Hp} {pl : List (Addr × Obj)},(∀ b ∈ fp,H' b = none) → (∀ p ∈ pl,p.1 = s2.heap.objs.size) → ∀ b ∈ fp,zaM Y pl H' b:=fun {H' pl} hn hpl b hb => by
  obtain ⟨_,a1,a2,a3,a4,a5⟩:=f2 b hb
  refine ⟨hn b hb,Nat.ne_of_lt (exLt b (List.mem_cons_of_mem _ hb)),exStk b (List.mem_cons_of_mem _ hb),.inl (List.mem_cons_of_mem _ hb),fun x c e => a4 x c (hcl x c e),fun p hp => ?_⟩; rcases List.mem_append.mp hp with hp | hp
  ·exact a5 p hp
  ·rw [hpl p hp]
   exact (Nat.ne_of_lt (hfpLt b hb)).symm
 have dOk : ∀ {its : List Value} {nn : Nat} {H' : Hp} {σ' : St} {s' : Shared},Inv Y [] σ' H' s' → H' s2.heap.objs.size = none → s'.heap.get? s2.heap.objs.size = some { cls:=.type "list",data:=.seq its.toArray nn } →
   Inv Y [(s2.heap.objs.size,{ cls:=.type "list",data:=.seq its.toArray nn })] σ' H' s':=fun {its nn H' σ' s'} I' hn e => I'.pins_of fun p hp => by
  obtain rfl : p = (s2.heap.objs.size,{ cls:=.type "list",data:=.seq its.toArray nn }):=by simpa using hp
  exact ⟨e,hn,Nat.ne_of_lt (exLt _ List.mem_cons_self),exStk _ List.mem_cons_self,fun v z => by cases z⟩
 have loop : ∀ s₅ : Shared,s₅ = { s2 with heap:=h₁,toks:=s2.toks + ([] : List (Str × Value)).length } →
   codeAny (model X.prog X.w) X.A (.compLoop (.ListComp elt [⟨tg,iter,ifs,0⟩] scope pos) 0 (.ref it) (.ref s2.heap.objs.size) (compEnvC scope (zZ X.env.cells scope.names []) h3.objs.size X.env)) (RR (.ref s2.heap.objs.size) h3.objs.size) s₅:=by
  rintro s₅ rfl
  refine zbf (fun n s' => ∃ i ys H' its nn,Inv Y [] (zX ix σ) H' s' ∧ tn i s'.heap ∧ (∀ b ∈ fp,H' b = none) ∧ H' s2.heap.objs.size = none ∧ s'.heap.get? s2.heap.objs.size = some { cls:=.type "list",data:=.seq its.toArray nn } ∧ zx ys its ∧ ys.length ≤ sizeLine ∧ W i n ys H') ?_ m0
   ⟨0,[],H2,[],0,inv4,T.keep _ _ _ hst3 fun b hb o e => old b o e,fun b hb => (f2 b hb).1,I2.fresh,old _ _ hD3,.nil,Nat.zero_le _,w0⟩
  rintro n s5 ⟨i,ys,H5,its,nn,I5,st5,fr5,dn5,d5,v5,z5,w5⟩
  have I5p:=dOk I5 dn5 d5
  rcases turn i n ys H5 w5 with ⟨stop,qn⟩ | ⟨go,N,hN,step⟩
  ·refine thn (T.done Y rfl rfl rfl hc i _ s5 _ H5 (fun _ _ => False) I5p (fpY fr5 (fun p hp => by
    obtain rfl : p = (s2.heap.objs.size,{ cls:=.type "list",data:=.seq its.toArray nn }):=by simpa using hp
    rfl)) st5 stop) fun r s6 ⟨hr,I6⟩ => ?_
   subst hr
   have d6 : s6.heap.get? s2.heap.objs.size = some { cls:=.type "list",data:=.seq its.toArray nn }:=(I6.pin (s2.heap.objs.size,_) (List.mem_append_right _ List.mem_cons_self)).1
   have I7 : Inv X pins σ H5 s6:=by
    refine I3'.call' (s':=s6) (ch:=s2.heap.objs.size :: fp) I6.os I6.base I6.hok I6.bare fun b hb => ?_
    obtain ⟨_,a1,a2,a3,a4,a5⟩:=exOk b hb
    exact ⟨a3,a1,a4,a5⟩
   have I8 : Inv X pins σ (upd H5 s2.heap.objs.size (.lst ys)) s6:=by
    obtain ⟨_,a1,a2,a3,a4,a5⟩:=hDok
    exact I7.track dn5 I2.sz (Ne.symm a1) a4 a5 ⟨z5,its,nn,v5,d6⟩
   obtain ⟨mm,hmm,_⟩:=I6.loc
   have dne : h3.objs.size ≠ s2.heap.objs.size:=by rw [hsz3]; exact Nat.succ_ne_self _
   refine hRR _ _ s6 ys H5 mm I8 (I3'.fpOk (H':=upd H5 s2.heap.objs.size (.lst ys)) (Nat.le_refl _) ?_) hmm (qn _ dn5)
   show upd H5 s2.heap.objs.size (.lst ys) h3.objs.size = none
   rw [zn dne]
   exact I6.free
  ·have hpl : ∀ p ∈ [(s2.heap.objs.size,({ cls:=.type "list",data:=.seq its.toArray nn } : Obj))],p.1 = s2.heap.objs.size:=fun p hp => by
    obtain rfl : p = (s2.heap.objs.size,{ cls:=.type "list",data:=.seq its.toArray nn }):=by simpa using hp
    rfl
   refine thn (T.item Y rfl rfl rfl hc i _ s5 _ H5 (fun _ _ => False) I5p (fpY fr5 hpl) st5 go) fun r s6 ⟨u,hr,h6⟩ => ?_
   subst hr
   refine thn h6 fun _ s7 ⟨x,H7,I7,r7,y7,st7,fr7⟩ => ?_
   have I7':=I7.pinned (fpY fr7 hpl) (T.obj _ _ st7)
   have back : ∀ {σ8 : St} {H8 : Hp} {s8 : Shared},Inv Y ([(s2.heap.objs.size,({ cls:=.type "list",data:=.seq its.toArray nn } : Obj))] ++ za1 fp s7.heap) σ8 H8 s8 → Wk (zX ix σ) σ8 →
     Inv Y [] (zX ix σ) H8 s8 ∧ tn (i + 1) s8.heap ∧ (∀ b ∈ fp,H8 b = none) ∧ H8 s2.heap.objs.size = none ∧ s8.heap.get? s2.heap.objs.size = some { cls:=.type "list",data:=.seq its.toArray nn }:=fun {σ8 H8 s8} I8 wk => by
    have pD:=I8.pin (s2.heap.objs.size,_) (List.mem_append_right _ (List.mem_append_left _ List.mem_cons_self))
    have I8a : Inv Y [] σ8 H8 s8:=I8.pins_of fun p hp => by cases hp
    refine ⟨I8a.weak wk.1.symm wk.2,T.keep _ _ _ st7 fun b hb o e => (I8.pin (b,o) (List.mem_append_right _ (List.mem_append_right _ (zau hb e)))).1,fun b hb => ?_,pD.2.1,pD.1⟩
    obtain ⟨o,e,d⟩:=T.obj _ _ st7 b hb
    exact (I8.pin (b,o) (List.mem_append_right _ (List.mem_append_right _ (zau hb e)))).2.1
   refine thn (hg s3 H2 (s2.heap.objs.size :: fp) pins _ s7 _ H7 x u _ I7' r7 (hk σ _ x H7 _ (Wk.refl _) (step x H7 y7))) fun _ s8 ⟨σ8,H8,I8,wk8,q8⟩ => ?_
   refine thn (ht s3 H2 (s2.heap.objs.size :: fp) pins _ s8 σ8 H8 _ I8 q8) fun ok s9 ⟨H9,I9,q9⟩ => ?_
   cases ok with
   | false =>
    rw [if_neg Bool.false_ne_true] at q9 ⊢
    obtain ⟨m',hm,w9⟩:=hN _ _ q9
    obtain ⟨a1,a2,a3,a4,a5⟩:=back I9 wk8
    exact ⟨m',hm,i + 1,ys,H9,its,nn,a1,a2,a3,a4,a5,v5,z5,w9⟩
   | true =>
    rw [if_pos rfl] at q9 ⊢
    refine thn (he s3 H2 (s2.heap.objs.size :: fp) pins _ s9 σ8 H9 _ I9 q9) fun yv s10 ⟨y,H10,I10,r10,hz,n10⟩ => ?_
    obtain ⟨m',hm,w10⟩:=hN _ _ n10
    obtain ⟨a1,a2,a3,a4,a5⟩:=back I10 wk8
    have hvl:=v5.length
    refine call_meets F.slot_list_append ⟨_,a5,rfl⟩ F.entry_list_append (F.args_list_append_2 _ _) (PySem.list_append s2.heap.objs.size its.toArray nn yv (by rw [List.size_toArray]; omega)) ⟨a5,?_⟩
    have q:=PySem.IsL.update a5 (·.push yv)
    have k10 : ∀ b o,b ≠ s2.heap.objs.size → s10.heap.get? b = some o → (s10.heap.update s2.heap.objs.size (Obj.mapSeq (·.push yv))).get? b = some o:=fun b o hb e => (Heap.get?_update_other s10.heap (Obj.mapSeq (·.push yv)) (Ne.symm hb)).trans e
    obtain ⟨_,b1,b2,b3,b4,b5⟩:=hDok
    have I11 : Inv Y [] (zX ix σ) H10 { s10 with heap:=s10.heap.update s2.heap.objs.size (Obj.mapSeq (·.push yv)) } :=
     a1.turned (t':=s10.toks) k10 a4 (Nat.ne_of_lt (exLt _ List.mem_cons_self)) (.inl List.mem_cons_self) (fun x c e => b4 x c (hcl x c e)) (fun p hp => by
      have : p ∈ (X.pn ++ pins) ++ ([] : List (Addr × Obj)):=hp
      exact b5 p (by simpa using this))
    have e1 : its.toArray.push yv = (its ++ [yv]).toArray:=by simp
    rw [e1] at q
    refine ⟨m',hm,i + 1,ys ++ [y],H10,its ++ [yv],_,I11,T.keep _ _ _ a2 fun b hb o e => k10 b o (Nat.ne_of_lt (hfpLt b hb)) e,a3,a4,q,v5.append (.cons r10 .nil),?_,w10⟩
    rw [List.length_append,List.length_singleton]
    omega
 exact codeAny_compStart_list (loop _ rfl) (T.self _ 0 _ _ _ (T.keep _ _ _ hst3 fun b hb o e => old b o e) (loop _ rfl))
theorem zan {wi : TI} (SC : CompSc X N' ix scope) (hc : X.calm = true) (hk : GK ix g) (hi : PI X tg iter wi)
  (hg : ∀ s₃ H₃ ex pins,PG (zA X N' scope s₃ H₃ ex pins) tg g) (ht : ∀ s₃ H₃ ex pins,zcb (zA X N' scope s₃ H₃ ex pins) ifs ts) (he : ∀ s₃ H₃ ex pins,PE (zA X N' scope s₃ H₃ ex pins) elt te)
  (hs : ∀ x,foldedSetIterable iter X.env x = pure x:=by intro _; rfl) : PE X (.ListComp elt [⟨tg,iter,ifs,0⟩] scope pos) (zhe ix wi g ts te):=by
 intro pins s σ H Q I h
 rw [eval_ListComp]
 have hfr : ∀ y ∈ scope.names,y.2 = .free → ∃ c,X.env.cells.lookup y.1 = some c:=fun y hy hf => I.ok.has y.1 (SC.free y hy hf)
 refine wpAny_comprehension_free (use:=none) rfl hs (zaT hfr) SC.kind SC.names (thn (hi pins s σ H _ I h) fun v s1 h1 => thn h1 fun itv s2 h2 => ?_)
 obtain ⟨it,fp,tn,J,H2,e,I2,T,st2,f2,q⟩:=h2
 subst e
 refine zc2 (RR:=fun acc C => compPost (model X.prog X.w) X.A X.xe none (EP X pins σ Q) acc C) SC hc hk hg ht he I2 T st2 f2 q ?_
 intro D C s' ys H' m I' fpC hm q'
 refine ⟨m,hm,fun h'' hs'' => ⟨.ref D,_,?_,rfl,q'⟩⟩
 obtain ⟨f0,f1,f2',f3,f4,f5⟩:=fpC
 exact I'.turned (t':=s'.toks) (fun b o hb e => hs''.extBut b o hb e) f0 f1 f3 f4 f5
theorem zaK {wi : TI} {i : Nat} {x : Str} {pos' spos : Pos} (hN : X.N.Nodup) (hxi : X.N[i]? = some x) (hx : Loc X.env.scope x) (SC : CompSc X N' ix scope) (hc : X.calm = true) (hk : GK ix g) (hi : PI X tg iter wi)
  (hg : ∀ s₃ H₃ ex pins,PG (zA X N' scope s₃ H₃ ex pins) tg g) (ht : ∀ s₃ H₃ ex pins,zcb (zA X N' scope s₃ H₃ ex pins) ifs ts) (he : ∀ s₃ H₃ ex pins,PE (zA X N' scope s₃ H₃ ex pins) elt te)
  (hsw : swapsWith (.ListComp elt [⟨tg,iter,ifs,0⟩] scope pos) (some (.Name x pos')) spos.line X.env = pure true:=by rfl)
  (hs : ∀ x,foldedSetIterable iter X.env x = pure x:=by intro _; rfl) (hf : X.fn x = true ∨ X.env.scope.names.lookup x = some .local:=by first | exact .inl rfl | exact .inr rfl | assumption) :
  PS X (.Assign [.Name x pos'] (.ListComp elt [⟨tg,iter,ifs,0⟩] scope pos) spos) (zfx (zhe ix wi g ts te) (zbd i)):=by
 intro pins s σ H D I h
 have hfr : ∀ y ∈ scope.names,y.2 = .free → ∃ c,X.env.cells.lookup y.1 = some c:=fun y hy hf => I.ok.has y.1 (SC.free y hy hf)
 rw [exec_Assign_Name_used _ _ _ _ hsw]; refine wpAny_bind (wpAny_standAt (wpAny_bind ?_))
 show wpAny _ X.A (do let _ ← comprehension (.ListComp elt [⟨tg,iter,ifs,0⟩] scope pos) scope X.env _ (newList []) false (eval iter X.env) (some (assign (.Name x pos') X.env))) _ _ s
 refine wpAny_bind (wpAny_mono (wpAny_comprehension_free (use:=some (assign (.Name x pos') X.env)) (Q:=fun _ s' => SP X pins D .next s') rfl hs (zaT hfr) SC.kind SC.names
  (thn (hi pins s σ H _ I h) fun v s1 h1 => thn h1 fun itv s2 h2 => ?_)) (fun _ s' hq => wpAny_pure (wpAny_pure hq)) fun _ _ e => e)
 obtain ⟨it,fp,tn,J,H2,e,I2,T,st2,f2,q⟩:=h2
 subst e
 refine zc2 (RR:=fun acc C => compPost (model X.prog X.w) X.A X.xe (some (assign (.Name x pos') X.env)) (fun _ s' => SP X pins D .next s') acc C) SC hc hk hg ht he I2 T st2 f2 q ?_
 intro Da C s' ys H' m I' fpC hm q'
 show wpAny _ X.A (assign (.Name x pos') X.env (.ref Da)) _ _ _
 refine wpAny_assign_Name (zcQ I' hN hxi hx (show RelV (.ref Da) (.ref Da) from rfl) (fun s'' I'' ⟨a,hsb,ha⟩ => ?_) hf)
 obtain ⟨f0,f1,f2',f3,f4,f5⟩:=fpC
 have hCa : C ≠ a:=by
  rcases ha with e | e
  ·rw [e]; exact f1
  ·exact Ne.symm (f4 x a e)
 refine ⟨m,hm.sameBut hsb hCa,fun h₃ hs₃ => ⟨_,_,?_,q'⟩⟩
 exact I''.turned (t':=s''.toks) (fun b o hb e => hs₃.extBut b o hb e) f0 f1 f3 f4 f5
end
theorem zY {J : It} {n : Nat} {g : TG} {ts : TT} {te : TE} {σ0 : St} {Q : VK} {H : Hp} (Pv : Nat → List V → Hp → Prop) (h0 : Pv 0 [] H) (hgo : ∀ i ys H,i < n → Pv i ys H → J.go i H) (hst : ∀ ys H,Pv n ys H → J.stop n H)
  (hs : ∀ i x ys H H',i < n → Pv i ys H → J.yld i H x H' → g x σ0 H' fun σ2 H2 => ts σ2 H2 fun b H3 => if b = true then te σ2 H3 fun y H4 => ys.length < sizeLine ∧ Pv (i + 1) (ys ++ [y]) H4 else Pv (i + 1) ys H3)
  (hd : ∀ ys H D,Pv n ys H → H D = none → Q (.ref D) (upd H D (.lst ys))) : cGo g ts te σ0 J Q H:=by
 refine ⟨fun i m ys H => m = n - i ∧ i ≤ n ∧ Pv i ys H,⟨n,by simp,Nat.zero_le _,h0⟩,?_⟩
 rintro i m ys H ⟨rfl,hi,p⟩
 by_cases hlt : i < n
 ·exact .inr ⟨hgo i ys H hlt p,Pv (i + 1),fun ys' H' p' => ⟨n - (i + 1),by omega,rfl,hlt,p'⟩,fun x H' y => hs i x ys H H' hlt p y⟩
 ·have e : i = n:=by omega
  subst e
  exact .inl ⟨hst ys H p,fun D hD => hd ys H D p hD⟩
theorem zdn {J : It} {n : Nat} {g : TG} {tb : TS} {D : Ends} {σ : St} {H : Hp} (Pv : Nat → St → Hp → Prop) (h0 : Pv 0 σ H) (hgo : ∀ i σ H,i < n → Pv i σ H → J.go i H) (hst : ∀ σ H,Pv n σ H → J.stop n H)
  (hs : ∀ i x σ H H',i < n → Pv i σ H → J.yld i H x H' → g x σ H' fun σ2 H2 => tb { D with nx:=Pv (i + 1),ct:=Pv (i + 1),bk:=D.nx } σ2 H2) (hd : ∀ σ H,Pv n σ H → D.nx σ H) :
  ∃ W : Nat → Nat → St → Hp → Prop,(∃ m,W 0 m σ H) ∧ ∀ i m σ H,W i m σ H →
   (J.stop i H ∧ D.nx σ H) ∨ (J.go i H ∧ ∃ N : St → Hp → Prop,(∀ σ' H',N σ' H' → ∃ m',m' < m ∧ W (i + 1) m' σ' H') ∧ ∀ x H',J.yld i H x H' → g x σ H' fun σ2 H2 => tb { D with nx:=N,ct:=N,bk:=D.nx } σ2 H2):=by
 refine ⟨fun i m σ H => m = n - i ∧ i ≤ n ∧ Pv i σ H,⟨n,by simp,Nat.zero_le _,h0⟩,?_⟩
 rintro i m σ H ⟨rfl,hi,p⟩
 by_cases hlt : i < n
 ·exact .inr ⟨hgo i σ H hlt p,Pv (i + 1),fun σ' H' p' => ⟨n - (i + 1),by omega,rfl,hlt,p'⟩,fun x H' y => hs i x σ H H' hlt p y⟩
 ·have e : i = n:=by omega
  subst e
  exact .inl ⟨hst σ H p,hd σ H p⟩
end L2
end
section
set_option maxHeartbeats 3999000
namespace L2
open PySem PySem.Spec PyProof.Rows
section
variable {X : Cx} {pins : List (Addr × Obj)} {σ : St} {H : Hp} {s : Shared} {h' : Heap}
theorem Inv.turnedL {t' : Nat} {ch : List Addr} (I : Inv X pins σ H s) (k : ∀ b o,b ∉ ch → s.heap.get? b = some o → h'.get? b = some o) (hf : ∀ b ∈ ch,zaM X pins H b)
  (th : ∀ b ∈ ch,∃ o,h'.get? b = some o) : Inv X pins σ H { s with heap:=h',toks:=t' }:=by
 have nit : ∀ b u,H b = some u → b ∉ ch:=fun b u e z => by rw [(hf b z).1] at e; cases e
 refine I.step (g':=s.gens) (d':=s.drawn) (ch:=ch) (fun b hb => ?_) (fun b o _ _ hc e _ => k b o hc e) (fun b o _ _ hc e _ => ⟨o.slots,k b o hc e⟩) (fun _ _ _ _ n => n)
  (fun b o hc e => ⟨o,k b o hc e⟩) (fun _ _ e => e) (fun _ _ _ e => e) (fun b ps e => ⟨#[],by rw [e]; simp⟩) (fun m hm => ?_) (fun b u e => ?_) I.bare
 ·obtain ⟨_,a1,_,a3,a4,a5⟩:=hf b hb
  exact ⟨a3,a1,a4,a5⟩
 ·obtain ⟨o,es,ep,ho,r⟩:=hm
  exact ⟨o,es,ep,k _ o (fun z => (hf _ z).2.1 rfl) ho,r⟩
 ·refine (I.hok b u e).stay (fun c v hc q => k c v ?_ q) (fun _ q => q) fun _ _ q => q
  rcases hc with z | z
  ·rw [z]; exact nit b u e
  ·exact nit c _ z
theorem Inv.turnedNew {t' : Nat} {ch : List Addr} {T : Addr} {o : HO} (I : Inv X pins σ H s) (k : ∀ b o,b ∉ ch → s.heap.get? b = some o → h'.get? b = some o) (hf : ∀ b ∈ ch,zaM X pins H b)
  (th : ∀ b ∈ ch,∃ o,h'.get? b = some o) (hT : s.heap.objs.size ≤ T) (ok : zaD X.prog X.w (upd H T o) h' T o) : Inv X pins σ (upd H T o) { s with heap:=h',toks:=t' }:=by
 have I1 : Inv X pins σ H { s with heap:=h',toks:=t' }:=I.turnedL k hf th
 have hn : H T = none:=I.hok.fresh hT
 obtain ⟨_,a1,a2,a3,a4,a5⟩:=I.fpOk (H':=H) hT hn
 exact I1.track hn (Nat.le_trans I.sz hT) (Ne.symm a1) a4 a5 ok
end
def zfO (Sq : Hp → Addr → List V → Prop) (a : Addr) : It :=
 ⟨fun i H => ∃ xs x,Sq H a xs ∧ xs[i]? = some x,fun i H x H' => ∃ T v,H T = none ∧ x = .ref T ∧ H' = upd H T (.tup [.int i,v]) ∧ ∀ xs,Sq H a xs → xs[i]? = some v,fun i H => ∃ xs,Sq H a xs ∧ xs.length ≤ i⟩
theorem za4 {h : Heap} {T : Addr} {a b : Value} (e : h.get? T = some { cls:=.type "tuple",data:=.seq #[a,b] }) : IsTup h T ([a,b] : List Value).toArray:=⟨_,e,rfl,_,rfl⟩
theorem zaC : 2 ≤ sizeLine:=by rw [sizeLine_eq]; decide
theorem zed {P : Program} {w : World} {K : PySem.W.Frag} {es : List Expr} {k : Nat} {pos : Pos} (a it e : Addr) (hei : e ≠ it) : Turn P w K (.Tuple es k pos) (zfO (SqL K) a) [e,it] e (fun i h => (∃ old,IsEnum h e it i old) ∧ h.IsListIter it a i) where
 mem:=by simp
 obj:=fun i h st b hb => by
  obtain ⟨⟨old,he⟩,o,ho,hc,hd⟩:=st
  rcases List.mem_cons.mp hb with z | z
  ·subst z
   exact ⟨_,he,fun v z => by cases z⟩
  ·have z : b = it:=by simpa using z
   subst z
   exact ⟨o,ho,fun v z => by rw [hd] at z; cases z⟩
 keep:=fun i h h' st kk => ⟨st.1.imp fun old he => kk e (by simp) _ he,st.2.at fun o eo => kk it (by simp) o eo⟩
 item:=by
  intro X hP hw hK hc i pins s σ H E I hf st hg
  subst hP hw hK
  obtain ⟨xs,x,hq,hx⟩:=hg
  obtain ⟨⟨old,he⟩,hit⟩:=st
  obtain ⟨its,rv,p,hz⟩:=I.list hq
  obtain ⟨u,hu,ru⟩:=rv.get hx
  have hes : e < s.heap.objs.size:=Heap.lt_size he
  have hits : it < s.heap.objs.size:=by obtain ⟨o,ho,_⟩:=hit; exact Heap.lt_size ho
  refine wpAny_pyNext_enum_item he hit p.isList (x:=u) (by simpa using hu) hei fun h' ho' hit' hT hsz kk => ?_
  have k1 : ∀ b o,b ∉ [e,it] → s.heap.get? b = some o → h'.get? b = some o:=fun b o hb eo => kk b o (fun z => hb (by simp [z])) (fun z => hb (by simp [z])) eo
  have th1 : ∀ b ∈ [e,it],∃ o,h'.get? b = some o:=fun b hb => by
   rcases List.mem_cons.mp hb with z | z
   ·subst z; exact ⟨_,ho'⟩
   ·have z : b = it:=by simpa using z
    subst z
    obtain ⟨o,eo,_⟩:=hit'
    exact ⟨o,eo⟩
  have I1 : Inv X pins σ (upd H s.heap.objs.size (.tup [.int i,x])) { s with heap:=h',toks:=s.toks + 1 } :=
   I.turnedNew k1 hf th1 (Nat.le_refl _) ⟨zaC,_,.cons ⟨s.toks,rfl⟩ (.cons ru .nil),za4 hT⟩
  refine ⟨_,rfl,wpAny_letOwnedTupleGo_enum ho' fun h'' he'' hs'' => ?_⟩
  have fr : ∀ b ∈ [e,it],upd H s.heap.objs.size (.tup [.int i,x]) b = none:=fun b hb => by
   have hlt : b < s.heap.objs.size:=by
    rcases List.mem_cons.mp hb with z | z
    ·subst z; exact hes
    ·have z : b = it:=by simpa using z
     subst z; exact hits
   rw [zn (Nat.ne_of_lt hlt)]
   exact (hf b hb).1
  have I2 : Inv X pins σ (upd H s.heap.objs.size (.tup [.int i,x])) { s with heap:=h'',toks:=s.toks + 1 } :=
   Inv.turnedL (s:={ s with heap:=h',toks:=s.toks + 1 }) (ch:=[e]) (t':=s.toks + 1) I1 (fun b o hb eo => hs''.extBut b o (by simpa using hb) eo) (fun b hb => by
    have z : b = e:=by simpa using hb
    subst z
    exact ⟨fr b (by simp),(hf b (by simp)).2⟩) (fun b hb => by
    have z : b = e:=by simpa using hb
    subst z
    exact ⟨_,he''⟩)
  refine ⟨.ref s.heap.objs.size,_,I2,rfl,⟨_,x,I.fresh,rfl,rfl,fun ys hy => by rw [I.list_inj hy hq]; exact hx⟩,⟨⟨_,by simpa using he''⟩,hit'.extBut hs''.extBut (Ne.symm hei)⟩,fr⟩
 done:=by
  intro X hP hw hK hc i pins s σ H E I hf st hg
  subst hP hw hK
  obtain ⟨xs,hq,hx⟩:=hg
  obtain ⟨⟨old,he⟩,hit⟩:=st
  obtain ⟨its,rv,p,hz⟩:=I.list hq
  have hl:=rv.length
  obtain ⟨f0,f1,f2,f3,f4,f5⟩:=hf it (by simp)
  exact wpAny_pyNext_enum_end (I.ok.hd hc) he hit p.isList (by simp; omega) fun h' eb => ⟨rfl,I.turned (t':=s.toks) (fun b o hb e => eb b o hb e) f0 f1 f3 f4 f5⟩
 self:=fun _ _ _ _ _ st h => by
  obtain ⟨⟨old,he⟩,_⟩:=st
  exact wpAny_pyIter_enum he h
def iEn (Sq : Hp → Addr → List V → Prop) (ta : TA) : TI:=fun σ H R => ta σ H fun vs H1 => ∃ a xs,vs = [.ref a] ∧ Sq H1 a xs ∧ R (zfO Sq a) H1
theorem zfP {X : Cx} {es : List Expr} {k : Nat} {tpos p pos : Pos} {a : Expr} {ta : TA} (hg : Gl X "enumerate") (hm : X.mg "enumerate" = none) (ha : PA X [a] ta) (hs : starEach [a] X.env = [(false,eval a X.env)]:=by rfl) :
  PI X (.Tuple es k tpos) (.Call (.Name "enumerate" p) [a] [] pos) (iEn (SqL X.K) ta):=by
 intro pins s σ H R I h
 refine Call_ (zbb I hg hm boot_enumerate (PyProof.Rows.callWith_type1 (thn (ha pos pins s σ H _ I h) fun us s1 ⟨vs,H1,I1,r1,q1⟩ => ?_) hs rfl))
 obtain ⟨l,xs,e,hq,q⟩:=q1
 subst e
 cases r1 with
 | cons r rr =>
  cases rr
  cases r
  obtain ⟨its,rv,pl,hz⟩:=I1.list hq
  refine call_enumerate_list pl.isList fun h' he hi hsz kk => ?_
  have I2 : Inv X pins σ H1 { s1 with heap:=h' }:=I1.kept (t':=s1.toks) kk
  refine wpAny_pyIter_enum he ?_; refine ⟨_,[s1.heap.objs.size + 1,s1.heap.objs.size],_,zfO (SqL X.K) l,H1,rfl,I2,zed l s1.heap.objs.size (s1.heap.objs.size + 1) (Nat.succ_ne_self _),⟨⟨_,he⟩,hi⟩,fun b hb => ?_,q⟩
  have hle : s1.heap.objs.size ≤ b:=by
   rcases List.mem_cons.mp hb with z | z
   ·rw [z]; exact Nat.le_succ _
   ·have z : b = s1.heap.objs.size:=by simpa using z
    rw [z]; exact Nat.le_refl _
  exact I1.fpOk hle (I1.hok.fresh hle)
def zfa (Sq1 Sq2 : Hp → Addr → List V → Prop) (a b : Addr) : It :=
 ⟨fun i H => ∃ xs ys x y,Sq1 H a xs ∧ Sq2 H b ys ∧ xs[i]? = some x ∧ ys[i]? = some y,
  fun i H x H' => ∃ T u v,H T = none ∧ x = .ref T ∧ H' = upd H T (.tup [u,v]) ∧ (∀ xs,Sq1 H a xs → xs[i]? = some u) ∧ ∀ ys,Sq2 H b ys → ys[i]? = some v,
  fun i H => ∃ xs ys,Sq1 H a xs ∧ Sq2 H b ys ∧ (xs.length ≤ i ∨ ys.length ≤ i)⟩
theorem zfb {P : Program} {w : World} {K : PySem.W.Frag} {es : List Expr} {k : Nat} {pos : Pos} (a b : Addr) (n : Nat) (ha : a < n) (hb : b < n) : Turn P w K (.Tuple es k pos) (zfa (SqL K) (SqL K) a b) [n + 4,n + 2,n + 3,n,n + 1] (n + 4)
  (fun i h => IsZip h (n + 4) (n + 2) (n + 3) .none ∧ IsPair h (n + 2) (.ref n) (.ref (n + 1)) ∧ (∃ u v,IsPair h (n + 3) u v) ∧ h.IsListIter n a i ∧ h.IsListIter (n + 1) b i) where
 mem:=by simp
 obj:=fun i h st c hc => by
  obtain ⟨h1,h2,⟨u,v,h3⟩,⟨o4,e4,_,d4⟩,⟨o5,e5,_,d5⟩⟩:=st
  simp only [List.mem_cons,List.not_mem_nil,or_false] at hc
  rcases hc with z | z | z | z | z <;> subst z
  ·exact ⟨_,h1,fun v z => by cases z⟩
  ·exact ⟨_,h2,fun v z => by cases z⟩
  ·exact ⟨_,h3,fun v z => by cases z⟩
  ·exact ⟨_,e4,fun v z => by rw [d4] at z; cases z⟩
  ·exact ⟨_,e5,fun v z => by rw [d5] at z; cases z⟩
 keep:=fun i h h' st kk => by
  obtain ⟨h1,h2,⟨u,v,h3⟩,h4,h5⟩:=st
  exact ⟨kk _ (by simp) _ h1,kk _ (by simp) _ h2,⟨u,v,kk _ (by simp) _ h3⟩,h4.at fun o eo => kk _ (by simp) o eo,h5.at fun o eo => kk _ (by simp) o eo⟩
 item:=by
  intro X hP hw hK hc i pins s σ H E I hf st hg
  subst hP hw hK
  obtain ⟨xs,ys,x,y,hq1,hq2,hx,hy⟩:=hg
  obtain ⟨h1,h2,⟨u0,v0,h3⟩,h4,h5⟩:=st
  obtain ⟨its1,rv1,p1,hz1⟩:=I.list hq1
  obtain ⟨its2,rv2,p2,hz2⟩:=I.list hq2
  obtain ⟨u,hu,ru⟩:=rv1.get hx
  obtain ⟨v,hv,rv⟩:=rv2.get hy
  have hzs : n + 4 < s.heap.objs.size:=Heap.lt_size h1
  refine wpAny_pyNext_zip_item (zipApart_new ha hb) h1 h2 h3 h4 h5 p1.isList p2.isList (x:=u) (y:=v) (by simpa using hu) (by simpa using hv) fun h' a1 a2 a3 a4 a5 a6 kk => ?_
  have k1 : ∀ c o,c ∉ [n + 4,n + 3,n,n + 1] → s.heap.get? c = some o → h'.get? c = some o:=fun c o hc' eo =>
   kk c o (fun z => hc' (by simp [z])) (fun z => hc' (by simp [z])) (fun z => hc' (by simp [z])) (fun z => hc' (by simp [z])) eo
  have sub : ∀ c ∈ [n + 4,n + 3,n,n + 1],c ∈ [n + 4,n + 2,n + 3,n,n + 1]:=fun c hc' => by
   simp only [List.mem_cons,List.not_mem_nil,or_false] at hc' ⊢
   rcases hc' with z | z | z | z <;> subst z <;> simp
  have th1 : ∀ c ∈ [n + 4,n + 3,n,n + 1],∃ o,h'.get? c = some o:=fun c hc' => by
   simp only [List.mem_cons,List.not_mem_nil,or_false] at hc'
   rcases hc' with z | z | z | z <;> subst z
   ·exact ⟨_,a1⟩
   ·exact ⟨_,a2⟩
   ·obtain ⟨o,e,_⟩:=a3; exact ⟨o,e⟩
   ·obtain ⟨o,e,_⟩:=a4; exact ⟨o,e⟩
  have I1 : Inv X pins σ (upd H s.heap.objs.size (.tup [x,y])) { s with heap:=h' } :=
   I.turnedNew (t':=s.toks) k1 (fun c hc' => hf c (sub c hc')) th1 (Nat.le_refl _) ⟨zaC,_,.cons ru (.cons rv .nil),za4 a5⟩
  refine ⟨_,rfl,wpAny_letOwnedTupleGo_zip a1 fun h'' hz'' hs'' => ?_⟩
  have fr : ∀ c ∈ [n + 4,n + 2,n + 3,n,n + 1],upd H s.heap.objs.size (.tup [x,y]) c = none:=fun c hc' => by
   have hlt : c < s.heap.objs.size:=by
    simp only [List.mem_cons,List.not_mem_nil,or_false] at hc'
    rcases hc' with z | z | z | z | z <;> subst z <;> omega
   rw [zn (Nat.ne_of_lt hlt)]
   exact (hf c hc').1
  have I2 : Inv X pins σ (upd H s.heap.objs.size (.tup [x,y])) { s with heap:=h'' } :=
   Inv.turnedL (s:={ s with heap:=h' }) (ch:=[n + 4]) (t':=s.toks) I1 (fun c o hc' eo => hs''.extBut c o (by simpa using hc') eo) (fun c hc' => by
    have z : c = n + 4:=by simpa using hc'
    subst z
    exact ⟨fr _ (by simp),(hf _ (by simp)).2⟩) (fun c hc' => by
    have z : c = n + 4:=by simpa using hc'
    subst z
    exact ⟨_,hz''⟩)
  refine ⟨.ref s.heap.objs.size,_,I2,rfl,⟨_,x,y,I.fresh,rfl,rfl,fun zs hz => by rw [I.list_inj hz hq1]; exact hx,fun zs hz => by rw [I.list_inj hz hq2]; exact hy⟩,
   ⟨hz'',hs''.extBut _ _ (zipApart_new ha hb).TIz (kk _ _ (zipApart_new ha hb).TIz (zipApart_new ha hb).TITO (zipApart_new ha hb).TIi1 (zipApart_new ha hb).TIi2 h2),⟨_,_,hs''.extBut _ _ (zipApart_new ha hb).TOz a2⟩,a3.extBut hs''.extBut (zipApart_new ha hb).i1z,a4.extBut hs''.extBut (zipApart_new ha hb).i2z⟩,fr⟩
 done:=by
  intro X hP hw hK hc i pins s σ H E I hf st hg
  subst hP hw hK
  obtain ⟨xs,ys,hq1,hq2,hx⟩:=hg
  obtain ⟨h1,h2,⟨u0,v0,h3⟩,h4,h5⟩:=st
  obtain ⟨its1,rv1,p1,hz1⟩:=I.list hq1
  obtain ⟨its2,rv2,p2,hz2⟩:=I.list hq2
  have hl1:=rv1.length
  have hl2:=rv2.length
  refine wpAny_pyNext_zip_end (I.ok.hd hc) (zipApart_new ha hb) h1 h2 h3 h4 h5 p1.isList p2.isList ?_ fun h' kk => ⟨rfl,?_⟩
  ·rcases hx with z | z
   ·exact .inl (by simp; omega)
   ·exact .inr (by simp; omega)
  ·have hth : ∀ c ∈ [n + 4,n + 3,n,n + 1],c ∈ [n + 4,n + 2,n + 3,n,n + 1]:=fun c hc' => by
    simp only [List.mem_cons,List.not_mem_nil,or_false] at hc' ⊢
    rcases hc' with z | z | z | z <;> subst z <;> simp
   refine I.step (g':=s.gens) (d':=s.drawn) (t':=s.toks) (ch:=[n + 4,n + 3,n,n + 1]) (fun c hc' => ?_) (fun c o _ _ hcc e _ => kk c o (fun z => hcc (by simp [z])) (fun z => hcc (by simp [z])) (fun z => hcc (by simp [z])) (fun z => hcc (by simp [z])) e)
    (fun c o _ _ hcc e _ => ⟨o.slots,kk c o (fun z => hcc (by simp [z])) (fun z => hcc (by simp [z])) (fun z => hcc (by simp [z])) (fun z => hcc (by simp [z])) e⟩) (fun _ _ _ _ n => n)
    (fun c o hcc e => ⟨o,kk c o (fun z => hcc (by simp [z])) (fun z => hcc (by simp [z])) (fun z => hcc (by simp [z])) (fun z => hcc (by simp [z])) e⟩) (fun _ _ e => e) (fun _ _ _ e => e) (fun c ps e => ⟨#[],by rw [e]; simp⟩) (fun m hm => ?_) (fun c u e => ?_) I.bare
   ·obtain ⟨_,a1,_,a3,a4,a5⟩:=hf c (hth c hc')
    exact ⟨a3,a1,a4,a5⟩
   ·obtain ⟨o,es',ep,ho,r⟩:=hm
    have ne : ∀ c ∈ [n + 4,n + 2,n + 3,n,n + 1],X.env.locals ≠ c:=fun c hc' => Ne.symm (hf c hc').2.1
    exact ⟨o,es',ep,kk _ o (ne _ (by simp)) (ne _ (by simp)) (ne _ (by simp)) (ne _ (by simp)) ho,r⟩
   ·have nit : ∀ d u',H d = some u' → ∀ c ∈ [n + 4,n + 2,n + 3,n,n + 1],d ≠ c:=fun d u' e' c hc' z => by rw [z,(hf c hc').1] at e'; cases e'
    refine (I.hok c u e).stay (fun d v' hd q => kk d v' ?_ ?_ ?_ ?_ q) (fun _ q => q) fun _ _ q => q
    all_goals
     rcases hd with z | z
     ·rw [z]; exact nit c u e _ (by simp)
     ·exact nit d _ z _ (by simp)
 self:=fun _ _ _ _ _ st h => wpAny_pyIter_zip st.1 h
def iZp (Sq1 Sq2 : Hp → Addr → List V → Prop) (ta : TA) : TI:=fun σ H R => ta σ H fun vs H1 => ∃ a b xs ys,vs = [.ref a,.ref b] ∧ Sq1 H1 a xs ∧ Sq2 H1 b ys ∧ R (zfa Sq1 Sq2 a b) H1
theorem zdo {X : Cx} {es : List Expr} {k : Nat} {tpos p pos : Pos} {a b : Expr} {ta : TA} (hg : Gl X "zip") (hm : X.mg "zip" = none) (ha : PA X [a,b] ta) (hs : starEach [a,b] X.env = [(false,eval a X.env),(false,eval b X.env)]:=by rfl) (hs2 : starEach [b] X.env = [(false,eval b X.env)]:=by rfl) :
  PI X (.Tuple es k tpos) (.Call (.Name "zip" p) [a,b] [] pos) (iZp (SqL X.K) (SqL X.K) ta):=by
 intro pins s σ H R I h
 refine Call_ (zbb I hg hm boot_zip (PyProof.Rows.callWith_type1 (thn (ha pos pins s σ H _ I h) fun us s1 ⟨vs,H1,I1,r1,q1⟩ => ?_) (by rw [hs,hs2]) (by rw [hs2]; rfl)))
 obtain ⟨l1,l2,xs,ys,e,hq1,hq2,q⟩:=q1
 subst e
 cases r1 with
 | cons r rr =>
  cases rr with
  | cons r' rr =>
   cases rr
   cases r
   cases r'
   obtain ⟨its1,rv1,pl1,hz1⟩:=I1.list hq1
   obtain ⟨its2,rv2,pl2,hz2⟩:=I1.list hq2
   have hlt1 : l1 < s1.heap.objs.size:=by obtain ⟨_,_,e,_⟩:=pl1; exact Heap.lt_size e
   have hlt2 : l2 < s1.heap.objs.size:=by obtain ⟨_,_,e,_⟩:=pl2; exact Heap.lt_size e
   refine call_zip_2 pl1.isList pl2.isList fun h' b1 b2 b3 b4 b5 b6 kk => ?_
   have I2 : Inv X pins σ H1 { s1 with heap:=h' }:=I1.kept (t':=s1.toks) kk
   refine wpAny_pyIter_zip b1 ?_
   refine ⟨_,_,_,zfa (SqL X.K) (SqL X.K) l1 l2,H1,rfl,I2,zfb l1 l2 s1.heap.objs.size hlt1 hlt2,⟨b1,b2,⟨_,_,b3⟩,b4,b5⟩,fun c hc => ?_,q⟩
   have hle : s1.heap.objs.size ≤ c:=by
    simp only [List.mem_cons,List.not_mem_nil,or_false] at hc
    rcases hc with z | z | z | z | z <;> subst z <;> omega
   exact I1.fpOk hle (I1.hok.fresh hle)
def zdI (Sq : Hp → Addr → List V → Prop) (a : Addr) (n : Nat) : It :=
 ⟨fun i H => i < n ∧ ∃ xs,Sq H a xs ∧ xs.length = n,fun i H x H' => H' = H ∧ ∀ xs,Sq H a xs → xs[n - 1 - i]? = some x,fun i H => n ≤ i⟩
theorem zfc {P : Program} {w : World} {K : PySem.W.Frag} {tg : Expr} (a it : Addr) (n : Nat) : Turn P w K tg (zdI (SqL K) a n) [it] it (fun i h => i ≤ n ∧ h.IsRevIter it a ((n : Int) - 1 - (i : Int))) where
 mem:=by simp
 obj:=fun i h st b hb => by
  have z : b = it:=by simpa using hb
  subst z
  obtain ⟨_,o,e,c,d⟩:=st
  exact ⟨o,e,fun v z => by rw [d] at z; cases z⟩
 keep:=fun i h h' st k => ⟨st.1,st.2.at fun o e => k it (by simp) o e⟩
 item:=by
  intro X hP hw hK hc i pins s σ H E I hf st hg
  subst hP hw hK
  obtain ⟨hin,xs,hq,hl⟩:=hg
  obtain ⟨its,rv,p,hz⟩:=I.list hq
  have hlen:=rv.length
  obtain ⟨x,hx⟩ : ∃ x,xs[n - 1 - i]? = some x:=⟨xs[n - 1 - i]'(by omega),by simp⟩
  obtain ⟨u,hu,ru⟩:=rv.get hx
  obtain ⟨f0,f1,f2,f3,f4,f5⟩:=hf it (by simp)
  have e : (n : Int) - 1 - (i : Int) = ((n - 1 - i : Nat) : Int):=by omega
  have hit:=st.2
  rw [e] at hit
  refine wpAny_pyNext_rev_item hit p.isList (x:=u) (by simpa using hu) fun h' st' sb => ?_
  have I1 : Inv X pins σ H { s with heap:=h' }:=I.turned (t':=s.toks) (fun b o hb e => (sb.2 b hb).trans e) f0 f1 f3 f4 f5
  have e2 : ((n - 1 - i : Nat) : Int) - 1 = (n : Int) - 1 - ((i + 1 : Nat) : Int):=by omega
  rw [e2] at st'
  obtain ⟨o,eo,c,d⟩:=id st'
  exact ⟨u,rfl,zdE (s:={ s with heap:=h' }) eo c d (by decide) ⟨x,H,I1,ru,⟨rfl,fun ys hy => by rw [I.list_inj hy hq]; exact hx⟩,⟨hin,st'⟩,fun b hb => (hf b hb).1⟩⟩
 done:=by
  intro X hP hw hK hc i pins s σ H E I hf st hg
  subst hP hw hK
  obtain ⟨f0,f1,f2,f3,f4,f5⟩:=hf it (by simp)
  have hin : n ≤ i:=hg
  have e : (n : Int) - 1 - (i : Int) = -1:=by have:=st.1; omega
  have hit:=st.2
  rw [e] at hit
  exact wpAny_pyNext_rev_end (I.ok.hd hc) hit fun h' eb => ⟨rfl,I.turned (t':=s.toks) (fun b o hb e => eb b o hb e) f0 f1 f3 f4 f5⟩
 self:=fun _ _ _ _ _ st h => wpAny_pyIter_revIter st.2 h
end L2
end
section
set_option maxHeartbeats 3999000
namespace PySem
namespace F
theorem zc3 : Manifest.owners.lookup (String.ofList ['d','e','s','r','e','v','e','r'].reverse) = some Manifest.sig_reversed:=by kernel_rfl
theorem slot_rvd_next : Slot "reversed" "__next__" "reversed.__next__" :=
 .of (owner:="reversed") (n:="__next__") (by rw [typeLookup_type,builtinLookup_eq_fast]; kernel_rfl) (by decide +kernel) (by decide +kernel) (by decide +kernel) (by first | exact .inl (by decide +kernel) | exact .inr (by decide +kernel)) (by rw [isSubtype_type]; kernel_rfl)
theorem entry_rvd_next : entryFor table "reversed.__next__" = some Builtin.«reversed.__next__»:=entryFor_of_tree (by kernel_rfl)
theorem args_rvd_next_1 (a : Value) : argsOk "reversed.__next__" ⟨[a],[]⟩:=by
 unfold argsOk; rw [signature?_of (id:="reversed.__next__") (n:=['_','_','t','x','e','n','_','_']) (o:=['d','e','s','r','e','v','e','r']) (by kernel_rfl) zc3]; kernel_rfl
theorem slot_rvd_iter : Slot "reversed" "__iter__" "reversed.__iter__" :=
 .of (owner:="reversed") (n:="__iter__") (by rw [typeLookup_type,builtinLookup_eq_fast]; kernel_rfl) (by decide +kernel) (by decide +kernel) (by decide +kernel) (by first | exact .inl (by decide +kernel) | exact .inr (by decide +kernel)) (by rw [isSubtype_type]; kernel_rfl)
theorem args_rvd_iter_1 (a : Value) : argsOk "reversed.__iter__" ⟨[a],[]⟩:=by
 unfold argsOk; rw [signature?_of (id:="reversed.__iter__") (n:=['_','_','r','e','t','i','_','_']) (o:=['d','e','s','r','e','v','e','r']) (by kernel_rfl) zc3]; kernel_rfl
theorem entry_rvd_iter : entryFor table "reversed.__iter__" = some Builtin.«dict_keyiterator.__iter__»:=entryFor_alias (id':="dict_keyiterator.__iter__") (by kernel_rfl) (by first | rfl | decide +kernel | (unfold String.splitOn; simp +decide [String.splitOnAux])) (by decide +kernel) (by kernel_rfl)
theorem zcI : Slot "reversed" "__init__" "object.__init__":=.of (owner:="object") (n:="__init__") (by rw [typeLookup_type,builtinLookup_eq_fast]; kernel_rfl) (by decide +kernel) (by decide +kernel) (by decide +kernel) (by first | exact .inl (by decide +kernel) | exact .inr (by decide +kernel)) (by rw [isSubtype_type]; kernel_rfl)
theorem called_rvd : TypeCalled "reversed" "reversed.__new__" "object.__init__" :=
 ⟨by decide +kernel,by decide +kernel,⟨_,_,mro_reversed⟩,made_reversed,by decide +kernel,by rw [isSubtype_type]; kernel_rfl,zcI⟩
theorem noRev_tuple : typeLookup (.type "tuple") "__reversed__" = pure none:=by rw [typeLookup_type,builtinLookup_eq_fast]; kernel_rfl
end F
def zdp (l : Addr) (i : Int) : Obj:={ cls:=.type "reversed",data:=.fields #[.ref l,rawInt i] }
def Heap.IsRvd (h : Heap) (a l : Addr) (i : Int) : Prop:=∃ o,h.get? a = some o ∧ o.cls = .type "reversed" ∧ o.data = .fields #[.ref l,rawInt i]
theorem Heap.IsRvd.typeIs {s : Shared} {a l : Addr} {i : Int} (x : s.heap.IsRvd a l i) : s.TypeIs (.ref a) "reversed":=let ⟨o,ho,hc,_⟩:=x; ⟨o,ho,hc⟩
theorem Heap.IsRvd.at {h h' : Heap} {a l : Addr} {i : Int} (x : h.IsRvd a l i) (e : ∀ o,h.get? a = some o → h'.get? a = some o) : h'.IsRvd a l i:=let ⟨o,ho,r⟩:=x; ⟨o,e _ ho,r⟩
open PyProof.Rows in
theorem zcJ (l : Addr) (items : Array Value) :
  Meets (Builtin.«reversed.__new__» ⟨[.type "reversed",.ref l],[]⟩) (fun _ R s => IsTup s.heap l items ∧ (items.size : Int) < 2 ^ 63 ∧
   R (.ok (.ret (.ref s.heap.objs.size))) { s with heap:=s.heap.push (zdp l ((items.size : Int) - 1)),toks:=s.toks + 1 + 1 }) :=
 .of_wp fun prog w A R s h => by
  obtain ⟨hl,hsz,h⟩:=h
  unfold Builtin.«reversed.__new__»; refine wpAny_bind (wpAny_of_eq (newClass_reversed _) ?_)
  try dsimp only
  iterate 2 refine wpAny_bind (wpAny_of_eq (a:=()) (by first | rfl | kernel_rfl) ?_)
  try dsimp only
  refine wpAny_bind (wpAny_specialOf hl.typeIs F.noRev_tuple ?_)
  try dsimp only
  refine wpAny_bind (wpAny_bind (m:=isInstance (.ref l) (.type "dict")) (wpAny_isInstance hl.typeIs F.sub_tuple_dict ?_))
  simp only [Bool.false_eq_true,if_false]; refine wpAny_bind (m:=specialOf (.ref l) "__getitem__") (wpAny_specialOf hl.typeIs slot_tuple_getitem.lookup ?_)
  refine wpAny_pure ?_
  try dsimp only
  try simp only [Bool.not_true,Bool.false_eq_true,if_false]
  refine wpAny_bind (len_tuple hl hsz ?_)
  refine wpAny_bind (m:=asInt? _) (wpAny_of_eq (a:=some (items.size : Int)) rfl ?_)
  try dsimp only
  refine wpAny_bind (m:=Builtin.SmallTypes.newRecord _ _) ?_
  show wpAny _ _ (newObj (.type "reversed") (.fields #[.ref l,rawInt ((items.size : Int) - 1)]) none) _ _ _
  refine wpAny_newObj_type ?_
  exact wpAny_pure ⟨_,rfl,h⟩
section
variable {prog : Program} {w : World} {A : Around} {E : Value → Shared → Prop} {s : Shared}
open PyProof.Rows
theorem zcq {l : Addr} {items : Array Value} {Q : Value → Shared → Prop} (hl : IsTup s.heap l items) (hsz : (items.size : Int) < 2 ^ 63)
  (h : Q (.ref s.heap.objs.size) { s with heap:=s.heap.push (zdp l ((items.size : Int) - 1)),toks:=s.toks + 1 + 1 }) : wpAny (model prog w) A (call (.type "reversed") [.ref l]) Q E s:=by
 refine callType_new F.called_rvd (by decide) (F.typeCall_reversed_1 _) (F.newCall_reversed_1 _) (fun obj => F.args_object_init_2 obj _) F.entry_reversed_new (zcJ l items) ⟨hl,hsz,?_⟩; exact ⟨⟨_,Heap.get?_push_size _ rfl,rfl⟩,h⟩
theorem zba {it l : Addr} {i : Nat} {items : Array Value} {x : Value} {Q : Option Value → Shared → Prop} (hit : s.heap.IsRvd it l (i : Int)) (hl : IsTup s.heap l items) (hx : items[i]? = some x) (hi : (i : Int) < 2 ^ 62)
  (hQ : ∀ h',h'.IsRvd it l ((i : Int) - 1) → Heap.SameBut it s.heap h' → Q (some x) { s with heap:=h',toks:=s.toks + 1 }) : wpAny (model prog w) A (pyNext (.ref it)) Q E s:=by
 obtain ⟨o,ho,hc,hd⟩:=id hit; unfold pyNext
 refine wpAny_bind (wpAny_attempt (wpAny_callSpecial?_slot (name:=Str.ofString "__next__") hit.typeIs F.slot_rvd_next
  (wpAny_call_entry F.slot_rvd_next hit.typeIs F.entry_rvd_next ?_ (F.args_rvd_next_1 _))))
 unfold Builtin.«reversed.__next__»
 refine wpAny_bind (wpAny_of_eq (a:=(Value.ref it,[])) rfl ?_); try dsimp only
 refine wpAny_bind (wpAny_field ho hd (x:=.ref l) rfl ?_); refine wpAny_bind (wpAny_field ho hd (x:=rawInt (i : Int)) rfl ?_)
 show wpAny _ _ (if (i : Int) < 0 then _ else _) _ _ s; rw [if_neg (by omega)]
 refine wpAny_bind (wpAny_specialOf hl.typeIs slot_tuple_getitem.lookup ?_)
 try simp only [Option.isNone_some,Bool.false_eq_true,if_false]
 refine wpAny_bind (wpAny_mkInt ?_); have hlt : i < items.size:=by
  obtain ⟨h1,_⟩:=Array.getElem?_eq_some_iff.mp hx
  exact h1
 refine wpAny_bind (wpAny_attempt (getItem_tuple (j:=i) hl (by omega) (by omega) (by rw [seqIndex_of (by omega) (by omega)]; simp) hx ?_))
 try dsimp only
 refine wpAny_bind (wpAny_field (s:={ s with toks:=s.toks + 1 }) ho hd (x:=rawInt (i : Int)) rfl ?_)
 show wpAny _ _ (setField (.ref it) 1 (rawInt ((i : Int) - 1)) >>= _) _ _ _
 refine wpAny_bind (wpAny_setField (s:={ s with toks:=s.toks + 1 }) ho hd (by simp) (wpAny_pure ⟨x,rfl,wpAny_pure (hQ _ ?_ (Heap.SameBut.update ..))⟩))
 exact ⟨_,Heap.get?_update_self _ ho (Obj.isFreed_of_fields (Obj.data_mapFields hd _)),(Obj.cls_mapFields ..).trans hc,by rw [Obj.data_mapFields hd]; simp⟩
theorem zbg {it l : Addr} {Q : Option Value → Shared → Prop} (hh : A.handled = none) (hit : s.heap.IsRvd it l (-1)) (hQ : ∀ h',Heap.ExtBut it s.heap h' → Q none { s with heap:=h' }) : wpAny (model prog w) A (pyNext (.ref it)) Q E s:=by
 obtain ⟨o,ho,hc,hd⟩:=id hit; unfold pyNext
 refine wpAny_bind (wpAny_attempt (wpAny_callSpecial?_slot (name:=Str.ofString "__next__") hit.typeIs F.slot_rvd_next
  (wpAny_call_entry F.slot_rvd_next hit.typeIs F.entry_rvd_next ?_ (F.args_rvd_next_1 _))))
 unfold Builtin.«reversed.__next__»
 refine wpAny_bind (wpAny_of_eq (a:=(Value.ref it,[])) rfl ?_); try dsimp only
 refine wpAny_bind (wpAny_field ho hd (x:=.ref l) rfl ?_); refine wpAny_bind (wpAny_field ho hd (x:=rawInt (-1)) rfl ?_)
 show wpAny _ _ (if (-1 : Int) < 0 then _ else _) _ _ s; rw [if_pos (by decide)]
 refine wpAny_bind (wpAny_rule ?_)
 refine wpAny_bind (wpAny_bind (m:=setField (.ref it) 1 (rawInt (-1))) (wpAny_setField ho hd (by simp) ?_))
 have hd2:=Obj.data_mapFields hd (·.setIfInBounds 1 (rawInt (-1)))
 have ho2:=Heap.get?_update_self (Obj.mapFields (·.setIfInBounds 1 (rawInt (-1)))) ho (Obj.isFreed_of_fields hd2)
 refine wpAny_setField ho2 hd2 (by simp) ?_
 try dsimp only
 refine wpAny_bind ?_; show wpAny _ _ (newExc (.type "StopIteration") [] >>= _) _ _ _
 refine wpAny_bind ?_
 simp only [newExc,newTuple]
 refine wpAny_bind (wpAny_newObj_type ?_ (by size_fits)); refine wpAny_bind (m:=firstArgMember _ _) (wpAny_of_eq (a:=Value.none) (by first | rfl | (simp only [firstArgMember]; rfl)) ?_)
 refine wpAny_newObj_type ?_ (by size_fits); simp only [raiseNew]
 refine wpAny_bind (wpAny_handled ?_); first | rw [show A.in1.handled = none from hh] | rw [hh]
 refine wpAny_bind (wpAny_pure (wpAny_throw ?_)); refine wpAny_bind (wpAny_isInstance (T:="StopIteration") (b:=true) ⟨_,Heap.get?_push_size _ rfl,rfl⟩ isSubtype_stop ?_)
 exact wpAny_pure (hQ _ ((((Heap.SameBut.update ..).extBut.trans (Heap.SameBut.update ..).extBut).push _).push _))
theorem zaX {it l : Addr} {i : Int} {Q : Value → Shared → Prop} (hit : s.heap.IsRvd it l i) (h : Q (.ref it) s) : wpAny (model prog w) A (pyIter (.ref it)) Q E s:=by
 refine wpAny_pyIter_slot hit.typeIs F.slot_rvd_iter (wpAny_call_entry F.slot_rvd_iter hit.typeIs F.entry_rvd_iter ?_ (F.args_rvd_iter_1 _))
 show wpAny _ _ (ret (.ref it)) _ _ s; exact wpAny_pure ⟨_,rfl,"reversed",_,hit.typeIs,F.slot_rvd_next.lookup,h⟩
end
end PySem
namespace PySem
section
variable {prog : Program} {w : World} {A : Around} {E : Value → Shared → Prop} {s : Shared}
theorem zdJ {it t : Addr} {i : Nat} {items : Array Value} {x : Value} {Q : Value → Shared → Prop} (hit : s.heap.IsTupleIter it t i) (ht : s.heap.IsTuple t items) (hx : items[i]? = some x)
  (hQ : ∀ h',h'.IsTupleIter it t (i + 1) → Heap.SameBut it s.heap h' → Q x { s with heap:=h' }) : wpAny (model prog w) A (Builtin.SmallTypes.nextOf (.ref it)) Q E s:=by
 obtain ⟨o,ho,hc,hd⟩:=id hit; obtain ⟨ot,hot,_,nt,hdt⟩:=ht
 unfold Builtin.SmallTypes.nextOf; refine wpAny_bind (wpAny_callSpecial?_slot (name:=Str.ofString "__next__") hit.typeIs F.slot_tuple_iterator_next (wpAny_call_entry F.slot_tuple_iterator_next hit.typeIs F.entry_tuple_iterator_next ?_ (F.args_tuple_iterator_next_1 _)))
 show wpAny _ _ (field (.ref it) 0 >>= _) _ _ s; refine wpAny_bind (wpAny_field ho hd (x:=.ref t) rfl ?_); show wpAny _ _ (if (Value.ref t == Value.none) = true then _ else _) _ _ _; rw [if_neg (by exact Bool.false_ne_true)]
 refine wpAny_bind (wpAny_field ho hd (x:=.int _ 0) rfl ?_); refine wpAny_bind (m:=seqItems? _) (wpAny_seqItems hot hdt ?_); simp only [Int.toNat_natCast,hx]
 have hn:=Heap.get?_update_self (Obj.mapFields (·.setIfInBounds 1 (rawInt ((i + 1 : Nat) : Int)))) ho (Obj.isFreed_of_fields (Obj.data_mapFields hd _))
 refine wpAny_bind (wpAny_setField ho hd (by simp) (wpAny_pure ⟨x,rfl,wpAny_pure (hQ _ ⟨_,hn,(Obj.cls_mapFields ..).trans hc,?_⟩ (Heap.SameBut.update ..))⟩)); rw [Obj.data_mapFields hd]; simp [rawInt]
theorem zb6 {it t : Addr} {i : Nat} {items : Array Value} {Q : Value → Shared → Prop} (hh : A.handled = none) (hit : s.heap.IsTupleIter it t i) (ht : s.heap.IsTuple t items) (hx : items[i]? = none)
  (hE : ∀ h' e,Heap.ExtBut it s.heap h' → (∃ o,h'.get? e = some o ∧ o.cls = .type "StopIteration") → E (.ref e) { s with heap:=h' }) : wpAny (model prog w) A (Builtin.SmallTypes.nextOf (.ref it)) Q E s:=by
 obtain ⟨o,ho,hc,hd⟩:=id hit; obtain ⟨ot,hot,_,nt,hdt⟩:=ht
 unfold Builtin.SmallTypes.nextOf; refine wpAny_bind (wpAny_callSpecial?_slot (name:=Str.ofString "__next__") hit.typeIs F.slot_tuple_iterator_next (wpAny_call_entry F.slot_tuple_iterator_next hit.typeIs F.entry_tuple_iterator_next ?_ (F.args_tuple_iterator_next_1 _)))
 show wpAny _ _ (field (.ref it) 0 >>= _) _ _ s; refine wpAny_bind (wpAny_field ho hd (x:=.ref t) rfl ?_); show wpAny _ _ (if (Value.ref t == Value.none) = true then _ else _) _ _ _; rw [if_neg (by exact Bool.false_ne_true)]
 refine wpAny_bind (wpAny_field ho hd (x:=.int _ 0) rfl ?_); refine wpAny_bind (m:=seqItems? _) (wpAny_seqItems hot hdt ?_); simp only [Int.toNat_natCast,hx]
 refine wpAny_bind (wpAny_rule (wpAny_bind (wpAny_setField ho hd (by simp) ?_))); show wpAny _ _ (newExc (.type "StopIteration") [] >>= _) _ _ _; refine wpAny_bind ?_
 simp only [newExc,newTuple]; refine wpAny_bind (wpAny_newObj_type ?_ (by size_fits)); refine wpAny_bind (m:=firstArgMember _ _) (wpAny_of_eq (a:=Value.none) (by first | rfl | (simp only [firstArgMember]; rfl)) ?_)
 refine wpAny_newObj_type ?_ (by size_fits); simp only [raiseNew]; refine wpAny_bind (wpAny_handled ?_); first | rw [show A.in1.handled = none from hh] | rw [hh]
 refine wpAny_bind (wpAny_pure (wpAny_throw ?_)); exact hE _ _ (((Heap.SameBut.update ..).extBut.push _).push _) ⟨_,Heap.get?_push_size _ rfl,rfl⟩
end
theorem Draws.tuple {prog : Program} {w : World} {A : Around} (hh : A.handled = none) (it t : Addr) (hne : t ≠ it) (items : Array Value) : Draws prog w A it [it,t] items.size (fun i v => items[i]? = some v) (fun i h => h.IsTupleIter it t i ∧ h.IsTuple t items) where
 live:=fun i h st => st.1.imp fun o r => r.1
 frame:=fun i h h' st kk => ⟨st.1.at fun o => kk it (by simp) o,st.2.at fun o => kk t (by simp) o⟩
 item:=fun i s Q E hi st hQ => zdJ st.1 st.2 (x:=items[i]) (by simp [hi]) fun h' a b => hQ _ h' s.toks (by simp [hi]) ⟨a,st.2.extBut b.extBut hne⟩ b
 done:=fun s Q E st hE => zb6 hh st.1 st.2 (by simp) hE
def zaE (t : Addr) : Obj:={ cls:=.type "tuple_iterator",data:=.fields #[.ref t,.int 0 0] }
def zfQ (it : Addr) : Obj:={ cls:=.type "enumerate",data:=.fields #[.none,.bool false,.ref it,rawInt 0,.none,.none] }
open AutoSeq1 (wpAny_loadPart') in
theorem zdK (l : Addr) (items : Array Value) (n : Nat) (dct : Option Addr) (sl : Array (Option Value)) :
  Meets (Builtin.«enumerate.__new__» ⟨[.type "enumerate",.ref l],[]⟩) (fun _ R s => s.heap.get? l = some { cls:=.type "tuple",dict:=dct,data:=.seq items n,slots:=sl } ∧
   R (.ok (.ret (.ref (s.heap.push (zaE l)).objs.size))) { s with heap:=(s.heap.push (zaE l)).push (zfQ s.heap.objs.size) }) :=
 .of_wp fun prog w A R s h => by
  obtain ⟨hp,g,d,tk,os⟩:=s; obtain ⟨hl,h⟩:=h; have hT : Heap.IsTuple (Shared.heap ⟨hp,g,d,tk,os⟩) l items:=⟨_,hl,rfl,n,rfl⟩
  have hsub:=sub_enumerate; wp_walk using wpAny_loadPart' hl
  refine wpAny_stack_any fun st => wpAny_pure ?_; split
  ·rename_i c _ _ _ _ _; cases (c == Value.type "enumerate") <;> (wp_walk using wpAny_loadPart' hl,wpAny_pyIter_tuple hT; exact ⟨_,rfl,h⟩)
  ·wp_walk using wpAny_loadPart' hl,wpAny_pyIter_tuple hT; exact ⟨_,rfl,h⟩
theorem zbh {prog : Program} {w : World} {A : Around} {E : Value → Shared → Prop} {s : Shared} {l : Addr} {items : Array Value} {Q : Value → Shared → Prop} (hL : s.heap.IsTuple l items)
  (h : ∀ h',IsEnum h' (s.heap.objs.size + 1) s.heap.objs.size 0 .none → h'.IsTupleIter s.heap.objs.size l 0 → h'.objs.size = s.heap.objs.size + 2 →
   (∀ b o,s.heap.get? b = some o → h'.get? b = some o) → Q (.ref (s.heap.objs.size + 1)) { s with heap:=h' }) : wpAny (model prog w) A (call (.type "enumerate") [.ref l]) Q E s:=by
 obtain ⟨⟨c,dct,dt,sl⟩,hl,hc,n,hd⟩:=hL; replace hc : c = .type "tuple":=hc; replace hd : dt = .seq items n:=hd; subst hc hd
 refine callType_new F.called_enumerate (by decide) (F.typeCall_enumerate_1 _) (F.newCall_enumerate_1 _) (fun obj => F.args_object_init_2 obj _) F.entry_enumerate_new (zdK l items n dct sl) ⟨hl,?_⟩
 have hz : (s.heap.push (zaE l)).objs.size = s.heap.objs.size + 1:=Heap.size_push ..
 have he:=Heap.get?_push_size (s.heap.push (zaE l)) (o:=zfQ s.heap.objs.size) rfl
 show _ ∧ _
 rw [hz] at he ⊢
 exact ⟨⟨_,he,rfl⟩,h _ he ⟨_,Heap.get?_push_of_some _ (Heap.get?_push_size _ rfl),rfl,rfl⟩ (by rw [Heap.size_push,hz]) fun b o x => Heap.get?_push_of_some _ (Heap.get?_push_of_some _ x)⟩
end PySem
namespace L2
open PySem PySem.Spec PyProof.Rows
theorem zfd {P : Program} {w : World} {K : PySem.W.Frag} {tg : Expr} (a it : Addr) (n : Nat) : Turn P w K tg (zdI (SqT K) a n) [it] it (fun i h => i ≤ n ∧ h.IsRvd it a ((n : Int) - 1 - (i : Int))) where
 mem:=by simp
 obj:=fun i h st b hb => by
  have z : b = it:=by simpa using hb
  subst z
  obtain ⟨_,o,e,c,d⟩:=st
  exact ⟨o,e,fun v z => by rw [d] at z; cases z⟩
 keep:=fun i h h' st k => ⟨st.1,st.2.at fun o e => k it (by simp) o e⟩
 item:=by
  intro X hP hw hK hc i pins s σ H E I hf st hg
  subst hP hw hK
  obtain ⟨hin,xs,hq,hl⟩:=hg
  obtain ⟨its,rv,p,hz⟩:=I.tuple hq
  have hlen:=rv.length
  have hsl:=sizeLine_eq
  obtain ⟨x,hx⟩ : ∃ x,xs[n - 1 - i]? = some x:=⟨xs[n - 1 - i]'(by omega),by simp⟩
  obtain ⟨u,hu,ru⟩:=rv.get hx
  obtain ⟨f0,f1,f2,f3,f4,f5⟩:=hf it (by simp)
  have e : (n : Int) - 1 - (i : Int) = ((n - 1 - i : Nat) : Int):=by omega
  have hit:=st.2
  rw [e] at hit
  refine zba hit p (x:=u) (by simpa using hu) (by omega) fun h' st' sb => ?_
  have I1 : Inv X pins σ H { s with heap:=h',toks:=s.toks + 1 }:=I.turned (t':=s.toks + 1) (fun b o hb e => (sb.2 b hb).trans e) f0 f1 f3 f4 f5
  have e2 : ((n - 1 - i : Nat) : Int) - 1 = (n : Int) - 1 - ((i + 1 : Nat) : Int):=by omega
  rw [e2] at st'
  obtain ⟨o,eo,c,d⟩:=id st'
  exact ⟨u,rfl,zdE (s:={ s with heap:=h',toks:=s.toks + 1 }) eo c d (by decide) ⟨x,H,I1,ru,⟨rfl,fun ys hy => by rw [I.tuple_inj hy hq]; exact hx⟩,⟨hin,st'⟩,fun b hb => (hf b hb).1⟩⟩
 done:=by
  intro X hP hw hK hc i pins s σ H E I hf st hg
  subst hP hw hK
  obtain ⟨f0,f1,f2,f3,f4,f5⟩:=hf it (by simp)
  have hin : n ≤ i:=hg
  have e : (n : Int) - 1 - (i : Int) = -1:=by have:=st.1; omega
  have hit:=st.2
  rw [e] at hit
  exact zbg (I.ok.hd hc) hit fun h' eb => ⟨rfl,I.turned (t':=s.toks) (fun b o hb e => eb b o hb e) f0 f1 f3 f4 f5⟩
 self:=fun _ _ _ _ _ st h => zaX st.2 h
theorem zdq {X : Cx} {tg : Expr} {pins : List (Addr × Obj)} {σ : St} {H1 : Hp} {s1 : Shared} {R : It → Hp → Prop} {l : Addr} {xs : List V} (I1 : Inv X pins σ H1 s1) (hq : SqT X.K H1 l xs) (q : R (zdI (SqT X.K) l xs.length) H1) :
  wpAny (model X.prog X.w) X.A (call (.type "reversed") [.ref l]) (fun v s2 => wpAny (model X.prog X.w) X.A (pyIter v) (PIE X pins σ tg R) X.xe s2) X.xe s1:=by
 obtain ⟨its,rv,pl,hz⟩:=I1.tuple hq
 have hlen:=rv.length
 have hsl:=sizeLine_eq
 refine zcq pl (by rw [List.size_toArray]; omega) ?_
 have I2 : Inv X pins σ H1 { s1 with heap:=s1.heap.push (zdp l ((its.toArray.size : Int) - 1)),toks:=s1.toks + 1 + 1 }:=I1.kept fun b o e => Heap.get?_push_of_some _ e
 have hr : (s1.heap.push (zdp l ((its.toArray.size : Int) - 1))).IsRvd s1.heap.objs.size l ((xs.length : Int) - 1 - ((0 : Nat) : Int)):=by
  refine ⟨_,Heap.get?_push_size _ rfl,rfl,?_⟩
  have e1 : (its.toArray.size : Int) - 1 = (xs.length : Int) - 1 - ((0 : Nat) : Int):=by rw [List.size_toArray,hlen]; omega
  show Data.fields #[.ref l,rawInt ((its.toArray.size : Int) - 1)] = _
  rw [e1]
 refine zaX hr ?_
 refine ⟨_,[s1.heap.objs.size],_,zdI (SqT X.K) l xs.length,H1,rfl,I2,zfd l s1.heap.objs.size xs.length,⟨Nat.zero_le _,hr⟩,fun b hb => ?_,q⟩
 have z : b = s1.heap.objs.size:=by simpa using hb
 subst z
 exact I1.fpOk (Nat.le_refl _) (I1.hok.fresh (Nat.le_refl _))
theorem zdL {X : Cx} {tg : Expr} {pins : List (Addr × Obj)} {σ : St} {H1 : Hp} {s1 : Shared} {R : It → Hp → Prop} {l : Addr} {xs : List V} (I1 : Inv X pins σ H1 s1) (hq : SqL X.K H1 l xs) (q : R (zdI (SqL X.K) l xs.length) H1) :
  wpAny (model X.prog X.w) X.A (call (.type "reversed") [.ref l]) (fun v s2 => wpAny (model X.prog X.w) X.A (pyIter v) (PIE X pins σ tg R) X.xe s2) X.xe s1:=by
 obtain ⟨its,rv,pl,hz⟩:=I1.list hq
 have hlen:=rv.length
 refine call_reversed_list pl.isList ?_
 have I2 : Inv X pins σ H1 { s1 with heap:=s1.heap.push (revObj l ((its.toArray.size : Int) - 1)) }:=I1.kept (t':=s1.toks) fun b o e => Heap.get?_push_of_some _ e
 have hr : (s1.heap.push (revObj l ((its.toArray.size : Int) - 1))).IsRevIter s1.heap.objs.size l ((xs.length : Int) - 1 - ((0 : Nat) : Int)):=by
  refine ⟨_,Heap.get?_push_size _ rfl,rfl,?_⟩
  have e1 : (its.toArray.size : Int) - 1 = (xs.length : Int) - 1 - ((0 : Nat) : Int):=by rw [List.size_toArray,hlen]; omega
  show Data.fields #[.ref l,rawInt ((its.toArray.size : Int) - 1)] = _
  rw [e1]
 refine wpAny_pyIter_revIter hr ?_
 refine ⟨_,[s1.heap.objs.size],_,zdI (SqL X.K) l xs.length,H1,rfl,I2,zfc l s1.heap.objs.size xs.length,⟨Nat.zero_le _,hr⟩,fun b hb => ?_,q⟩
 have z : b = s1.heap.objs.size:=by simpa using hb
 subst z
 exact I1.fpOk (Nat.le_refl _) (I1.hok.fresh (Nat.le_refl _))
def ziW (K : PySem.W.Frag) (ta : TA) : TI:=fun σ H R => ta σ H fun vs H1 => ∃ a xs,vs = [.ref a] ∧ ((SqL K H1 a xs ∧ R (zdI (SqL K) a xs.length) H1) ∨ (SqT K H1 a xs ∧ R (zdI (SqT K) a xs.length) H1))
theorem zhK {X : Cx} {tg : Expr} {p pos : Pos} {a : Expr} {ta : TA} (hg : Gl X "reversed") (hm : X.mg "reversed" = none) (ha : PA X [a] ta) (hs : starEach [a] X.env = [(false,eval a X.env)]:=by rfl) :
  PI X tg (.Call (.Name "reversed" p) [a] [] pos) (ziW X.K ta):=by
 intro pins s σ H R I h
 refine Call_ (zbb I hg hm boot_reversed (PyProof.Rows.callWith_type1 (thn (ha pos pins s σ H _ I h) fun us s1 ⟨vs,H1,I1,r1,q1⟩ => ?_) hs rfl))
 obtain ⟨l,xs,e,hq⟩:=q1
 subst e
 cases r1 with
 | cons r rr =>
  cases rr
  cases r
  rcases hq with ⟨hq,q⟩ | ⟨hq,q⟩
  ·exact zdL I1 hq q
  ·exact zdq I1 hq q
theorem zee {P : Program} {w : World} {K : PySem.W.Frag} {es : List Expr} {k : Nat} {pos : Pos} (a it e : Addr) (hei : e ≠ it) (hai : a ≠ it) (hae : a ≠ e) : Turn P w K (.Tuple es k pos) (zfO (SqT K) a) [e,it] e (fun i h => (∃ old,IsEnum h e it i old) ∧ h.IsTupleIter it a i) where
 mem:=by simp
 obj:=fun i h st b hb => by
  obtain ⟨⟨old,he⟩,o,ho,hc,hd⟩:=st
  rcases List.mem_cons.mp hb with z | z
  ·subst z
   exact ⟨_,he,fun v z => by cases z⟩
  ·have z : b = it:=by simpa using z
   subst z
   exact ⟨o,ho,fun v z => by rw [hd] at z; cases z⟩
 keep:=fun i h h' st kk => ⟨st.1.imp fun old he => kk e (by simp) _ he,st.2.at fun o eo => kk it (by simp) o eo⟩
 item:=by
  intro X hP hw hK hc i pins s σ H E I hf st hg
  subst hP hw hK
  obtain ⟨xs,x,hq,hx⟩:=hg
  obtain ⟨⟨old,he⟩,hit⟩:=st
  obtain ⟨its,rv,p,hz⟩:=I.tuple hq
  obtain ⟨u,hu,ru⟩:=rv.get hx
  have hes : e < s.heap.objs.size:=Heap.lt_size he
  have hits : it < s.heap.objs.size:=by obtain ⟨o,ho,_⟩:=hit; exact Heap.lt_size ho
  have hlt : i < its.toArray.size:=by
   have:=(List.getElem?_eq_some_iff.mp hu).1
   simpa using this
  have hh : X.A.in1.handled = none:=by simp [I.ok.hd hc]
  refine wpAny_pyNext_enum_itemD (Draws.tuple hh it a hai its.toArray) he ⟨hit,(show s.heap.IsTuple a its.toArray from p)⟩ hlt hei (by simp [hei,Ne.symm hae]) fun u' h' tk hPu ho' hst' hT hsz kk => ?_
  obtain ⟨hit',htup'⟩:=hst'
  have eu : u' = u:=by
   have e1 : its[i]? = some u':=by simpa using hPu
   rw [hu] at e1
   exact (Option.some.inj e1).symm
  subst eu
  have k1 : ∀ b o,b ∉ [e,it] → s.heap.get? b = some o → h'.get? b = some o:=fun b o hb eo => kk b o (fun z => hb (by simp [z])) (fun z => hb (by simp [z])) eo
  have th1 : ∀ b ∈ [e,it],∃ o,h'.get? b = some o:=fun b hb => by
   rcases List.mem_cons.mp hb with z | z
   ·subst z; exact ⟨_,ho'⟩
   ·have z : b = it:=by simpa using z
    subst z
    obtain ⟨o,eo,_⟩:=hit'
    exact ⟨o,eo⟩
  have I1 : Inv X pins σ (upd H s.heap.objs.size (.tup [.int i,x])) { s with heap:=h',toks:=tk + 1 } :=
   I.turnedNew k1 hf th1 (Nat.le_refl _) ⟨zaC,_,.cons ⟨tk,rfl⟩ (.cons ru .nil),za4 hT⟩
  refine ⟨_,rfl,wpAny_letOwnedTupleGo_enum ho' fun h'' he'' hs'' => ?_⟩
  have fr : ∀ b ∈ [e,it],upd H s.heap.objs.size (.tup [.int i,x]) b = none:=fun b hb => by
   have hlt : b < s.heap.objs.size:=by
    rcases List.mem_cons.mp hb with z | z
    ·subst z; exact hes
    ·have z : b = it:=by simpa using z
     subst z; exact hits
   rw [zn (Nat.ne_of_lt hlt)]
   exact (hf b hb).1
  have I2 : Inv X pins σ (upd H s.heap.objs.size (.tup [.int i,x])) { s with heap:=h'',toks:=tk + 1 } :=
   Inv.turnedL (s:={ s with heap:=h',toks:=tk + 1 }) (ch:=[e]) (t':=tk + 1) I1 (fun b o hb eo => hs''.extBut b o (by simpa using hb) eo) (fun b hb => by
    have z : b = e:=by simpa using hb
    subst z
    exact ⟨fr b (by simp),(hf b (by simp)).2⟩) (fun b hb => by
    have z : b = e:=by simpa using hb
    subst z
    exact ⟨_,he''⟩)
  refine ⟨.ref s.heap.objs.size,_,I2,rfl,⟨_,x,I.fresh,rfl,rfl,fun ys hy => by rw [I.tuple_inj hy hq]; exact hx⟩,⟨⟨_,by simpa using he''⟩,hit'.extBut hs''.extBut (Ne.symm hei)⟩,fr⟩
 done:=by
  intro X hP hw hK hc i pins s σ H E I hf st hg
  subst hP hw hK
  obtain ⟨xs,hq,hx⟩:=hg
  obtain ⟨⟨old,he⟩,hit⟩:=st
  obtain ⟨its,rv,p,hz⟩:=I.tuple hq
  have hl:=rv.length
  obtain ⟨f0,f1,f2,f3,f4,f5⟩:=hf it (by simp)
  have hT : s.TypeIs (.ref e) "enumerate":=⟨_,he,rfl⟩; have hh : X.A.in1.handled = none:=by simp [I.ok.hd hc]
  unfold pyNext; refine wpAny_bind (wpAny_attempt (wpAny_callSpecial?_slot (name:=Str.ofString "__next__") hT F.slot_enumerate_next (wpAny_call_entry F.slot_enumerate_next hT F.entry_enumerate_next ?_ (F.args_enumerate_next_1 _))))
  show wpAny _ _ (field (.ref e) 2 >>= _) _ _ _; refine wpAny_bind (wpAny_field he rfl (x:=.ref it) rfl ?_)
  refine wpAny_bind (zb6 hh hit (show s.heap.IsTuple a its.toArray from p) (by simp; omega) fun h' x he' hx' => ?_)
  obtain ⟨o,ho,hc⟩:=hx'
  refine wpAny_bind (wpAny_isInstance (T:="StopIteration") (b:=true) ⟨o,ho,hc⟩ isSubtype_stop ?_); exact wpAny_pure ⟨rfl,I.turned (t':=s.toks) (fun b o hb e => he' b o hb e) f0 f1 f3 f4 f5⟩
 self:=fun _ _ _ _ _ st h => by
  obtain ⟨⟨old,he⟩,_⟩:=st
  exact wpAny_pyIter_enum he h
theorem zfR {X : Cx} {es : List Expr} {k : Nat} {tpos p pos : Pos} {a : Expr} {ta : TA} (hg : Gl X "enumerate") (hm : X.mg "enumerate" = none) (ha : PA X [a] ta) (hs : starEach [a] X.env = [(false,eval a X.env)]:=by rfl) :
  PI X (.Tuple es k tpos) (.Call (.Name "enumerate" p) [a] [] pos) (iEn (SqT X.K) ta):=by
 intro pins s σ H R I h
 refine Call_ (zbb I hg hm boot_enumerate (PyProof.Rows.callWith_type1 (thn (ha pos pins s σ H _ I h) fun us s1 ⟨vs,H1,I1,r1,q1⟩ => ?_) hs rfl))
 obtain ⟨l,xs,e,hq,q⟩:=q1
 subst e
 cases r1 with
 | cons r rr =>
  cases rr
  cases r
  obtain ⟨its,rv,pl,hz⟩:=I1.tuple hq
  have hlt : l < s1.heap.objs.size:=by obtain ⟨_,e,_⟩:=pl; exact Heap.lt_size e
  refine zbh (show s1.heap.IsTuple l its.toArray from pl) fun h' he hi hsz kk => ?_
  have I2 : Inv X pins σ H1 { s1 with heap:=h' }:=I1.kept (t':=s1.toks) kk
  refine wpAny_pyIter_enum he ?_; refine ⟨_,[s1.heap.objs.size + 1,s1.heap.objs.size],_,zfO (SqT X.K) l,H1,rfl,I2,zee l s1.heap.objs.size (s1.heap.objs.size + 1) (Nat.succ_ne_self _) (Nat.ne_of_lt hlt) (Nat.ne_of_lt (Nat.lt_succ_of_lt hlt)),⟨⟨_,he⟩,hi⟩,fun b hb => ?_,q⟩
  have hle : s1.heap.objs.size ≤ b:=by
   rcases List.mem_cons.mp hb with z | z
   ·rw [z]; exact Nat.le_succ _
   ·have z : b = s1.heap.objs.size:=by simpa using z
    rw [z]; exact Nat.le_refl _
  exact I1.fpOk hle (I1.hok.fresh hle)
end L2
end
section
set_option maxHeartbeats 3999000
namespace L2
open PySem PySem.Spec PyProof.Rows
theorem zb7 {X : Cx} : zb4 X (.type "range") (fun xs H Q => ∃ j : Int,xs = [.int j] ∧ ∀ l,H l = none → Q (.ref l) (upd H l (.rng 0 j))):=by
 intro pins s σ H xs us Q I r h
 obtain ⟨j,rfl,q⟩:=h
 obtain ⟨u,rfl,t,rfl⟩:=vals1 r
 refine call_range_1 ?_
 exact ⟨.ref s.heap.objs.size,_,I.laid (o:=.rng 0 j) (fun b o e => Heap.get?_push_of_some _ e) (Nat.le_refl _) ⟨_,_,_,Heap.get?_push_size _ rfl⟩,rfl,q _ I.fresh⟩
def zaa (lo : Int) (n : Nat) : List Int:=(List.range n).map fun (i : Nat) => lo + (i : Int)
theorem zaU (lo : Int) (n : Nat) : (zaa lo n).length = n:=by simp [zaa]
theorem zcK {acc : Array Value} {lo : Int} {n : Nat} (h : ItemsOf (fun i v => ∃ t,v = .int (lo + (i : Nat) * 1) t) acc n) : zx ((zaa lo n).map V.int) acc.toList:=by
 obtain ⟨hsz,hv⟩:=h
 have go : ∀ (us : List Value) (k : Nat),(∀ (j : Nat) v,us[j]? = some v → ∃ t,v = .int (lo + ((k + j : Nat) : Int)) t) → zx (((List.range us.length).map fun (i : Nat) => V.int (lo + ((k + i : Nat) : Int)))) us:=by
  intro us
  induction us with
  | nil => intro k _; exact .nil
  | cons u us ih =>
   intro k hu
   rw [List.length_cons,List.range_succ_eq_map,List.map_cons,List.map_map]
   refine .cons ?_ ?_
   ·obtain ⟨t,e⟩:=hu 0 u rfl
    exact ⟨t,e⟩
   ·have:=ih (k + 1) fun j v e => by
     obtain ⟨t,z⟩:=hu (j + 1) v (by simpa using e)
     exact ⟨t,by rw [z]; congr 1; omega⟩
    have e2 : (fun (i : Nat) => V.int (lo + ((k + 1 + i : Nat) : Int))) = ((fun (i : Nat) => V.int (lo + ((k + i : Nat) : Int))) ∘ Nat.succ):=by
     funext i
     show V.int _ = V.int _
     congr 2
     show ((k + 1 + i : Nat) : Int) = ((k + (i + 1) : Nat) : Int)
     omega
    rw [← e2]
    exact this
 have h1:=go acc.toList 0 fun j v e => by
  obtain ⟨t,z⟩:=hv j v (by simpa using e)
  exact ⟨t,by rw [z]; simp⟩
 have e1 : acc.toList.length = n:=by simpa using hsz
 rw [e1] at h1
 unfold zaa
 rw [List.map_map]
 have e2 : (V.int ∘ fun (i : Nat) => lo + (i : Int)) = fun (i : Nat) => V.int (lo + ((0 + i : Nat) : Int)):=by
  funext i
  show V.int (lo + (i : Int)) = V.int (lo + ((0 + i : Nat) : Int))
  rw [Nat.zero_add]
 rw [e2]
 exact h1
theorem zbA {X : Cx} (hc : X.calm = true) : zb4 X (.type "list") (fun xs H Q => ∃ p hi,xs = [.ref p] ∧ H p = some (.rng 0 hi) ∧ 0 ≤ hi ∧ hi ≤ 1000 ∧ ∀ l,H l = none → Q (.ref l) (upd H l (.lst ((zaa 0 hi.toNat).map V.int)))):=by
 intro pins s σ H xs us Q I r h
 obtain ⟨p,hi,rfl,hp,h0,h1,q⟩:=h
 obtain ⟨u,rfl,rx⟩:=vals1 r
 cases rx
 obtain ⟨t,u',v,e⟩:=(show zaD X.prog X.w H s.heap p (.rng 0 hi) from I.hok p _ hp)
 have hsl:=sizeLine_eq
 refine call_list_range (n:=hi.toNat) (I.ok.hd hc) (show IsRange s.heap p 0 hi 1 t u' v from e) (small_one (by omega) (by omega) (by omega) (by omega)) (by rw [rangeSize_one]; split <;> omega) (by omega) fun h' tk acc' c' kk ho hacc => ?_
 have hv:=zcK (lo:=0) (n:=hi.toNat) hacc
 refine ⟨.ref s.heap.objs.size,_,I.laid kk (Nat.le_refl _) ?_,rfl,q _ I.fresh⟩
 exact ⟨by rw [List.length_map,zaU]; omega,acc'.toList,c',hv,by simpa using ho⟩
end L2
namespace L2
open PySem PySem.Spec PyProof.Rows
def ziX (K : PySem.W.Frag) (tl : TE) : TI:=fun σ H R => tl σ H fun x H1 => ∃ a,x = .ref a ∧ (((∃ xs,SqL K H1 a xs) ∧ R (Itl K a) H1) ∨ ((∃ xs,SqT K H1 a xs) ∧ R (Itt K a) H1))
theorem zhL {X : Cx} {tg l : Expr} {tl : TE} (hl : PE X l tl) : PI X tg l (ziX X.K tl):=by
 intro pins s σ H R I h
 refine thn (hl pins s σ H _ I h) fun v s1 ⟨x,H1,I1,r1,q1⟩ => ?_
 obtain ⟨a,e,q⟩:=q1
 subst e
 cases r1
 rcases q with ⟨⟨xs,hq⟩,q⟩ | ⟨⟨xs,hq⟩,q⟩
 ·obtain ⟨its,rv,p,hz⟩:=I1.list hq
  refine wpAny_pyIter_list p.isList ?_
  refine ⟨s1.heap.objs.size,[s1.heap.objs.size],_,_,H1,rfl,I1.kept (t':=s1.toks) fun b o e => Heap.get?_push_of_some _ e,zcR a _,⟨_,Heap.get?_push_size _ rfl,rfl,rfl⟩,fun b hb => ?_,q⟩
  have e : b = s1.heap.objs.size:=by simpa using hb
  subst e
  exact I1.fpOk (Nat.le_refl _) (I1.hok.fresh (Nat.le_refl _))
 ·obtain ⟨its,rv,p,hz⟩:=I1.tuple hq
  refine wpAny_pyIter_tuple (show s1.heap.IsTuple a its.toArray from p) ?_
  refine ⟨s1.heap.objs.size,[s1.heap.objs.size],_,_,H1,rfl,I1.kept (t':=s1.toks) fun b o e => Heap.get?_push_of_some _ e,zck a _,⟨_,Heap.get?_push_size _ rfl,rfl,rfl⟩,fun b hb => ?_,q⟩
  have e : b = s1.heap.objs.size:=by simpa using hb
  subst e
  exact I1.fpOk (Nat.le_refl _) (I1.hok.fresh (Nat.le_refl _))
end L2
namespace L2
open PySem PySem.Spec PyProof.Rows
def intsOf : List Expr → Option (List Int)
 | [] => some []
 | .Constant (.int i) _ _ :: r => (intsOf r).map (i :: ·)
 | _ => none
def zc4 (ns : List Int) : TA:=fun _ H Q => Q (ns.map V.int) H
theorem zfS {X : Cx} : ∀ (es : List Expr) (ns : List Int),intsOf es = some ns → PA X es (zc4 ns):=by
 intro es
 induction es with
 | nil =>
  intro ns h
  have e : ns = []:=(Option.some.inj h).symm
  subst e
  exact zf
 | cons e r ih =>
  intro ns h
  unfold intsOf at h
  split at h
  ·rename_i heq
   cases heq
  ·rename_i i j p r' heq
   injection heq with e1 e2
   subst e1 e2
   cases hr : intsOf r with
   | none => rw [hr] at h; cases h
   | some ms =>
    rw [hr] at h
    have e : i :: ms = ns:=Option.some.inj h
    subst e
    exact za zg (ih ms hr)
  ·cases h
theorem zgN {X : Cx} {es : List Expr} {ns : List Int} (h : intsOf es = some ns) : PA X es (zc4 ns):=zfS es ns h
end L2
namespace L2
open PySem PySem.Spec PyProof.Rows
theorem zdM {X : Cx} {i : Int} {j : Nat} {p : Pos} {es : List Expr} {t : TA} (hr : PA X es t) : PA X (.Constant (.int i) j p :: es) (zhd (tC (.int i)) t):=za zg hr
end L2
namespace L2
open PySem PySem.Spec PyProof.Rows
theorem zfT {X : Cx} {i : Nat} {x : Str} {pos' pos2 spos : Pos} {rest : List Stmt} {u : TS} {es : List Expr} {ns : List Int} (h : intsOf es = some ns) (hN : X.N.Nodup) (hi : X.N[i]? = some x) (hx : Loc X.env.scope x)
  (hf : X.fn x = true ∨ X.env.scope.names.lookup x = some .local) (hr : PSs X rest u) : PSs X (.Assign [.Name x pos'] (.List es pos2) spos :: rest) (zic (zfx (zgI (zc4 ns)) (zbd i)) u):=by
 have h1 : PE X (.List es pos2) (zgI (zc4 ns)):=@zav X es (zc4 ns) pos2 (@zgN X es ns h)
 have h2 : PS X (.Assign [.Name x pos'] (.List es pos2) spos) (zfx (zgI (zc4 ns)) (zbd i)):=zo hN hi hx h1 (by rfl) hf
 exact zc h2 hr
end L2
namespace L2
open PySem PySem.Spec PyProof.Rows
section
variable {X : Cx} {K : PySem.W.Frag}
theorem zaL (hK : X.K = K) : IxR X (ziv K):=by subst hK; exact zD
def zix (K : PySem.W.Frag) : List V → Hp → VK → Prop:=fun xs H Q => ∃ p ys,xs = [.ref p] ∧ (SqL K H p ys ∨ SqT K H p ys) ∧ Q (.int ys.length) H
theorem zbB (hK : X.K = K) : zb4 X (.builtin "len") (zix K):=by subst hK; exact zz
theorem zbJ {es : List Expr} {k : Nat} {t : TGs} {n : Nat} {pos : Pos} (hK : X.K = K) (hc : X.calm = true) (h : PGs X es t)
  (hn : (assignEach es X.env).length = n:=by rfl) (hst : (assignEach es X.env).findIdx? (·.1) = none:=by rfl) : PG X (.Tuple es k pos) (zgE K n t):=by subst hK; exact zas hc h hn hst
theorem zfU {o e : Expr} {es : List Expr} {to : TE} {t : TA} {name : Str} {apos cpos : Pos} {T id : String} {r : V → List V → Hp → VK → Prop} (hK : X.K = K) (pa : PlainAttrs T) (slot : Slot T name id) (hty : typeOf (.builtin id) = pure (.type "method_descriptor")) (hm : MtR X id r) (ho : PE X o to) (ha : PA X (e :: es) t)
  (hbase : attributeBase o name X.env (eval o X.env) = eval o X.env:=by rfl)
  (hfew : ((backTo cpos (starEach (e :: es) X.env)).all (fun x => !x.1) && (backToKw cpos (keywordEach [] X.env)).all (fun x => x.1.isSome)
   && decide ((e :: es).length + ([] : List Keyword).length + (if ([] : List Keyword).isEmpty then 0 else 1) < 30)) = true:=by rfl)
  (hline : (apos.endLine == cpos.line) = true:=by rfl) (hs : starEach (e :: es) X.env = (false,eval e X.env) :: starEach es X.env:=by rfl) (hplain : (backTo cpos (starEach es X.env)).any (·.1) = false:=by rfl) :
  PE X (.Call (.Attribute o name apos) (e :: es) [] cpos) (tBM K T r to t):=by subst hK; exact zcZ pa slot hty hm ho ha hbase hfew hline hs hplain
end
end L2
namespace L2
end L2
end
section
namespace My
def Cg (p a b : Int) : Prop:=∃ k,a = b + p * k
theorem Cg.refl (p a : Int) : Cg p a a:=⟨0,by grind⟩
theorem Cg.symm {p a b : Int} (h : Cg p a b) : Cg p b a:=by obtain ⟨k,e⟩:=h; exact ⟨-k,by grind⟩
theorem Cg.trans {p a b c : Int} (h : Cg p a b) (h' : Cg p b c) : Cg p a c:=by
 obtain ⟨k,e⟩:=h; obtain ⟨l,e'⟩:=h'; exact ⟨k + l,by grind⟩
theorem Cg.add {p a b c d : Int} (h : Cg p a b) (h' : Cg p c d) : Cg p (a + c) (b + d):=by
 obtain ⟨k,e⟩:=h; obtain ⟨l,e'⟩:=h'; exact ⟨k + l,by grind⟩
theorem Cg.sub {p a b c d : Int} (h : Cg p a b) (h' : Cg p c d) : Cg p (a - c) (b - d):=by
 obtain ⟨k,e⟩:=h; obtain ⟨l,e'⟩:=h'; exact ⟨k - l,by grind⟩
theorem Cg.mul {p a b c d : Int} (h : Cg p a b) (h' : Cg p c d) : Cg p (a * c) (b * d):=by
 obtain ⟨k,e⟩:=h; obtain ⟨l,e'⟩:=h'
 exact ⟨k * d + b * l + p * k * l,by subst e e'; grind⟩
theorem Cg.of_eq {p a b : Int} (h : a = b) : Cg p a b:=h ▸ Cg.refl p a
theorem Cg.emod (p a : Int) : Cg p (a % p) a:=⟨-(a / p),by have:=Int.emod_add_mul_ediv a p; grind⟩
theorem Cg.mod_eq {p a b : Int} (h : Cg p a b) : a % p = b % p:=by
 obtain ⟨k,e⟩:=h; rw [e,Int.add_mul_emod_self_left]
theorem Cg.of_mod {p a b : Int} (h : a % p = b % p) : Cg p a b:=(Cg.emod p a).symm.trans (h ▸ Cg.emod p b)
theorem Cg.eq {p a b : Int} (h : Cg p a b) (ha : 0 ≤ a) (ha' : a < p) (hb : 0 ≤ b) (hb' : b < p) : a = b:=by
 have:=h.mod_eq
 rwa [Int.emod_eq_of_lt ha ha',Int.emod_eq_of_lt hb hb'] at this
def ze (p x : Int) : List Int → Int
 | [] => 0
 | c :: r => (c + x * ze p x r) % p
theorem zM {p x : Int} (hp : 0 < p) : ∀ l,0 ≤ ze p x l
 | [] => Int.le_refl 0
 | _ :: _ => Int.emod_nonneg _ (by omega)
theorem zN {p x : Int} (hp : 0 < p) : ∀ l,ze p x l < p
 | [] => hp
 | _ :: _ => Int.emod_lt_of_pos _ hp
theorem zw (p x c : Int) (r : List Int) : Cg p (ze p x (c :: r)) (c + x * ze p x r):=Cg.emod _ _
theorem zef {p x : Int} (m : Nat) : ze p x (List.replicate m 0) = 0:=by
 induction m with
 | zero => rfl
 | succ m ih => rw [List.replicate_succ]; show (0 + x * ze p x (List.replicate m 0)) % p = 0; rw [ih]; simp
theorem zdN {p x : Int} (m : Nat) : ∀ l,ze p x (l ++ List.replicate m 0) = ze p x l
 | [] => zef m
 | c :: r => by show (c + x * ze p x (r ++ List.replicate m 0)) % p = (c + x * ze p x r) % p; rw [zdN m r]
def lv (p x : Int) : Int → Int → List Int → Int
 | total,_,[] => total
 | total,power,c :: r => lv p x ((total + c * power) % p) (power * x % p) r
theorem zhf {p x : Int} : ∀ (l : List Int) (total power : Int),Cg p (lv p x total power l) (total + power * ze p x l)
 | [],total,power => Cg.of_eq (by show total = total + power * 0; grind)
 | c :: r,total,power => by
  have h1:=zhf (p:=p) (x:=x) r ((total + c * power) % p) (power * x % p)
  refine h1.trans ?_
  have h2 : Cg p ((total + c * power) % p + power * x % p * ze p x r) (total + c * power + power * x * ze p x r):=(Cg.emod p _).add ((Cg.emod p (power * x)).mul (Cg.refl p _))
  refine h2.trans ?_
  have h3 : Cg p (total + power * (c + x * ze p x r)) (total + power * ze p x (c :: r)):=(Cg.refl p _).add ((Cg.refl p _).mul (zw p x c r).symm)
  refine (Cg.of_eq ?_).trans h3
  grind
theorem zfV {p x : Int} (hp : 0 < p) : ∀ (l : List Int) (total power : Int),0 ≤ total → total < p → 0 ≤ lv p x total power l ∧ lv p x total power l < p
 | [],total,power,h1,h2 => ⟨h1,h2⟩
 | c :: r,total,power,h1,h2 => zfV hp r _ _ (Int.emod_nonneg _ (by omega)) (Int.emod_lt_of_pos _ hp)
theorem zeF {p x : Int} (hp : 0 < p) (l : List Int) : lv p x 0 1 l = ze p x l:=by
 obtain ⟨a,b⟩:=zfV (x:=x) hp l 0 1 (Int.le_refl _) hp
 exact ((zhf l 0 1).trans (Cg.of_eq (by grind))).eq a b (zM hp l) (zN hp l)
def zl : List Int:=[5,7,11,13,17,19,23,29,31,37,41,43,47,53,59,61,67,71,73,79,83,89,97]
def zbr (p : Int) : Nat → Int → Int → Int → Int
 | 0,prod,_,_ => prod
 | n + 1,prod,sq,left => if 0 < left then zbr p n (if left % 2 = 1 then prod * sq % p else prod) (sq * sq % p) (left / 2) else prod
def inv (p h : Int) : Int:=zbr p 7 1 (h % p) (p - 2)
def ziY : Bool:=zl.all fun p => (List.range p.toNat).all fun h => h == 0 || (inv p h * h) % p == 1
theorem zfe : ziY = true:=by decide +kernel
theorem zk {p : Int} (hp : p ∈ zl) : 5 ≤ p ∧ p ≤ 97:=by
 have : zl.all (fun p => decide (5 ≤ p ∧ p ≤ 97)) = true:=by decide +kernel
 have:=List.all_eq_true.mp this p hp
 simpa using this
theorem zdr {p h : Int} (hp : p ∈ zl) (h0 : 0 < h) (h1 : h < p) : Cg p (inv p h * h) 1:=by
 have e:=List.all_eq_true.mp (List.all_eq_true.mp zfe p hp) h.toNat (List.mem_range.mpr (by omega))
 have hh : ((h.toNat : Nat) : Int) = h:=by omega
 have : h.toNat ≠ 0:=by omega
 simp only [Bool.or_eq_true,beq_iff_eq,hh,this,false_or] at e
 have hr:=zk hp
 exact Cg.of_mod (by rw [e,Int.emod_eq_of_lt (by omega) (by omega)])
theorem zbi {p a b : Int} (hp : p ∈ zl) (h : Cg p (a * b) 0) : Cg p a 0 ∨ Cg p b 0:=by
 have hr:=zk hp
 by_cases ha : a % p = 0
 ·exact .inl (Cg.of_mod (by rw [ha]; simp))
 ·right
  have h0 : 0 < a % p:=by have:=Int.emod_nonneg a (show p ≠ 0 by omega); omega
  have hi:=zdr hp h0 (Int.emod_lt_of_pos a (by omega))
  have h1 : Cg p (inv p (a % p) * (a * b)) 0:=((Cg.refl p _).mul h).trans (Cg.of_eq (by grind))
  have h2 : Cg p (inv p (a % p) * (a % p) * b) (1 * b):=hi.mul (Cg.refl p b)
  have h3 : Cg p (inv p (a % p) * (a * b)) (inv p (a % p) * (a % p) * b):=by
   have:=((Cg.refl p (inv p (a % p))).mul (Cg.emod p a).symm).mul (Cg.refl p b)
   exact (Cg.of_eq (by grind)).trans this
  exact ((Cg.of_eq (by grind)).trans (h2.symm.trans (h3.symm.trans h1)))
def trF (p r : Int) (high low : Int) : Int:=(high - r * low) % p
def zbj (p r : Int) (v : List Int) : List Int:=List.zipWith (trF p r) (0 :: v) (v ++ [0])
theorem zhg {p r z : Int} : ∀ (v : List Int) (h : Int),Cg p (ze p z (List.zipWith (trF p r) (h :: v) (v ++ [0]))) (h + (z - r) * ze p z v)
 | [],h => by
  show Cg p ((trF p r h 0 + z * 0) % p) (h + (z - r) * 0)
  refine (Cg.emod p _).trans ?_
  have : Cg p (trF p r h 0) (h - r * 0):=Cg.emod p _
  exact (this.add (Cg.refl p (z * 0))).trans (Cg.of_eq (by grind))
 | c :: w,h => by
  show Cg p ((trF p r h c + z * ze p z (List.zipWith (trF p r) (c :: w) (w ++ [0]))) % p) (h + (z - r) * ze p z (c :: w))
  have ih:=zhg (p:=p) (r:=r) (z:=z) w c
  have h1 : Cg p (trF p r h c) (h - r * c):=Cg.emod p _
  refine (Cg.emod p _).trans ((h1.add ((Cg.refl p z).mul ih)).trans ?_)
  have h2 : Cg p (h + (z - r) * (c + z * ze p z w)) (h + (z - r) * ze p z (c :: w)):=(Cg.refl p h).add ((Cg.refl p _).mul (zw p z c w).symm)
  exact (Cg.of_eq (by grind)).trans h2
theorem zeG {p r z : Int} (v : List Int) : Cg p (ze p z (zbj p r v)) ((z - r) * ze p z v):=(zhg v 0).trans (Cg.of_eq (by grind))
theorem zbS (p r : Int) (v : List Int) : (zbj p r v).length = v.length + 1:=by simp [zbj]
theorem zcr {α β γ : Type} {f : α → β → γ} : ∀ {as : List α} {bs : List β} {c : γ},c ∈ List.zipWith f as bs → ∃ a b,c = f a b
 | [],_,c,h => by simp at h
 | _ :: _,[],c,h => by simp at h
 | a :: as,b :: bs,c,h => by
  rcases List.mem_cons.mp h with e | e
  ·exact ⟨a,b,e⟩
  ·exact zcr e
theorem zfW {p r : Int} (hp : 0 < p) (v : List Int) : ∀ c ∈ zbj p r v,0 ≤ c ∧ c < p:=by
 intro c hc
 obtain ⟨a,b,e⟩:=zcr hc
 rw [e]; exact ⟨Int.emod_nonneg _ (by omega),Int.emod_lt_of_pos _ hp⟩
def ad (p f : Int) : List Int → List Int → List Int
 | c :: cs,v :: vs => (c + f * v) % p :: ad p f cs vs
 | cs,[] => cs
 | [],_ :: _ => []
theorem zc5 (p f : Int) : ∀ (cs vs : List Int),(ad p f cs vs).length = cs.length
 | _ :: cs,_ :: vs => by show (ad p f cs vs).length + 1 = _; rw [zc5 p f cs vs]; rfl
 | [],[] => rfl
 | _ :: _,[] => rfl
 | [],_ :: _ => rfl
theorem zfX {p f : Int} (hp : 0 < p) : ∀ (cs vs : List Int),(∀ c ∈ cs,0 ≤ c ∧ c < p) → ∀ c ∈ ad p f cs vs,0 ≤ c ∧ c < p
 | c :: cs,v :: vs,h,d,hd => by
  rcases List.mem_cons.mp hd with e | e
  ·rw [e]; exact ⟨Int.emod_nonneg _ (by omega),Int.emod_lt_of_pos _ hp⟩
  ·exact zfX hp cs vs (fun c hc => h c (List.mem_cons_of_mem _ hc)) d e
 | [],[],h,d,hd => h d hd
 | _ :: _,[],h,d,hd => h d hd
 | [],_ :: _,h,d,hd => by cases hd
theorem zeH {p f z : Int} : ∀ (cs vs : List Int),vs.length ≤ cs.length → Cg p (ze p z (ad p f cs vs)) (ze p z cs + f * ze p z vs)
 | c :: cs,v :: vs,h => by
  have ih:=zeH (p:=p) (f:=f) (z:=z) cs vs (by simpa using h)
  show Cg p (((c + f * v) % p + z * ze p z (ad p f cs vs)) % p) (ze p z (c :: cs) + f * ze p z (v :: vs))
  refine (Cg.emod p _).trans (((Cg.emod p (c + f * v)).add ((Cg.refl p z).mul ih)).trans ?_)
  have h2 : Cg p ((c + z * ze p z cs) + f * (v + z * ze p z vs)) (ze p z (c :: cs) + f * ze p z (v :: vs)):=(zw p z c cs).symm.add ((Cg.refl p f).mul (zw p z v vs).symm)
  exact (Cg.of_eq (by grind)).trans h2
 | [],[],_ => Cg.of_eq (by show (0 : Int) = 0 + f * 0; grind)
 | c :: cs,[],_ => Cg.of_eq (by show ze p z (c :: cs) = ze p z (c :: cs) + f * 0; grind)
 | [],_ :: _,h => by simp at h
def zbk (p : Int) (s : List Int × List Int) (q : Int × Int) : List Int × List Int :=
 (ad p ((q.2 - ze p q.1 s.1) * inv p (ze p q.1 s.2) % p) s.1 s.2,zbj p q.1 s.2)
def ziy (p : Int) (n : Nat) (pts : List (Int × Int)) : List Int × List Int:=pts.foldl (zbk p) (List.replicate n 0,[1])
def thr (p : Int) (pts : List (Int × Int)) : List Int:=(ziy p pts.length pts).1
def zbl (z : Int) : List (Int × Int) → Int
 | [] => 1
 | q :: r => (z - q.1) * zbl z r
theorem zcs (z : Int) (q : Int × Int) : ∀ l,zbl z (l ++ [q]) = zbl z l * (z - q.1)
 | [] => by show (z - q.1) * 1 = 1 * (z - q.1); grind
 | a :: l => by show (z - a.1) * zbl z (l ++ [q]) = (z - a.1) * zbl z l * (z - q.1); rw [zcs z q l]; grind
theorem zct {z : Int} : ∀ {l : List (Int × Int)},(∃ q ∈ l,q.1 = z) → zbl z l = 0
 | [],h => by obtain ⟨q,hq,_⟩:=h; cases hq
 | a :: l,h => by
  show (z - a.1) * zbl z l = 0
  obtain ⟨q,hq,e⟩:=h
  rcases List.mem_cons.mp hq with hq | hq
  ·subst hq; rw [e]; simp
  ·rw [zct ⟨q,hq,e⟩]; simp
theorem zdO {p z : Int} (hp : p ∈ zl) (hz : 0 ≤ z) (hz' : z < p) : ∀ {l : List (Int × Int)},(∀ q ∈ l,0 ≤ q.1 ∧ q.1 < p ∧ q.1 ≠ z) → ¬ Cg p (zbl z l) 0
 | [],_,h => by
  have hr:=zk hp
  have:=h.mod_eq
  have e1 : (zbl z [] : Int) = 1:=rfl
  rw [e1,Int.emod_eq_of_lt (by omega) (by omega)] at this
  simp at this
 | a :: l,hl,h => by
  rcases zbi hp (show Cg p ((z - a.1) * zbl z l) 0 from h) with h | h
  ·obtain ⟨h1,h2,h3⟩:=hl a List.mem_cons_self
   have : Cg p z a.1:=by
    have:=h.add (Cg.refl p a.1)
    exact (Cg.of_eq (by grind)).trans (this.trans (Cg.of_eq (by grind)))
   exact h3 (this.eq hz hz' h1 h2).symm
  ·exact zdO hp hz hz' (fun q hq => hl q (List.mem_cons_of_mem _ hq)) h
structure Nw (p : Int) (n : Nat) (done : List (Int × Int)) (s : List Int × List Int) : Prop where
 lc : s.1.length = n
 lv : s.2.length = done.length + 1
 rc : ∀ c ∈ s.1,0 ≤ c ∧ c < p
 rv : ∀ c ∈ s.2,0 ≤ c ∧ c < p
 van : ∀ z,Cg p (ze p z s.2) (zbl z done)
 hit : ∀ q ∈ done,ze p q.1 s.1 = q.2
theorem zdP {p : Int} (hp : p ∈ zl) (n : Nat) : Nw p n [] (List.replicate n 0,[1]):=by
 have hr:=zk hp
 refine ⟨by simp,rfl,fun c hc => ?_,fun c hc => ?_,fun z => ?_,fun q hq => by cases hq⟩
 ·obtain ⟨_,e⟩:=List.mem_replicate.mp hc
  omega
 ·have : c = 1:=by simpa using hc
  omega
 ·show Cg p ((1 + z * 0) % p) 1
  exact (Cg.emod p _).trans (Cg.of_eq (by grind))
theorem zeI {p : Int} {n : Nat} {done : List (Int × Int)} {s : List Int × List Int} (hp : p ∈ zl) (h : Nw p n done s) {q : Int × Int} (q0 : 0 ≤ q.1) (q1 : q.1 < p) (hd : ∀ a ∈ done,0 ≤ a.1 ∧ a.1 < p ∧ a.1 ≠ q.1) :
  0 < ze p q.1 s.2 ∧ ze p q.1 s.2 < p:=by
 have hr:=zk hp
 refine ⟨?_,zN (by omega) _⟩
 have h0:=zM (x:=q.1) (show 0 < p by omega) s.2
 by_cases e : ze p q.1 s.2 = 0
 ·exact absurd ((h.van q.1).symm.trans (Cg.of_eq e)) (zdO hp q0 q1 hd)
 ·omega
theorem zff {p : Int} {n : Nat} {done : List (Int × Int)} {s : List Int × List Int} (hp : p ∈ zl) (h : Nw p n done s) {q : Int × Int} (q0 : 0 ≤ q.1) (q1 : q.1 < p) (hd : ∀ a ∈ done,0 ≤ a.1 ∧ a.1 < p ∧ a.1 ≠ q.1) :
  Cg p ((q.2 - ze p q.1 s.1) * inv p (ze p q.1 s.2) % p * ze p q.1 s.2) (q.2 - ze p q.1 s.1):=by
 obtain ⟨h0,h1⟩:=zeI hp h q0 q1 hd
 have hi:=zdr hp h0 h1
 refine ((Cg.emod p _).mul (Cg.refl p _)).trans ?_
 have:=(Cg.refl p (q.2 - ze p q.1 s.1)).mul hi
 exact (Cg.of_eq (by grind)).trans (this.trans (Cg.of_eq (by grind)))
theorem zeJ {p : Int} {n : Nat} {done : List (Int × Int)} {s : List Int × List Int} (hp : p ∈ zl) (h : Nw p n done s) {q : Int × Int} (hn : done.length < n) (q0 : 0 ≤ q.1) (q1 : q.1 < p) (q2 : 0 ≤ q.2) (q3 : q.2 < p)
  (hd : ∀ a ∈ done,0 ≤ a.1 ∧ a.1 < p ∧ a.1 ≠ q.1 ∧ 0 ≤ a.2 ∧ a.2 < p) : Nw p n (done ++ [q]) (zbk p s q):=by
 have hr:=zk hp
 have hd' : ∀ a ∈ done,0 ≤ a.1 ∧ a.1 < p ∧ a.1 ≠ q.1:=fun a ha => ⟨(hd a ha).1,(hd a ha).2.1,(hd a ha).2.2.1⟩
 have hlv:=h.lv
 have hlc:=h.lc
 have hle : s.2.length ≤ s.1.length:=by omega
 refine ⟨by show (ad _ _ _ _).length = n; rw [zc5,h.lc],by show (zbj _ _ _).length = _; rw [zbS,h.lv,List.length_append,List.length_singleton],zfX (by omega) _ _ h.rc,zfW (by omega) _,fun z => ?_,fun a ha => ?_⟩
 ·rw [zcs]
  exact (zeG s.2).trans (((Cg.refl p _).mul (h.van z)).trans (Cg.of_eq (by grind)))
 ·have hv:=zeH (p:=p) (f:=(q.2 - ze p q.1 s.1) * inv p (ze p q.1 s.2) % p) (z:=a.1) s.1 s.2 hle; rcases List.mem_append.mp ha with ha | ha
  ·obtain ⟨b0,b1,b2,b3,b4⟩:=hd a ha
   have hz : Cg p (ze p a.1 s.2) 0:=(h.van a.1).trans (Cg.of_eq (zct ⟨a,ha,rfl⟩))
   have h2 : Cg p (ze p a.1 (ad p ((q.2 - ze p q.1 s.1) * inv p (ze p q.1 s.2) % p) s.1 s.2)) (ze p a.1 s.1):=hv.trans (((Cg.refl p (ze p a.1 s.1)).add ((Cg.refl p _).mul hz)).trans (Cg.of_eq (by rw [Int.mul_zero,Int.add_zero])))
   rw [h.hit a ha] at h2
   exact h2.eq (zM (by omega) _) (zN (by omega) _) b3 b4
  ·have e : a = q:=by simpa using ha
   subst e
   have h2 : Cg p (ze p a.1 (ad p ((a.2 - ze p a.1 s.1) * inv p (ze p a.1 s.2) % p) s.1 s.2)) a.2:=hv.trans (((Cg.refl p (ze p a.1 s.1)).add (zff hp h q0 q1 hd')).trans (Cg.of_eq (by omega)))
   exact h2.eq (zM (by omega) _) (zN (by omega) _) q2 q3
structure Pts (p : Int) (pts : List (Int × Int)) : Prop where
 nd : (pts.map (·.1)).Nodup
 rg : ∀ q ∈ pts,0 ≤ q.1 ∧ q.1 < p ∧ 0 ≤ q.2 ∧ q.2 < p
theorem Pts.apart {p : Int} {done rest : List (Int × Int)} {q : Int × Int} (h : Pts p (done ++ q :: rest)) : ∀ a ∈ done,0 ≤ a.1 ∧ a.1 < p ∧ a.1 ≠ q.1 ∧ 0 ≤ a.2 ∧ a.2 < p:=fun a ha => by
 obtain ⟨r1,r2,r3,r4⟩:=h.rg a (List.mem_append_left _ ha)
 refine ⟨r1,r2,fun e => ?_,r3,r4⟩
 have nd:=h.nd
 rw [List.map_append,List.nodup_append] at nd
 exact nd.2.2 a.1 (List.mem_map.mpr ⟨a,ha,rfl⟩) q.1 (by simp) e
theorem zfY {p : Int} (hp : p ∈ zl) {n : Nat} : ∀ (rest done : List (Int × Int)) (s : List Int × List Int),Pts p (done ++ rest) → (done ++ rest).length = n → Nw p n done s → Nw p n (done ++ rest) (rest.foldl (zbk p) s)
 | [],done,s,_,_,h => by rw [List.append_nil]; exact h
 | q :: rest,done,s,hP,hn,h => by
  have hn' : done.length < n:=by rw [← hn]; simp
  obtain ⟨a,b,c,d⟩:=hP.rg q (by simp)
  have hs:=zeJ hp h (q:=q) hn' a b c d hP.apart
  have e : done ++ q :: rest = (done ++ [q]) ++ rest:=by simp
  rw [e] at hP hn ⊢
  exact zfY hp rest (done ++ [q]) _ hP hn hs
theorem zds {p : Int} (hp : p ∈ zl) {pts : List (Int × Int)} (hP : Pts p pts) : (thr p pts).length = pts.length ∧ (∀ c ∈ thr p pts,0 ≤ c ∧ c < p) ∧ ∀ q ∈ pts,ze p q.1 (thr p pts) = q.2:=by
 have h:=zfY hp (n:=pts.length) pts [] _ (by simpa using hP) (by simp) (zdP hp pts.length)
 exact ⟨h.lc,h.rc,h.hit⟩
end My
end
section
set_option maxHeartbeats 3999000
namespace My
open PySem L2 PyProof.Rows
section
variable {K : PySem.W.Frag}
theorem zfZ {ns : List Int} {k : Int} (h0 : 0 ≤ k) (h1 : k < ns.length) : ∃ c : Int,ns[k.toNat]? = some c ∧ atI (ns.map V.int) k = some (.int c):=by
 have hlt : k.toNat < ns.length:=by omega
 have e : atI (ns.map V.int) ((k.toNat : Nat) : Int) = some (.int ns[k.toNat]):=zal (by simp [List.getElem?_map,List.getElem?_eq_getElem hlt])
 have hk : ((k.toNat : Nat) : Int) = k:=by omega
 rw [hk] at e
 exact ⟨ns[k.toNat],by simp,e⟩
theorem zbK {ns : List Int} {k : Int} (h0 : 0 ≤ k) (h1 : k < ns.length) : ∃ c : Int,atI (ns.map V.int) k = some (.int c):=let ⟨c,_,e⟩:=zfZ h0 h1; ⟨c,e⟩
theorem zd {H : Hp} {a : Addr} {o : HO} (h : H a = none) : zB H (upd H a o):=fun b u e => by rw [zn (zu e h)]; exact e
theorem z6 {H H' : Hp} {a : Addr} {o : HO} (s : zB H H') (h : H a = none) : zB H (upd H' a o):=fun b u e => by rw [zn (zu e h)]; exact s b u e
theorem zab {n : Nat} (h : n ≤ 10000) : n < sizeLine:=by rw [sizeLine_eq]; omega
def zfg (K : PySem.W.Frag) : Sp:=fun vs H Q _ => ∃ (a : Addr) (ns : List Int) (k : Int),vs = [.ref a,.int k] ∧ SqL K H a (ns.map V.int) ∧ ns.length ≤ 63 ∧ 0 ≤ k ∧ k ≤ 1000 ∧ ∀ c : Int,Q (.int c) H
def zeK (many : Nat) (base : Int) (ds : List Int) : Prop:=ds.length = many ∧ ∀ d ∈ ds,0 ≤ d ∧ d < base
def zeg (K : PySem.W.Frag) : Sp:=fun vs H Q _ => ∃ (a : Addr) (ns : List Int) (k many base : Int),vs = [.ref a,.int k,.int many,.int base] ∧ SqL K H a (ns.map V.int) ∧ ns.length ≤ 63 ∧ 0 ≤ k ∧ k ≤ 1000 ∧ 0 ≤ many ∧ many ≤ 1000 ∧ 0 < base ∧ base < 1073741824 ∧
 ∀ (l : Addr) (ds : List Int) (H' : Hp),H l = none → zB H H' → zeK many.toNat base ds → H' l = some (.lst (ds.map V.int)) → Q (.ref l) H'
abbrev zgO : List V:=[.int 2147483647,.int 2147483629,.int 2147483587,.int 2147483579,.int 2147483563,.int 2147483549,.int 2147483543,.int 2147483497]
theorem zgP {m : Int} (h0 : 0 ≤ m) (h1 : m < 8) : ∃ q : Int,atI zgO m = some (.int q) ∧ 0 < q ∧ q < 2147483648:=by
 have : m = 0 ∨ m = 1 ∨ m = 2 ∨ m = 3 ∨ m = 4 ∨ m = 5 ∨ m = 6 ∨ m = 7:=by omega
 rcases this with e | e | e | e | e | e | e | e <;> subst e <;> exact ⟨_,rfl,by decide,by decide⟩
theorem zcu (j : Int) : ∃ q : Int,atI zgO (j % 8) = some (.int q) ∧ 0 < q ∧ q < 2147483648:=zgP (Int.emod_nonneg _ (by decide)) (Int.emod_lt_of_pos _ (by decide))
theorem gY {i : Nat} {x : V} {σ : L2.St} {H : Hp} {A B : L2.St → Hp → Prop} (h : A (σ.set i (some x)) H) : zbd i x σ H (fun σ2 H2 => zhJ σ2 H2 fun b H3 => if b = true then A σ2 H3 else B σ2 H3):=by
 show (if true = true then A (σ.set i (some x)) H else B (σ.set i (some x)) H)
 rw [if_pos rfl]
 exact h
structure CodeOk (mk mn p k : Int) (pl : List Int) : Prop where
 pr : p ∈ zl
 k1 : 1 ≤ k
 kk : k ≤ mk
 kl : k ≤ pl.length
 ln : (pl.length : Int) ≤ mn
 nd : pl.Nodup
 rg : ∀ x ∈ pl,0 ≤ x ∧ x < p
def zfh (K : PySem.W.Frag) : Sp:=fun vs H Q _ => ∃ (a : Addr) (ns : List Int) (at' mk mn : Int),vs = [.ref a,.int at',.int mk,.int mn] ∧ SqL K H a (ns.map V.int) ∧ ns.length ≤ 63 ∧ 0 ≤ at' ∧ at' ≤ 1000 ∧ 1 ≤ mk ∧ mk ≤ 5 ∧ mk ≤ mn ∧ mn ≤ 16 ∧
 ∀ (c tt : Addr) (p k : Int) (pl : List Int) (H' : Hp),H c = none → zB H H' → CodeOk mk mn p k pl → H' c = some (.tup [.int p,.int k,.ref tt]) → H' tt = some (.tup (pl.map V.int)) → Q (.ref c) H'
theorem zhM {x y m : Int} (h0 : 0 ≤ m) (h1 : m < 2) : ∃ z : Int,atI [V.int x,V.int y] m = some (.int z) ∧ (z = x ∨ z = y):=by
 have : m = 0 ∨ m = 1:=by omega
 rcases this with e | e <;> subst e
 ·exact ⟨x,rfl,.inl rfl⟩
 ·exact ⟨y,rfl,.inr rfl⟩
theorem zf0 {ns : List Int} {k : Int} (h0 : 0 ≤ k) (h1 : k < ns.length) : ∃ c : Int,c ∈ ns ∧ atI (ns.map V.int) k = some (.int c):=by
 obtain ⟨c,e,h⟩:=zfZ h0 h1
 exact ⟨c,List.mem_of_getElem? e,h⟩
theorem zbT {α β : Type} (f : α → β) : ∀ (l : List α) (k : Nat),(l.map f).eraseIdx k = (l.eraseIdx k).map f
 | [],_ => rfl
 | _ :: _,0 => rfl
 | a :: l,k + 1 => by show f a :: (l.map f).eraseIdx k = f a :: (l.eraseIdx k).map f; rw [zbT f l k]
theorem zcv {α : Type} : ∀ {l : List α} {k : Nat} {x : α},l[k]? = some x → (x :: l.eraseIdx k).Perm l
 | [],_,_,h => by simp at h
 | a :: l,0,x,h => by
  have e : a = x:=by simpa using h
  subst e
  exact List.Perm.refl _
 | a :: l,k + 1,x,h => by
  have ih:=zcv (l:=l) (k:=k) (x:=x) (by simpa using h)
  exact (List.Perm.swap a x _).trans (ih.cons a)
theorem zeL {p : Int} {xs ls : List Int} {k : Nat} {x : Int} (h : ls[k]? = some x) (nd : (xs ++ ls).Nodup) (rg : ∀ y ∈ xs ++ ls,0 ≤ y ∧ y < p) : ((xs ++ [x]) ++ ls.eraseIdx k).Nodup ∧ ∀ y ∈ (xs ++ [x]) ++ ls.eraseIdx k,0 ≤ y ∧ y < p:=by
 have hp : ((xs ++ [x]) ++ ls.eraseIdx k).Perm (xs ++ ls):=by
  rw [List.append_assoc]
  exact (zcv h).append_left xs
 exact ⟨hp.nodup_iff.mpr nd,fun y hy => rg y (hp.mem_iff.mp hy)⟩
theorem zc6 (p : Int) : (zaa 0 p.toNat).Nodup ∧ ∀ y ∈ zaa 0 p.toNat,0 ≤ y ∧ y < p:=by
 unfold zaa
 constructor
 ·rw [List.nodup_iff_pairwise_ne,List.pairwise_map]
  exact (List.nodup_iff_pairwise_ne.mp (List.nodup_range (n:=p.toNat))).imp fun {a b} hab => by omega
 ·intro y hy
  obtain ⟨i,hi,e⟩:=List.mem_map.mp hy
  have:=List.mem_range.mp hi
  omega
def zb8 (K : PySem.W.Frag) : Sp:=fun vs H Q _ => ∃ (p x : Int) (a : Addr) (cs : List Int),vs = [.int p,.ref a,.int x] ∧ (SqL K H a (cs.map V.int) ∨ SqT K H a (cs.map V.int)) ∧ 0 < p ∧ p ≤ 97 ∧ 0 ≤ x ∧ x < p ∧ Q (.int (ze p x cs)) H
def zeh (K : PySem.W.Frag) : Sp:=zb8 K
theorem zc7 {cs : List Int} {i : Nat} {c : Int} (hi : i < cs.length) (h : cs[cs.length - 1 - i]? = some c) : cs.drop (cs.length - (i + 1)) = c :: cs.drop (cs.length - i):=by
 have e : cs.length - (i + 1) = cs.length - 1 - i:=by omega
 have hlt : cs.length - 1 - i < cs.length:=by omega
 rw [e,List.drop_eq_getElem_cons hlt]
 have : cs[cs.length - 1 - i] = c:=by
  rw [List.getElem?_eq_getElem hlt] at h
  exact Option.some.inj h
 rw [this]
 congr 2
 omega
theorem zT {cs : List Int} {j : Nat} {x : V} (h : (cs.map V.int)[j]? = some x) : ∃ c,x = .int c ∧ cs[j]? = some c:=by
 rw [List.getElem?_map] at h
 cases e : cs[j]? with
 | none => rw [e] at h; cases h
 | some c => rw [e] at h; exact ⟨c,(Option.some.inj h).symm,rfl⟩
theorem zeM {p x total power c : Int} {cs : List Int} {i : Nat} (h : cs[i]? = some c) : lv p x total power (cs.drop i) = lv p x ((total + c * power) % p) (power * x % p) (cs.drop (i + 1)):=by
 obtain ⟨hlt,e⟩:=List.getElem?_eq_some_iff.mp h
 rw [List.drop_eq_getElem_cons hlt,e]
 rfl
def zei (K : PySem.W.Frag) : Sp:=fun vs H Q _ => ∃ (p h : Int),vs = [.int p,.int h] ∧ p ∈ zl ∧ 0 ≤ h ∧ h < p ∧ Q (.int (inv p h)) H
def zhN (σ : L2.St) : Nat:=match (σ[4]? : Option (Option V)) with
 | some (some (V.int l)) => l.toNat
 | _ => 0
theorem zdt {p prod sq left : Int} {n : Nat} (h0 : 0 < left) (h1 : left < 2 ^ (n + 1)) : zbr p (n + 1) prod sq left = zbr p n (if left % 2 = 1 then prod * sq % p else prod) (sq * sq % p) (left / 2):=by
 show (if 0 < left then _ else _) = _
 rw [if_pos h0]
theorem zdQ {p prod sq : Int} : ∀ n,zbr p n prod sq 0 = prod
 | 0 => rfl
 | n + 1 => by show (if (0 : Int) < 0 then _ else prod) = prod; rw [if_neg (by decide)]
theorem gY2 {K : PySem.W.Frag} {i j : Nat} {T : Addr} {x y : V} {σ : L2.St} {H : Hp} {A B : L2.St → Hp → Prop} (hT : SqT K H T [x,y]) (h : A ((σ.set i (some x)).set j (some y)) H) :
  zgE K 2 (zeu (zbd i) (zeu (zbd j) zhv)) (.ref T) σ H (fun σ2 H2 => zhJ σ2 H2 fun b H3 => if b = true then A σ2 H3 else B σ2 H3):=by
 refine ⟨T,_,rfl,hT,rfl,x,_,rfl,y,_,rfl,rfl,?_⟩
 show (if true = true then A ((σ.set i (some x)).set j (some y)) H else B ((σ.set i (some x)).set j (some y)) H)
 rw [if_pos rfl]
 exact h
theorem zdR {f : Int → Int → Int} {as bs : List Int} {i : Nat} {x y : Int} (hx : as[i]? = some x) (hy : bs[i]? = some y) : (List.zipWith f as bs).take (i + 1) = (List.zipWith f as bs).take i ++ [f x y]:=by
 have e : (List.zipWith f as bs)[i]? = some (f x y):=by rw [List.getElem?_zipWith,hx,hy]
 rw [List.take_add_one,e,Option.toList]
def zcL (K : PySem.W.Frag) : Sp:=fun vs H Q _ => ∃ (p r : Int) (a : Addr) (cs : List Int),vs = [.int p,.ref a,.int r] ∧ H a = some (.lst (cs.map V.int)) ∧ cs.length ≤ 1000 ∧ 0 < p ∧ 0 ≤ r ∧ r ≤ 97 ∧
 ∀ (l : Addr) (H' : Hp),H l = none → zB H H' → H' l = some (.lst ((zbj p r cs).map V.int)) → Q (.ref l) H'
def zhh (K : PySem.W.Frag) (H : Hp) (a : Addr) (pts : List (Int × Int)) : Prop:=∃ bs : List Addr,SqL K H a (bs.map V.ref) ∧ bs.length = pts.length ∧ ∀ (i : Nat) (b : Addr) (q : Int × Int),bs[i]? = some b → pts[i]? = some q → H b = some (.tup [.int q.1,.int q.2])
theorem zbL (n : Nat) : (List.replicate n [V.int 0]).flatten = (List.replicate n (0 : Int)).map V.int:=by
 induction n with
 | zero => rfl
 | succ n ih => rw [List.replicate_succ,List.flatten_cons,ih,List.replicate_succ]; rfl
theorem zeN {n j : Nat} (h : j < n) : ixN n (j : Int) = some j:=by
 unfold ixN
 rw [if_pos (by omega),if_pos (by omega)]
 rfl
theorem zaG {bs : List Addr} {i : Nat} {x : V} (h : (bs.map V.ref)[i]? = some x) : ∃ b,x = .ref b ∧ bs[i]? = some b:=by
 rw [List.getElem?_map] at h
 cases e : bs[i]? with
 | none => rw [e] at h; cases h
 | some b => rw [e] at h; exact ⟨b,(Option.some.inj h).symm,rfl⟩
theorem take_snoc {α : Type} {l : List α} {i : Nat} {x : α} (h : l[i]? = some x) : l.take (i + 1) = l.take i ++ [x]:=by
 rw [List.take_add_one,h,Option.toList]
theorem zcw {α : Type} {l : List α} {i : Nat} {x : α} (h : l[i]? = some x) : l = l.take i ++ x :: l.drop (i + 1):=by
 obtain ⟨hi,e⟩:=List.getElem?_eq_some_iff.mp h; have:=List.take_append_drop i l
 rw [List.drop_eq_getElem_cons hi,e] at this
 exact this.symm
theorem zf1 {f : Int → Int → Int} {as bs : List Int} {n : Nat} (h1 : n ≤ as.length) (h2 : n ≤ bs.length) (h3 : as.length ≤ n ∨ bs.length ≤ n) : (List.zipWith f as bs).length = n:=by
 rw [List.length_zipWith]
 omega
theorem zc8 {a b : Addr} {as bs : List Int} {n : Nat} {f : Int → Int → Int} {g : TG} {ts : TT} {te : TE} {σ0 : L2.St} {Q : VK} {H : Hp} (ha : H a = some (.lst (as.map V.int))) (hb : H b = some (.lst (bs.map V.int))) (h1 : n ≤ as.length) (h2 : n ≤ bs.length) (h3 : as.length ≤ n ∨ bs.length ≤ n) (hn : n ≤ 10000)
  (hs : ∀ (i : Nat) (x y : Int) (H1 : Hp) (T : Addr) (R : VK) (B : L2.St → Hp → Prop),as[i]? = some x → bs[i]? = some y → zB H H1 → H1 T = none → R (.int (f x y)) (upd H1 T (.tup [.int x,.int y])) → g (.ref T) σ0 (upd H1 T (.tup [.int x,.int y])) fun σ2 H2 => ts σ2 H2 fun b H3 => if b = true then te σ2 H3 R else B σ2 H3)
  (hd : ∀ D H1,zB H H1 → H1 D = none → Q (.ref D) (upd H1 D (.lst ((List.zipWith f as bs).map V.int)))) : cGo g ts te σ0 (zfa (SqL K) (SqL K) a b) Q H:=by
 have hl:=zf1 (f:=f) h1 h2 h3
 refine zY (n:=n) (fun i ys H' => ys = ((List.zipWith f as bs).take i).map V.int ∧ zB H H') ⟨by simp,fun _ _ e => e⟩ ?_ ?_ ?_ ?_
 ·rintro i ys H3 hi ⟨_,s3⟩
  obtain ⟨x,hx⟩ : ∃ x,as[i]? = some x:=⟨as[i]'(by omega),by simp⟩
  obtain ⟨y,hy⟩ : ∃ y,bs[i]? = some y:=⟨bs[i]'(by omega),by simp⟩
  exact ⟨_,_,.int x,.int y,SqL.of (s3 _ _ ha),SqL.of (s3 _ _ hb),by rw [List.getElem?_map,hx]; rfl,by rw [List.getElem?_map,hy]; rfl⟩
 ·rintro ys H3 ⟨_,s3⟩
  exact ⟨_,_,SqL.of (s3 _ _ ha),SqL.of (s3 _ _ hb),by rw [List.length_map,List.length_map]; exact h3⟩
 ·rintro i x ys H3 H4 hi ⟨rfl,s3⟩ ⟨T,u,v,hT,rfl,rfl,hu,hv⟩
  obtain ⟨x,rfl,hx⟩:=zT (hu _ (SqL.of (s3 _ _ ha)))
  obtain ⟨y,rfl,hy⟩:=zT (hv _ (SqL.of (s3 _ _ hb)))
  refine hs i x y H3 T _ _ hx hy s3 hT ⟨zab ?_,?_,s3.trans (zd hT)⟩
  ·rw [List.length_map]
   exact Nat.le_trans (List.length_take_le _ _) (by omega)
  ·rw [zdR hx hy,List.map_append]
   rfl
 ·rintro ys H3 D ⟨rfl,s3⟩ hD
  rw [List.take_of_length_le (by omega)]
  exact hd D H3 s3 hD
theorem zc9 {a : Addr} {xs fs : List V} {g : TG} {ts : TT} {te : TE} {σ0 : L2.St} {Q : VK} {H : Hp} (ha : SqL K H a xs) (hl : fs.length = xs.length) (hn : xs.length ≤ 10000)
  (hs : ∀ (i : Nat) (x y : V) (R : VK) (B : L2.St → Hp → Prop),xs[i]? = some x → fs[i]? = some y → R y H → g x σ0 H fun σ2 H2 => ts σ2 H2 fun b H3 => if b = true then te σ2 H3 R else B σ2 H3)
  (hd : ∀ D,H D = none → Q (.ref D) (upd H D (.lst fs))) : cGo g ts te σ0 (Itl K a) Q H:=by
 refine zY (n:=xs.length) (fun i ys H' => ys = fs.take i ∧ H' = H) ⟨by simp,rfl⟩ ?_ ?_ ?_ ?_
 ·rintro i ys H3 hi ⟨_,rfl⟩
  exact ⟨_,xs[i],ha,by simp⟩
 ·rintro ys H3 ⟨_,rfl⟩
  exact ⟨_,ha,Nat.le_refl _⟩
 ·rintro i x ys H3 H4 hi ⟨rfl,rfl⟩ ⟨rfl,hx⟩
  have hy : fs[i]? = some fs[i]:=by simp
  refine hs i x fs[i] _ _ (hx _ ha) hy ⟨zab (Nat.le_trans (List.length_take_le _ _) (by omega)),?_,rfl⟩
  rw [take_snoc hy]
 ·rintro ys H3 D ⟨rfl,rfl⟩ hD
  rw [List.take_of_length_le (by omega)]
  exact hd D hD
def zdu (K : PySem.W.Frag) : Sp:=fun vs H Q _ => ∃ (a : Addr) (ns : List Int),vs = [.ref a] ∧ SqL K H a (ns.map V.int) ∧ ns.length ≤ 63 ∧ ∀ H',Q (.bl true) H'
end
end My
end
section
set_option maxHeartbeats 3999000
namespace PySem
abbrev IsZ (h : Heap) (z TI TO : Addr) (f0 f1 : Value) : Prop:=h.get? z = some { cls:=.type "zip",dict:=none,data:=.fields #[f0,f1,.bool false,.ref TI,.ref TO],slots:=#[] }
def ZF (f0 f1 : Value) : Prop:=(f0 = .none ∨ ∃ a t,f0 = .int a t) ∧ ∃ b,f1 = .bool b
structure Zap (z TI TO i1 i2 : Addr) (fp1 fp2 : List Addr) : Prop where
 zTI : TI ≠ z
 zTO : TO ≠ z
 z1 : i1 ≠ z
 z2 : i2 ≠ z
 TT : TI ≠ TO
 T1 : TI ≠ i1
 T2 : TI ≠ i2
 O1 : TO ≠ i1
 O2 : TO ≠ i2
 ii : i1 ≠ i2
 a1 : z ∉ fp1
 a2 : TO ∉ fp1
 a3 : i2 ∉ fp1
 b1 : z ∉ fp2
 b2 : TO ∉ fp2
 b3 : i1 ∉ fp2
section
variable {prog : Program} {w : World} {A : Around} {E : Value → Shared → Prop} {s : Shared}
theorem zfi {a : Addr} {Q : Option Obj → Shared → Prop} (h : Q (s.heap.get? a) s) : wpAny (model prog w) A (loadIfAlive a) Q E s:=fun _ _ _ => h
theorem zf2 {z TI TO : Addr} {f0 f1 : Value} {Q : Bool → Shared → Prop} (hz : IsZ s.heap z TI TO f0 f1) (hf : ZF f0 f1) (h1 : Q true s)
  (h2 : ∀ h',IsZ h' z TI TO f0 (.bool true) → Heap.SameBut z s.heap h' → Q false { s with heap:=h' }) : wpAny (model prog w) A (Builtin.SmallTypes.ownedTupleIsFree (.ref z)) Q E s:=by
 obtain ⟨hf,b,rfl⟩:=hf
 unfold Builtin.SmallTypes.ownedTupleIsFree; rcases hf with rfl | ⟨a,t,rfl⟩
 ·exact wpAny_bind (wpAny_field hz rfl (x:=.none) rfl (wpAny_pure h1))
 ·refine wpAny_bind (wpAny_field hz rfl (x:=.int a t) rfl ?_)
  refine wpAny_bind (zfi ?_)
  cases s.heap.get? a.toNat with
  | none => exact wpAny_pure h1
  | some o =>
   refine wpAny_bind (wpAny_field hz rfl (x:=.bool b) rfl ?_)
   cases b with
   | true => exact wpAny_pure (h2 s.heap hz ⟨rfl,fun _ _ => rfl⟩)
   | false => exact wpAny_bind (wpAny_setField_rec hz (by simp) fun h' a' b' => wpAny_pure (h2 h' a' b'))
theorem zgQ {z TI TO i1 i2 : Addr} {fp1 fp2 : List Addr} {n1 n2 k1 k2 : Nat} {P1 P2 : Nat → Value → Prop} {S1 S2 : Nat → Heap → Prop} {f0 f1 a b : Value} {Q : Value → Shared → Prop} (D1 : Draws prog w A i1 fp1 n1 P1 S1) (D2 : Draws prog w A i2 fp2 n2 P2 S2) (Z : Zap z TI TO i1 i2 fp1 fp2)
  (hz : IsZ s.heap z TI TO f0 f1) (hf : ZF f0 f1) (hTI : IsPair s.heap TI (.ref i1) (.ref i2)) (hTO : IsPair s.heap TO a b) (st1 : S1 k1 s.heap) (st2 : S2 k2 s.heap) (l1 : k1 < n1) (l2 : k2 < n2)
  (hQ : ∀ x y h' tk g0 g1 a' b',P1 k1 x → P2 k2 y → IsZ h' z TI TO g0 g1 → ZF g0 g1 → IsPair h' TI (.ref i1) (.ref i2) → IsPair h' TO a' b' → S1 (k1 + 1) h' → S2 (k2 + 1) h' → IsPair h' s.heap.objs.size x y → h'.objs.size = s.heap.objs.size + 1 →
   (∀ c o,c ≠ z → c ≠ TO → c ≠ i1 → c ≠ i2 → s.heap.get? c = some o → h'.get? c = some o) → Q (.ref s.heap.objs.size) { s with heap:=h',toks:=tk }) : wpAny (model prog w) A (Builtin.«zip.__next__» ⟨[.ref z],[]⟩) (fun fin s' => ∃ v,fin = .done (.ret v) ∧ Q v s') E s:=by
 obtain ⟨hp,g,d,tk0,os⟩:=s
 show wpAny _ _ (field (.ref z) 2 >>= _) _ _ _; refine wpAny_bind (wpAny_field hz rfl (x:=.bool false) rfl ?_); show wpAny _ _ (field (.ref z) 3 >>= _) _ _ _
 refine wpAny_bind (wpAny_field hz rfl (x:=.ref TI) rfl ?_); refine wpAny_bind (wpAny_seqItems hTI rfl ?_)
 show wpAny _ _ (Builtin.SmallTypes.ownedTupleIsFree (.ref z) >>= _) _ _ _; refine wpAny_bind (zf2 hz hf ?_ fun h0 hz0 hs0 => ?_)
 ·simp only [if_true]
  refine wpAny_bind (wpAny_rule (wpAny_bind (wpAny_field hz rfl (x:=.ref TO) rfl ?_)))
  refine wpAny_bind (wpAny_setField_rec hz (by simp) fun ha hza hsa => ?_)
  replace hza : IsZ ha z TI TO .ellipsis f1:=hza
  replace hsa : Heap.SameBut z hp ha:=hsa
  refine wpAny_bind ?_
  simp only [List.zipIdx_cons,List.zipIdx_nil,List.forIn_cons,List.forIn_nil]; refine wpAny_bind (wpAny_bind (wpAny_onRaise ?_)); show wpAny _ _ (Builtin.SmallTypes.nextOf (.ref i1) >>= _) _ _ _
  refine wpAny_bind (D1.item k1 _ _ _ l1 (D1.frame _ _ _ st1 fun c hc o e => hsa.extBut c o (fun q => Z.a1 (q ▸ hc)) e) fun x hb tkb px stb hsb => wpAny_pure ?_)
  replace hsb : Heap.SameBut i1 ha hb:=hsb
  have hTOb : IsPair hb TO a b:=hsb.extBut _ _ Z.O1 (hsa.extBut _ _ Z.zTO hTO)
  refine wpAny_bind (wpAny_seqItems hTOb rfl (wpAny_bind (wpAny_updateSeq_pair hTOb fun hc hTOc hsc => ?_)))
  replace hTOc : IsPair hc TO x b:=hTOc
  replace hsc : Heap.SameBut TO hb hc:=hsc
  refine wpAny_bind (wpAny_letGo (wpAny_pure (wpAny_bind (wpAny_bind (wpAny_onRaise ?_))))); show wpAny _ _ (Builtin.SmallTypes.nextOf (.ref i2) >>= _) _ _ _
  refine wpAny_bind (D2.item k2 _ _ _ l2 (D2.frame _ _ _ st2 fun c hcf o e => hsc.extBut c o (fun q => Z.b2 (q ▸ hcf)) (hsb.extBut c o (fun q => Z.b3 (q ▸ hcf)) (hsa.extBut c o (fun q => Z.b1 (q ▸ hcf)) e))) fun y hd tkd py std hsd => wpAny_pure ?_)
  replace hsd : Heap.SameBut i2 hc hd:=hsd
  have hTOd : IsPair hd TO x b:=hsd.extBut _ _ Z.O2 hTOc
  refine wpAny_bind (wpAny_seqItems hTOd rfl (wpAny_bind (wpAny_updateSeq_pair hTOd fun he hTOe hse => ?_)))
  replace hTOe : IsPair he TO x y:=hTOe
  replace hse : Heap.SameBut TO hd he:=hse
  refine wpAny_bind (wpAny_letGo (wpAny_pure (wpAny_pure ?_))); refine wpAny_bind (wpAny_seqItems hTOe rfl (wpAny_bind (wpAny_newTuple ?_)))
  have hsz : he.objs.size = hp.objs.size:=by rw [hse.1,hsd.1,hsc.1,hsb.1,hsa.1]
  have hze : IsZ he z TI TO .ellipsis f1:=hse.extBut _ _ Z.zTO.symm (hsd.extBut _ _ Z.z2.symm (hsc.extBut _ _ Z.zTO.symm (hsb.extBut _ _ Z.z1.symm hza)))
  have kk : ∀ c o,c ≠ z → c ≠ TO → c ≠ i1 → c ≠ i2 → hp.get? c = some o → he.get? c = some o:=fun c o c1 c2 c3 c4 e => hse.extBut _ _ c2 (hsd.extBut _ _ c4 (hsc.extBut _ _ c2 (hsb.extBut _ _ c3 (hsa.extBut _ _ c1 e))))
  have st1e : S1 (k1 + 1) he:=D1.frame _ _ _ stb fun c hcf o e => hse.extBut c o (fun q => Z.a2 (q ▸ hcf)) (hsd.extBut c o (fun q => Z.a3 (q ▸ hcf)) (hsc.extBut c o (fun q => Z.a2 (q ▸ hcf)) e))
  have st2e : S2 (k2 + 1) he:=D2.frame _ _ _ std fun c hcf o e => hse.extBut c o (fun q => Z.b2 (q ▸ hcf)) e
  have zlt : z < he.objs.size:=Heap.lt_size hze
  show wpAny _ _ (Builtin.SmallTypes.ownedTupleHandOut (.ref z) (.ref he.objs.size) >>= _) _ _ _
  refine wpAny_bind ?_
  unfold Builtin.SmallTypes.ownedTupleHandOut; have hzf : IsZ (he.push { cls:=.type "tuple",data:=.seq #[x,y] }) z TI TO .ellipsis f1:=Heap.get?_push_of_some _ hze
  refine wpAny_bind (wpAny_setField_rec hzf (by simp) fun h7 hz7 hs7 => ?_)
  replace hz7 : IsZ h7 z TI TO (rawInt he.objs.size) f1:=hz7
  refine wpAny_setField_rec hz7 (by simp) fun h8 hz8 hs8 => wpAny_pure ⟨_,rfl,?_⟩
  replace hz8 : IsZ h8 z TI TO (rawInt he.objs.size) (.bool false):=hz8
  have up : ∀ c o,c ≠ z → he.get? c = some o → h8.get? c = some o:=fun c o c1 e => hs8.extBut _ _ c1 (hs7.extBut _ _ c1 (Heap.get?_push_of_some _ e))
  have hT8 : IsPair h8 he.objs.size x y:=hs8.extBut _ _ (Nat.ne_of_gt zlt) (hs7.extBut _ _ (Nat.ne_of_gt zlt) (Heap.get?_push_size _ rfl))
  have hs8' : h8.objs.size = he.objs.size + 1:=by rw [hs8.1,hs7.1,Heap.size_push]
  show Q (.ref he.objs.size) _
  rw [hsz] at hz8 hT8 hs8' ⊢
  exact hQ x y h8 tkd _ _ _ _ px py hz8 ⟨.inr ⟨_,_,rfl⟩,_,rfl⟩ (up _ _ Z.zTI (kk _ _ Z.zTI Z.TT Z.T1 Z.T2 hTI)) (up _ _ Z.zTO hTOe) (D1.frame _ _ _ st1e fun c hcf o e => up c o (fun q => Z.a1 (q ▸ hcf)) e) (D2.frame _ _ _ st2e fun c hcf o e => up c o (fun q => Z.b1 (q ▸ hcf)) e) hT8 hs8' fun c o c1 c2 c3 c4 e => up c o c1 (kk c o c1 c2 c3 c4 e)
 ·simp only [Bool.false_eq_true,if_false]; replace hs0 : Heap.SameBut z hp h0:=hs0
  rw [show (#[Value.ref i1,Value.ref i2] : Array Value) = [Value.ref i1,Value.ref i2].toArray from rfl]
  simp only [List.forIn_toArray,List.forIn_cons,List.forIn_nil]
  refine wpAny_bind (wpAny_bind (wpAny_bind (wpAny_holding ?_))); show wpAny _ _ (Builtin.SmallTypes.nextOf (.ref i1) >>= _) _ _ _
  refine wpAny_bind (D1.item k1 _ _ _ l1 (D1.frame _ _ _ st1 fun c hc o e => hs0.extBut c o (fun q => Z.a1 (q ▸ hc)) e) fun x hb tkb px stb hsb => wpAny_pure (wpAny_pure ?_))
  replace hsb : Heap.SameBut i1 h0 hb:=hsb
  refine wpAny_bind (wpAny_bind (wpAny_holding ?_)); show wpAny _ _ (Builtin.SmallTypes.nextOf (.ref i2) >>= _) _ _ _
  refine wpAny_bind (D2.item k2 _ _ _ l2 (D2.frame _ _ _ st2 fun c hcf o e => hsb.extBut c o (fun q => Z.b3 (q ▸ hcf)) (hs0.extBut c o (fun q => Z.b1 (q ▸ hcf)) e)) fun y hd tkd py std hsd => wpAny_pure (wpAny_pure (wpAny_pure ?_)))
  replace hsd : Heap.SameBut i2 hb hd:=hsd
  show wpAny _ _ (newTuple [x,y] >>= _) _ _ _
  refine wpAny_bind (wpAny_newTuple (wpAny_pure ⟨_,rfl,?_⟩))
  have hsz : hd.objs.size = hp.objs.size:=by rw [hsd.1,hsb.1,hs0.1]
  have kk : ∀ c o,c ≠ z → c ≠ TO → c ≠ i1 → c ≠ i2 → hp.get? c = some o → hd.get? c = some o:=fun c o c1 c2 c3 c4 e => hsd.extBut _ _ c4 (hsb.extBut _ _ c3 (hs0.extBut _ _ c1 e))
  have hzd : IsZ hd z TI TO f0 (.bool true):=hsd.extBut _ _ Z.z2.symm (hsb.extBut _ _ Z.z1.symm hz0)
  have hTOd : IsPair hd TO a b:=hsd.extBut _ _ Z.O2 (hsb.extBut _ _ Z.O1 (hs0.extBut _ _ Z.zTO hTO))
  have st1d : S1 (k1 + 1) hd:=D1.frame _ _ _ stb fun c hcf o e => hsd.extBut c o (fun q => Z.a3 (q ▸ hcf)) e
  have up : ∀ c o,hd.get? c = some o → (hd.push { cls:=.type "tuple",data:=.seq #[x,y] }).get? c = some o:=fun c o e => Heap.get?_push_of_some _ e
  have hT8 : IsPair (hd.push { cls:=.type "tuple",data:=.seq #[x,y] }) hd.objs.size x y:=Heap.get?_push_size _ rfl
  have hs8' : (hd.push { cls:=.type "tuple",data:=.seq #[x,y] }).objs.size = hd.objs.size + 1:=Heap.size_push ..
  show Q (.ref hd.objs.size) _
  rw [hsz] at hT8 hs8' ⊢
  exact hQ x y _ tkd _ _ _ _ px py (up _ _ hzd) ⟨hf.1,_,rfl⟩ (up _ _ (kk _ _ Z.zTI Z.TT Z.T1 Z.T2 hTI)) (up _ _ hTOd) (D1.frame _ _ _ st1d fun c _ o e => up c o e) (D2.frame _ _ _ std fun c _ o e => up c o e) hT8 hs8' fun c o c1 c2 c3 c4 e => up c o (kk c o c1 c2 c3 c4 e)
theorem zhO {z TI TO i1 i2 : Addr} {fp1 fp2 : List Addr} {n1 n2 k1 k2 : Nat} {P1 P2 : Nat → Value → Prop} {S1 S2 : Nat → Heap → Prop} {f0 f1 a b : Value} {Q : Fin → Shared → Prop} (D1 : Draws prog w A i1 fp1 n1 P1 S1) (D2 : Draws prog w A i2 fp2 n2 P2 S2) (Z : Zap z TI TO i1 i2 fp1 fp2)
  (hz : IsZ s.heap z TI TO f0 f1) (hf : ZF f0 f1) (hTI : IsPair s.heap TI (.ref i1) (.ref i2)) (hTO : IsPair s.heap TO a b) (st1 : S1 k1 s.heap) (st2 : S2 k2 s.heap) (l1 : k1 = n1 ∨ (k1 < n1 ∧ k2 = n2))
  (hE : ∀ h' tk e,(∀ c o,c ≠ z → c ≠ TO → c ≠ i1 → c ≠ i2 → s.heap.get? c = some o → h'.get? c = some o) → (∃ o,h'.get? e = some o ∧ o.cls = .type "StopIteration") → E (.ref e) { s with heap:=h',toks:=tk }) : wpAny (model prog w) A (Builtin.«zip.__next__» ⟨[.ref z],[]⟩) Q E s:=by
 obtain ⟨hp,g,d,tk0,os⟩:=s
 have nz : ∀ {h : Heap} {e : Addr} {o : Obj} {x y : Value},IsZ h z TI TO x y → h.get? e = some o → o.cls = .type "StopIteration" → e ≠ z:=fun h1 h2 h3 q => by subst q; rw [h1] at h2; cases h2; simp at h3
 show wpAny _ _ (field (.ref z) 2 >>= _) _ _ _; refine wpAny_bind (wpAny_field hz rfl (x:=.bool false) rfl ?_); show wpAny _ _ (field (.ref z) 3 >>= _) _ _ _
 refine wpAny_bind (wpAny_field hz rfl (x:=.ref TI) rfl ?_); refine wpAny_bind (wpAny_seqItems hTI rfl ?_)
 show wpAny _ _ (Builtin.SmallTypes.ownedTupleIsFree (.ref z) >>= _) _ _ _; refine wpAny_bind (zf2 hz hf ?_ fun h0 hz0 hs0 => ?_)
 ·simp only [if_true]
  refine wpAny_bind (wpAny_rule (wpAny_bind (wpAny_field hz rfl (x:=.ref TO) rfl ?_)))
  refine wpAny_bind (wpAny_setField_rec hz (by simp) fun ha hza hsa => ?_)
  replace hza : IsZ ha z TI TO .ellipsis f1:=hza
  replace hsa : Heap.SameBut z hp ha:=hsa
  refine wpAny_bind ?_
  simp only [List.zipIdx_cons,List.zipIdx_nil,List.forIn_cons,List.forIn_nil]; refine wpAny_bind (wpAny_bind (wpAny_onRaise ?_)); show wpAny _ _ (Builtin.SmallTypes.nextOf (.ref i1) >>= _) _ _ _
  have st1a : S1 k1 ha:=D1.frame _ _ _ st1 fun c hc o e => hsa.extBut c o (fun q => Z.a1 (q ▸ hc)) e
  rcases l1 with rfl | ⟨l1,rfl⟩
  ·refine wpAny_bind (D1.done _ _ _ st1a fun hb e hsb ⟨oe,hoe,hce⟩ => ?_)
   have hzb : IsZ hb z TI TO .ellipsis f1:=hsb _ _ Z.z1.symm hza
   exact wpAny_setField_rec hzb (by simp) fun h3 _ hs3 => hE h3 tk0 e (fun c o c1 _ c3 _ x => hs3.extBut _ _ c1 (hsb _ _ c3 (hsa.extBut _ _ c1 x))) ⟨oe,hs3.extBut _ _ (nz hzb hoe hce) hoe,hce⟩
  ·refine wpAny_bind (D1.item k1 _ _ _ l1 st1a fun x hb tkb px stb hsb => wpAny_pure ?_)
   replace hsb : Heap.SameBut i1 ha hb:=hsb
   have hTOb : IsPair hb TO a b:=hsb.extBut _ _ Z.O1 (hsa.extBut _ _ Z.zTO hTO)
   refine wpAny_bind (wpAny_seqItems hTOb rfl (wpAny_bind (wpAny_updateSeq_pair hTOb fun hc hTOc hsc => ?_)))
   replace hsc : Heap.SameBut TO hb hc:=hsc
   refine wpAny_bind (wpAny_letGo (wpAny_pure (wpAny_bind (wpAny_bind (wpAny_onRaise ?_))))); show wpAny _ _ (Builtin.SmallTypes.nextOf (.ref i2) >>= _) _ _ _
   refine wpAny_bind (D2.done _ _ _ (D2.frame _ _ _ st2 fun c hcf o e => hsc.extBut c o (fun q => Z.b2 (q ▸ hcf)) (hsb.extBut c o (fun q => Z.b3 (q ▸ hcf)) (hsa.extBut c o (fun q => Z.b1 (q ▸ hcf)) e))) fun hd e hsd ⟨oe,hoe,hce⟩ => ?_)
   have hzd : IsZ hd z TI TO .ellipsis f1:=hsd _ _ Z.z2.symm (hsc.extBut _ _ Z.zTO.symm (hsb.extBut _ _ Z.z1.symm hza))
   exact wpAny_setField_rec hzd (by simp) fun h3 _ hs3 => hE h3 tkb e (fun c o c1 c2 c3 c4 x => hs3.extBut _ _ c1 (hsd _ _ c4 (hsc.extBut _ _ c2 (hsb.extBut _ _ c3 (hsa.extBut _ _ c1 x))))) ⟨oe,hs3.extBut _ _ (nz hzd hoe hce) hoe,hce⟩
 ·simp only [Bool.false_eq_true,if_false]; replace hs0 : Heap.SameBut z hp h0:=hs0
  rw [show (#[Value.ref i1,Value.ref i2] : Array Value) = [Value.ref i1,Value.ref i2].toArray from rfl]
  simp only [List.forIn_toArray,List.forIn_cons,List.forIn_nil]
  refine wpAny_bind (wpAny_bind (wpAny_bind (wpAny_holding ?_))); show wpAny _ _ (Builtin.SmallTypes.nextOf (.ref i1) >>= _) _ _ _
  have st1a : S1 k1 h0:=D1.frame _ _ _ st1 fun c hc o e => hs0.extBut c o (fun q => Z.a1 (q ▸ hc)) e
  rcases l1 with rfl | ⟨l1,rfl⟩
  ·exact wpAny_bind (D1.done _ _ _ st1a fun hb e hsb he => hE hb tk0 e (fun c o c1 _ c3 _ x => hsb _ _ c3 (hs0.extBut _ _ c1 x)) he)
  ·refine wpAny_bind (D1.item k1 _ _ _ l1 st1a fun x hb tkb px stb hsb => wpAny_pure (wpAny_pure ?_))
   replace hsb : Heap.SameBut i1 h0 hb:=hsb
   refine wpAny_bind (wpAny_bind (wpAny_holding ?_)); show wpAny _ _ (Builtin.SmallTypes.nextOf (.ref i2) >>= _) _ _ _
   exact wpAny_bind (D2.done _ _ _ (D2.frame _ _ _ st2 fun c hcf o e => hsb.extBut c o (fun q => Z.b3 (q ▸ hcf)) (hs0.extBut c o (fun q => Z.b1 (q ▸ hcf)) e)) fun hd e hsd he => hE hd tkb e (fun c o c1 _ c3 c4 x => hsd _ _ c4 (hsb.extBut _ _ c3 (hs0.extBut _ _ c1 x))) he)
end
end PySem
namespace PySem
def zhi (l : Addr) : Obj:={ cls:=.type "list_iterator",data:=.fields #[.ref l,.int 0 0] }
def zdv (x y : Value) : Obj:={ cls:=.type "tuple",data:=.seq #[x,y] }
def ziz (a b : Addr) : Obj:={ cls:=.type "zip",data:=.fields #[.none,.bool false,.bool false,.ref a,.ref b] }
abbrev zt2 (h : Heap) (l1 l2 : Addr) : Heap:=(h.push (zaE l1)).push (zhi l2)
abbrev zt4 (h : Heap) (l1 l2 : Addr) : Heap:=((zt2 h l1 l2).push (zdv (.ref h.objs.size) (.ref (h.push (zaE l1)).objs.size))).push (zdv .none .none)
abbrev zt5 (h : Heap) (l1 l2 : Addr) : Heap:=(zt4 h l1 l2).push (ziz (zt2 h l1 l2).objs.size ((zt2 h l1 l2).push (zdv (.ref h.objs.size) (.ref (h.push (zaE l1)).objs.size))).objs.size)
theorem zdS (l1 l2 : Addr) (xs ys : Array Value) : Meets (Builtin.«zip.__new__» ⟨[.type "zip",.ref l1,.ref l2],[]⟩) (fun _ R s => s.heap.IsTuple l1 xs ∧ s.heap.IsList l2 ys ∧ R (.ok (.ret (.ref (zt4 s.heap l1 l2).objs.size))) { s with heap:=zt5 s.heap l1 l2 }) :=
 .of_wp fun prog w A R s h => by
  obtain ⟨hp,g,d,tk,os⟩:=s; obtain ⟨hl1,hl2,h⟩:=h; have hsub:=sub_zip
  have hL1 : Heap.IsTuple (Shared.heap ⟨hp,g,d,tk,os⟩) l1 xs:=hl1
  have hL2 : Heap.IsList (Shared.heap ⟨hp.push { cls:=.type "tuple_iterator",data:=.fields #[.ref l1,.int 0 0] },g,d,tk,os⟩) l2 ys:=Heap.IsList.push hl2 _
  wp_walk using wpAny_pyIter_tuple hL1,wpAny_pyIter_list hL2
  exact ⟨_,rfl,h⟩
section
variable {prog : Program} {w : World} {A : Around} {E : Value → Shared → Prop} {s : Shared}
theorem zej {l1 l2 : Addr} {xs ys : Array Value} {Q : Value → Shared → Prop} (hl1 : s.heap.IsTuple l1 xs) (hl2 : s.heap.IsList l2 ys)
  (h : ∀ h' n,n = s.heap.objs.size → IsZ h' (n + 4) (n + 2) (n + 3) .none (.bool false) → IsPair h' (n + 2) (.ref n) (.ref (n + 1)) → IsPair h' (n + 3) .none .none → h'.IsTupleIter n l1 0 → h'.IsListIter (n + 1) l2 0 → h'.objs.size = n + 5 →
   (∀ c o,s.heap.get? c = some o → h'.get? c = some o) → Q (.ref (n + 4)) { s with heap:=h' }) : wpAny (model prog w) A (call (.type "zip") [.ref l1,.ref l2]) Q E s:=by
 refine callType_new F.called_zip (by decide) (F.typeCall_zip_2 _ _) (F.newCall_zip_2 _ _) (fun obj => F.args_object_init_3 obj _ _) F.entry_zip_new (zdS l1 l2 xs ys) ⟨hl1,hl2,?_⟩
 have z1 : (s.heap.push (zaE l1)).objs.size = s.heap.objs.size + 1:=Heap.size_push ..
 have z2 : (zt2 s.heap l1 l2).objs.size = s.heap.objs.size + 2:=by rw [Heap.size_push,z1]
 have z3 : ((zt2 s.heap l1 l2).push (zdv (.ref s.heap.objs.size) (.ref (s.heap.push (zaE l1)).objs.size))).objs.size = s.heap.objs.size + 3:=by rw [Heap.size_push,z2]
 have z4 : (zt4 s.heap l1 l2).objs.size = s.heap.objs.size + 4:=by rw [Heap.size_push,z3]
 have g5:=Heap.get?_push_size (zt4 s.heap l1 l2) (o:=ziz (zt2 s.heap l1 l2).objs.size ((zt2 s.heap l1 l2).push (zdv (.ref s.heap.objs.size) (.ref (s.heap.push (zaE l1)).objs.size))).objs.size) rfl
 have g4 : (zt5 s.heap l1 l2).get? _ = some _:=Heap.get?_push_of_some _ (Heap.get?_push_size ((zt2 s.heap l1 l2).push (zdv (.ref s.heap.objs.size) (.ref (s.heap.push (zaE l1)).objs.size))) (o:=zdv .none .none) rfl)
 have g3 : (zt5 s.heap l1 l2).get? _ = some _:=Heap.get?_push_of_some _ (Heap.get?_push_of_some _ (Heap.get?_push_size (zt2 s.heap l1 l2) (o:=zdv (.ref s.heap.objs.size) (.ref (s.heap.push (zaE l1)).objs.size)) rfl))
 have g2 : (zt5 s.heap l1 l2).get? _ = some _:=Heap.get?_push_of_some _ (Heap.get?_push_of_some _ (Heap.get?_push_of_some _ (Heap.get?_push_size (s.heap.push (zaE l1)) (o:=zhi l2) rfl)))
 have g1 : (zt5 s.heap l1 l2).get? s.heap.objs.size = some (zaE l1):=Heap.get?_push_of_some _ (Heap.get?_push_of_some _ (Heap.get?_push_of_some _ (Heap.get?_push_of_some _ (Heap.get?_push_size _ rfl))))
 have z5 : (zt5 s.heap l1 l2).objs.size = s.heap.objs.size + 5:=by rw [Heap.size_push,z4]
 have k5 : ∀ c o,s.heap.get? c = some o → (zt5 s.heap l1 l2).get? c = some o:=fun c o x => Heap.get?_push_of_some _ (Heap.get?_push_of_some _ (Heap.get?_push_of_some _ (Heap.get?_push_of_some _ (Heap.get?_push_of_some _ x))))
 show _ ∧ _
 rw [z4] at g5 ⊢
 rw [z3] at g4
 rw [z2] at g3
 rw [z1] at g2
 refine ⟨⟨_,g5,rfl⟩,h _ _ rfl ?_ ?_ g4 ⟨_,g1,rfl,rfl⟩ ⟨_,g2,rfl,rfl⟩ z5 k5⟩
 ·have : IsZ (zt5 s.heap l1 l2) (s.heap.objs.size + 4) (zt2 s.heap l1 l2).objs.size ((zt2 s.heap l1 l2).push (zdv (.ref s.heap.objs.size) (.ref (s.heap.push (zaE l1)).objs.size))).objs.size .none (.bool false):=g5
  rw [z2,z3] at this
  exact this
 ·have : IsPair (zt5 s.heap l1 l2) (s.heap.objs.size + 2) (.ref s.heap.objs.size) (.ref (s.heap.push (zaE l1)).objs.size):=g3
  rw [z1] at this
  exact this
end
end PySem
end
section
set_option maxHeartbeats 3999000
namespace L2
open PySem PySem.Spec PyProof.Rows
theorem nq {x y : Nat} (h : x ≠ y) : @Ne Addr x y:=h
theorem nl {x y : Nat} (h : x < y) : @LT.lt Nat _ x y:=h
theorem nm2 {c x y : Nat} (h1 : c ≠ x) (h2 : c ≠ y) : ¬ @Membership.mem Addr (List Addr) _ [x,y] c:=fun h => by
 rcases List.mem_cons.mp h with e | e
 ·exact h1 e
 ·exact h2 (List.mem_singleton.mp e)
theorem zeO {n a b : Nat} (ha : a < n) (hb : b < n) : Zap (n + 4) (n + 2) (n + 3) n (n + 1) [n,a] [n + 1,b] :=
 ⟨nq (by omega),nq (by omega),nq (by omega),nq (by omega),nq (by omega),nq (by omega),nq (by omega),nq (by omega),nq (by omega),nq (by omega),nm2 (by omega) (by omega),nm2 (by omega) (by omega),nm2 (by omega) (by omega),nm2 (by omega) (by omega),nm2 (by omega) (by omega),nm2 (by omega) (by omega)⟩
end L2
end
section
set_option maxHeartbeats 3999000
namespace L2
open PySem PySem.Spec PyProof.Rows
end L2
end
section
set_option maxHeartbeats 3999000
namespace My
open PySem L2 PyProof.Rows
section
variable {K : PySem.W.Frag}
def zbm (H : Hp) (c tt : Addr) (p k : Int) (pl : List Int) : Prop:=H c = some (.tup [.int p,.int k,.ref tt]) ∧ H tt = some (.tup (pl.map V.int))
theorem zbm.same {H H' : Hp} {c tt : Addr} {p k : Int} {pl : List Int} (s : zB H H') (h : zbm H c tt p k pl) : zbm H' c tt p k pl:=⟨s _ _ h.1,s _ _ h.2⟩
def enc : Option Int → V
 | none => .non
 | some i => .int i
theorem zgR {rw : List (Option Int)} {j : Nat} {x : V} (h : (rw.map enc)[j]? = some x) : ∃ o,x = enc o ∧ rw[j]? = some o:=by
 rw [List.getElem?_map] at h
 cases e : rw[j]? with
 | none => rw [e] at h; cases h
 | some c => rw [e] at h; exact ⟨c,(Option.some.inj h).symm,rfl⟩
end
end My
end
section
set_option maxHeartbeats 3999000
namespace My
open PySem L2 PyProof.Rows
section
variable {K : PySem.W.Frag}
end
end My
end
section
set_option maxHeartbeats 3998000
namespace PySem
section
variable {prog : Program} {w : World} {A : Around} {E : Value → Shared → Prop} {s : Shared}
theorem zgS {z TI TO i1 i2 : Addr} {fp1 fp2 : List Addr} {n1 n2 k1 k2 : Nat} {P1 P2 : Nat → Value → Prop} {S1 S2 : Nat → Heap → Prop} {f0 f1 a b : Value} {Q : Option Value → Shared → Prop} (D1 : Draws prog w A.in1 i1 fp1 n1 P1 S1) (D2 : Draws prog w A.in1 i2 fp2 n2 P2 S2) (Z : Zap z TI TO i1 i2 fp1 fp2)
  (hz : IsZ s.heap z TI TO f0 f1) (hf : ZF f0 f1) (hTI : IsPair s.heap TI (.ref i1) (.ref i2)) (hTO : IsPair s.heap TO a b) (st1 : S1 k1 s.heap) (st2 : S2 k2 s.heap) (l1 : k1 < n1) (l2 : k2 < n2)
  (hQ : ∀ x y h' tk g0 g1 a' b',P1 k1 x → P2 k2 y → IsZ h' z TI TO g0 g1 → ZF g0 g1 → IsPair h' TI (.ref i1) (.ref i2) → IsPair h' TO a' b' → S1 (k1 + 1) h' → S2 (k2 + 1) h' → IsPair h' s.heap.objs.size x y → h'.objs.size = s.heap.objs.size + 1 →
   (∀ c o,c ≠ z → c ≠ TO → c ≠ i1 → c ≠ i2 → s.heap.get? c = some o → h'.get? c = some o) → Q (some (.ref s.heap.objs.size)) { s with heap:=h',toks:=tk }) : wpAny (model prog w) A (pyNext (.ref z)) Q E s:=by
 have hTz : s.TypeIs (.ref z) "zip":=⟨_,hz,rfl⟩
 unfold pyNext
 refine wpAny_bind (wpAny_attempt (wpAny_callSpecial?_slot (name:=Str.ofString "__next__") hTz F.slot_zip_next (wpAny_call_entry F.slot_zip_next hTz F.entry_zip_next ?_ (F.args_zip_next_1 _))))
 exact zgQ D1 D2 Z hz hf hTI hTO st1 st2 l1 l2 fun x y h1 tk g0 g1 a' b' px py hz1 hf1 hTI1 hTO1 st1' st2' hp1 hsz1 kk => wpAny_pure (hQ x y h1 tk g0 g1 a' b' px py hz1 hf1 hTI1 hTO1 st1' st2' hp1 hsz1 kk)
theorem zhP {z TI TO i1 i2 : Addr} {fp1 fp2 : List Addr} {n1 n2 k1 k2 : Nat} {P1 P2 : Nat → Value → Prop} {S1 S2 : Nat → Heap → Prop} {f0 f1 a b : Value} {Q : Option Value → Shared → Prop} (D1 : Draws prog w A.in1 i1 fp1 n1 P1 S1) (D2 : Draws prog w A.in1 i2 fp2 n2 P2 S2) (Z : Zap z TI TO i1 i2 fp1 fp2)
  (hz : IsZ s.heap z TI TO f0 f1) (hf : ZF f0 f1) (hTI : IsPair s.heap TI (.ref i1) (.ref i2)) (hTO : IsPair s.heap TO a b) (st1 : S1 k1 s.heap) (st2 : S2 k2 s.heap) (l1 : k1 = n1 ∨ (k1 < n1 ∧ k2 = n2))
  (hQ : ∀ h' tk,(∀ c o,c ≠ z → c ≠ TO → c ≠ i1 → c ≠ i2 → s.heap.get? c = some o → h'.get? c = some o) → Q none { s with heap:=h',toks:=tk }) : wpAny (model prog w) A (pyNext (.ref z)) Q E s:=by
 have hTz : s.TypeIs (.ref z) "zip":=⟨_,hz,rfl⟩
 unfold pyNext
 refine wpAny_bind (wpAny_attempt (wpAny_callSpecial?_slot (name:=Str.ofString "__next__") hTz F.slot_zip_next (wpAny_call_entry F.slot_zip_next hTz F.entry_zip_next ?_ (F.args_zip_next_1 _))))
 refine zhO D1 D2 Z hz hf hTI hTO st1 st2 l1 fun h' tk x kk ⟨o,ho,hc⟩ => ?_
 exact wpAny_bind (wpAny_isInstance (T:="StopIteration") (b:=true) ⟨o,ho,hc⟩ isSubtype_stop (wpAny_pure (hQ h' tk kk)))
theorem zeP {z TI TO : Addr} {f0 f1 : Value} {Q : Value → Shared → Prop} (hz : IsZ s.heap z TI TO f0 f1) (h : Q (.ref z) s) : wpAny (model prog w) A (pyIter (.ref z)) Q E s:=by
 have hT : s.TypeIs (.ref z) "zip":=⟨_,hz,rfl⟩; refine wpAny_pyIter_slot hT F.slot_zip_iter (wpAny_call_entry F.slot_zip_iter hT F.entry_zip_iter ?_ (F.args_zip_iter_1 _))
 show wpAny _ _ (ret (.ref z)) _ _ s; exact wpAny_pure ⟨_,rfl,"zip",_,hT,F.slot_zip_next.lookup,h⟩
theorem ziA {elts : List Expr} {x1} {pos : Pos} {z TI TO T : Addr} {f0 f1 : Value} {Q : Unit → Shared → Prop} (hz : IsZ s.heap z TI TO f0 f1) (hf : ZF f0 f1)
  (hQ : ∀ h' g0,IsZ h' z TI TO g0 f1 → ZF g0 f1 → Heap.SameBut z s.heap h' → Q () { s with heap:=h' }) : wpAny (model prog w) A (letOwnedTupleGo (.Tuple elts x1 pos) (.ref z) (.ref T)) Q E s:=by
 unfold letOwnedTupleGo; refine wpAny_bind (wpAny_load hz ?_)
 show wpAny _ _ (if _ then _ else _) Q E s
 split
 ·refine wpAny_bind (wpAny_rule ?_); show wpAny _ _ (setField (.ref z) 0 .none) Q E s
  exact wpAny_setField_rec hz (by simp) fun h' hz' hs' => hQ h' .none hz' ⟨.inl rfl,hf.2⟩ hs'
 ·exact wpAny_pure (hQ s.heap f0 hz hf ⟨rfl,fun _ _ => rfl⟩)
end
end PySem
namespace L2
open PySem PySem.Spec PyProof.Rows
def zhQ (Sq1 Sq2 : Hp → Addr → List V → Prop) (a b : Addr) : It :=
 ⟨(zfa Sq1 Sq2 a b).go,(zfa Sq1 Sq2 a b).yld,fun i H => ∃ xs ys,Sq1 H a xs ∧ Sq2 H b ys ∧ (xs.length = i ∨ (i < xs.length ∧ ys.length = i))⟩
abbrev zcM (n : Nat) : List Addr:=[n + 4,n + 2,n + 3,n,n + 1]
abbrev ziB (n a b : Nat) (i : Nat) (h : Heap) : Prop:=(∃ f0 f1,IsZ h (n + 4) (n + 2) (n + 3) f0 f1 ∧ ZF f0 f1) ∧ IsPair h (n + 2) (.ref n) (.ref (n + 1)) ∧ (∃ u v,IsPair h (n + 3) u v) ∧ h.IsTupleIter n a i ∧ h.IsListIter (n + 1) b i
theorem zf3 {P : Program} {w : World} {K : PySem.W.Frag} {es : List Expr} {k : Nat} {pos : Pos} (a b n : Nat) (ha : a < n) (hb : b < n) : Turn P w K (.Tuple es k pos) (zhQ (SqT K) (SqL K) a b) (zcM n) (n + 4) (ziB n a b) where
 mem:=by simp
 obj:=fun i h st c hc => by
  obtain ⟨⟨f0,f1,h1,_⟩,h2,⟨u,v,h3⟩,⟨o4,e4,_,d4⟩,⟨o5,e5,_,d5⟩⟩:=st
  simp only [zcM,List.mem_cons,List.not_mem_nil,or_false] at hc
  rcases hc with z | z | z | z | z <;> subst z
  ·exact ⟨_,h1,fun v z => by cases z⟩
  ·exact ⟨_,h2,fun v z => by cases z⟩
  ·exact ⟨_,h3,fun v z => by cases z⟩
  ·exact ⟨_,e4,fun v z => by rw [d4] at z; cases z⟩
  ·exact ⟨_,e5,fun v z => by rw [d5] at z; cases z⟩
 keep:=fun i h h' st kk => by
  obtain ⟨⟨f0,f1,h1,hf⟩,h2,⟨u,v,h3⟩,h4,h5⟩:=st
  exact ⟨⟨f0,f1,kk _ (by simp) _ h1,hf⟩,kk _ (by simp) _ h2,⟨u,v,kk _ (by simp) _ h3⟩,h4.at fun o eo => kk _ (by simp) o eo,h5.at fun o eo => kk _ (by simp) o eo⟩
 item:=by
  intro X hP hw hK hc i pins s σ H E I hf st hg
  subst hP hw hK
  obtain ⟨xs,ys,x,y,hq1,hq2,hx,hy⟩:=hg
  obtain ⟨⟨f0,f1,h1,hzf⟩,h2,⟨u0,v0,h3⟩,h4,h5⟩:=st
  obtain ⟨its1,rv1,p1,hz1⟩:=I.tuple hq1
  obtain ⟨its2,rv2,p2,hz2⟩:=I.list hq2
  obtain ⟨u,hu,ru⟩:=rv1.get hx
  obtain ⟨v,hv,rv⟩:=rv2.get hy
  have hes : n + 4 < s.heap.objs.size:=Heap.lt_size h1
  have hh : X.A.in1.handled = none:=by simp [I.ok.hd hc]
  have hlt1 : i < its1.toArray.size:=by have:=(List.getElem?_eq_some_iff.mp hu).1; simpa using this
  have hlt2 : i < its2.toArray.size:=by have:=(List.getElem?_eq_some_iff.mp hv).1; simpa using this
  refine zgS (Draws.tuple hh n a (nq (by omega)) its1.toArray) (Draws.list hh (n + 1) b (nq (by omega)) its2.toArray) (zeO ha hb) h1 hzf h2 h3 ⟨h4,(show s.heap.IsTuple a its1.toArray from p1)⟩ ⟨h5,p2.isList⟩ hlt1 hlt2
   fun x' y' h' tk g0 g1 a' b' px py ez ezf e2 e3 t4 t5 pp hsz kk => ?_
  have eu : x' = u:=by
   have e1 : its1[i]? = some x':=by simpa using px
   rw [hu] at e1; exact (Option.some.inj e1).symm
  have ev : y' = v:=by
   have e1 : its2[i]? = some y':=by simpa using py
   rw [hv] at e1; exact (Option.some.inj e1).symm
  subst eu ev
  have ch : ∀ c ∈ [n + 4,n + 3,n,n + 1],c ∈ zcM n:=fun c hc' => by
   simp only [zcM,List.mem_cons,List.not_mem_nil,or_false] at hc' ⊢
   rcases hc' with z | z | z | z <;> subst z <;> simp
  have k1 : ∀ c o,c ∉ [n + 4,n + 3,n,n + 1] → s.heap.get? c = some o → h'.get? c = some o:=fun c o hc' eo => by
   simp only [List.mem_cons,List.not_mem_nil,or_false,not_or] at hc'
   exact kk c o hc'.1 hc'.2.1 hc'.2.2.1 hc'.2.2.2 eo
  have th1 : ∀ c ∈ [n + 4,n + 3,n,n + 1],∃ o,h'.get? c = some o:=fun c hc' => by
   simp only [List.mem_cons,List.not_mem_nil,or_false] at hc'
   rcases hc' with z | z | z | z <;> subst z
   ·exact ⟨_,ez⟩
   ·exact ⟨_,e3⟩
   ·obtain ⟨o,e,_⟩:=t4.1; exact ⟨o,e⟩
   ·obtain ⟨o,e,_⟩:=t5.1; exact ⟨o,e⟩
  have I1 : Inv X pins σ (upd H s.heap.objs.size (.tup [x,y])) { s with heap:=h',toks:=tk } :=
   I.turnedNew k1 (fun c hc' => hf c (ch c hc')) th1 (Nat.le_refl _) ⟨zaC,_,.cons ru (.cons rv .nil),za4 pp⟩
  refine ⟨_,rfl,ziA (s:={ s with heap:=h',toks:=tk }) ez ezf fun h'' g2 hz'' hzf'' hs'' => ?_⟩
  have fr : ∀ c ∈ zcM n,upd H s.heap.objs.size (.tup [x,y]) c = none:=fun c hc' => by
   have hlt : c < s.heap.objs.size:=by
    simp only [zcM,List.mem_cons,List.not_mem_nil,or_false] at hc'
    rcases hc' with z | z | z | z | z <;> subst z <;> exact nl (by omega)
   rw [zn (Nat.ne_of_lt hlt)]
   exact (hf c hc').1
  have I2 : Inv X pins σ (upd H s.heap.objs.size (.tup [x,y])) { s with heap:=h'',toks:=tk } :=
   Inv.turnedL (s:={ s with heap:=h',toks:=tk }) (ch:=[n + 4]) (t':=tk) I1 (fun c o hc' eo => hs''.extBut c o (by simpa using hc') eo) (fun c hc' => by
    have z : c = n + 4:=by simpa using hc'
    subst z
    exact ⟨fr _ (by simp),(hf _ (by simp)).2⟩) (fun c hc' => by
    have z : c = n + 4:=by simpa using hc'
    subst z
    exact ⟨_,hz''⟩)
  have up : ∀ c o,c ≠ n + 4 → h'.get? c = some o → h''.get? c = some o:=fun c o hc' e => hs''.extBut c o hc' e
  exact ⟨.ref s.heap.objs.size,_,I2,rfl,⟨_,x,y,I.fresh,rfl,rfl,fun zs hz => by rw [I.tuple_inj hz hq1]; exact hx,fun zs hz => by rw [I.list_inj hz hq2]; exact hy⟩,
   ⟨⟨g2,g1,hz'',hzf''⟩,up _ _ (nq (by omega)) e2,⟨_,_,up _ _ (nq (by omega)) e3⟩,t4.1.at fun o e => up _ o (nq (by omega)) e,t5.1.at fun o e => up _ o (nq (by omega)) e⟩,fr⟩
 done:=by
  intro X hP hw hK hc i pins s σ H E I hf st hg
  subst hP hw hK
  obtain ⟨xs,ys,hq1,hq2,hx⟩:=hg
  obtain ⟨⟨f0,f1,h1,hzf⟩,h2,⟨u0,v0,h3⟩,h4,h5⟩:=st
  obtain ⟨its1,rv1,p1,hz1⟩:=I.tuple hq1
  obtain ⟨its2,rv2,p2,hz2⟩:=I.list hq2
  have hh : X.A.in1.handled = none:=by simp [I.ok.hd hc]
  have hl1:=rv1.length
  have hl2:=rv2.length
  refine zhP (Draws.tuple hh n a (nq (by omega)) its1.toArray) (Draws.list hh (n + 1) b (nq (by omega)) its2.toArray) (zeO ha hb) h1 hzf h2 h3 ⟨h4,(show s.heap.IsTuple a its1.toArray from p1)⟩ ⟨h5,p2.isList⟩ (by rw [List.size_toArray,List.size_toArray]; omega) fun h' tk kk => ⟨rfl,?_⟩
  have sub : ∀ c ∈ [n + 4,n + 3,n,n + 1],c ∈ zcM n:=fun c hc' => by
   simp only [zcM,List.mem_cons,List.not_mem_nil,or_false] at hc' ⊢
   rcases hc' with z | z | z | z <;> subst z <;> simp
  have k1 : ∀ c o,c ∉ [n + 4,n + 3,n,n + 1] → s.heap.get? c = some o → h'.get? c = some o:=fun c o hc' e => by
   simp only [List.mem_cons,List.not_mem_nil,or_false,not_or] at hc'
   exact kk c o hc'.1 hc'.2.1 hc'.2.2.1 hc'.2.2.2 e
  have nit : ∀ d u',H d = some u' → d ∉ [n + 4,n + 3,n,n + 1]:=fun d u' e' hd => by rw [(hf d (sub d hd)).1] at e'; cases e'
  refine I.step (g':=s.gens) (d':=s.drawn) (t':=tk) (ch:=[n + 4,n + 3,n,n + 1]) (fun c hc' => ?_) (fun c o _ _ hcc e _ => k1 c o hcc e) (fun c o _ _ hcc e _ => ⟨o.slots,k1 c o hcc e⟩) (fun _ _ _ _ n => n)
   (fun c o hcc e => ⟨o,k1 c o hcc e⟩) (fun _ _ e => e) (fun _ _ _ e => e) (fun c ps e => ⟨#[],by rw [e]; simp⟩) (fun m hm => ?_) (fun c u e => ?_) I.bare
  ·obtain ⟨_,a1,_,a3,a4,a5⟩:=hf c (sub c hc')
   exact ⟨a3,a1,a4,a5⟩
  ·obtain ⟨o,es',ep,ho,r⟩:=hm
   exact ⟨o,es',ep,k1 _ o (fun z => (hf _ (sub _ z)).2.1 rfl) ho,r⟩
  ·refine (I.hok c u e).stay (fun d v' hd q => k1 d v' ?_ q) (fun _ q => q) fun _ _ q => q
   rcases hd with z | z
   ·rw [z]; exact nit c u e
   ·exact nit d _ z
 self:=fun _ _ _ _ _ st h => by
  obtain ⟨⟨f0,f1,hz,_⟩,_⟩:=st
  exact zeP hz h
def iZq (Sq1 Sq2 : Hp → Addr → List V → Prop) (ta : TA) : TI:=fun σ H R => ta σ H fun vs H1 => ∃ a b xs ys,vs = [.ref a,.ref b] ∧ Sq1 H1 a xs ∧ Sq2 H1 b ys ∧ R (zhQ Sq1 Sq2 a b) H1
theorem zf4 {X : Cx} {es : List Expr} {k : Nat} {tpos p pos : Pos} {a b : Expr} {ta : TA} (hg : Gl X "zip") (hm : X.mg "zip" = none) (ha : PA X [a,b] ta) (hs : starEach [a,b] X.env = [(false,eval a X.env),(false,eval b X.env)]:=by rfl) (hs2 : starEach [b] X.env = [(false,eval b X.env)]:=by rfl) :
  PI X (.Tuple es k tpos) (.Call (.Name "zip" p) [a,b] [] pos) (iZq (SqT X.K) (SqL X.K) ta):=by
 intro pins s σ H R I h
 refine Call_ (zbb I hg hm boot_zip (PyProof.Rows.callWith_type1 (thn (ha pos pins s σ H _ I h) fun us s1 ⟨vs,H1,I1,r1,q1⟩ => ?_) (by rw [hs,hs2]) (by rw [hs2]; rfl)))
 obtain ⟨l1,l2,xs,ys,e,hq1,hq2,q⟩:=q1
 subst e
 cases r1 with
 | cons r rr =>
  cases rr with
  | cons r' rr =>
   cases rr
   cases r
   cases r'
   obtain ⟨its1,rv1,pl1,hz1⟩:=I1.tuple hq1
   obtain ⟨its2,rv2,pl2,hz2⟩:=I1.list hq2
   have hlt1 : l1 < s1.heap.objs.size:=by obtain ⟨_,e,_⟩:=pl1; exact Heap.lt_size e
   have hlt2 : l2 < s1.heap.objs.size:=by obtain ⟨_,_,e,_⟩:=pl2; exact Heap.lt_size e
   refine zej (show s1.heap.IsTuple l1 its1.toArray from pl1) pl2.isList fun h' n hn b1 b2 b3 b4 b5 b6 kk => ?_
   have I2 : Inv X pins σ H1 { s1 with heap:=h' }:=I1.kept (t':=s1.toks) kk
   refine zeP b1 ?_
   refine ⟨_,zcM n,ziB n l1 l2,zhQ (SqT X.K) (SqL X.K) l1 l2,H1,rfl,I2,zf3 l1 l2 n (by rw [hn]; exact hlt1) (by rw [hn]; exact hlt2),⟨⟨_,_,b1,.inl rfl,_,rfl⟩,b2,⟨_,_,b3⟩,b4,b5⟩,fun c hc => ?_,q⟩
   have hle : s1.heap.objs.size ≤ c:=by
    simp only [zcM,List.mem_cons,List.not_mem_nil,or_false] at hc
    rw [← hn]
    rcases hc with z | z | z | z | z <;> subst z
    all_goals first | exact Nat.le_add_right _ _ | exact Nat.le_refl _
   exact I1.fpOk hle (I1.hok.fresh hle)
end L2
end
section
set_option maxHeartbeats 3999000
namespace L2
open PySem PySem.Spec PyProof.Rows
end L2
end
section
set_option maxHeartbeats 3999000
namespace L2
open PySem PySem.Spec PyProof.Rows
section
variable {prog : Program} {w : World} {A : Around} {h : Heap} {g : Array GenState} {d : Drawn} {tk : Nat} {os : OsState} {K : PySem.W.Frag} {x C : Addr} {E : Value → Shared → Prop}
end
end L2
end
section
set_option maxHeartbeats 3999000
namespace L2
open PySem PySem.Spec PyProof.Rows
end L2
end
section
set_option maxHeartbeats 3999000
namespace L2
open PySem PySem.Spec PyProof.Rows
end L2
end
section
set_option maxHeartbeats 3999000
namespace L2
open PySem PySem.Spec PyProof.Rows
section
variable {P : Program} {w : World} {outer : List Env} {H H' : Hp} {h h' B : Heap} {e C : Addr}
end
section
variable {X : Cx} {σ : St} {H : Hp} {s : Shared} {pins : List (Addr × Obj)}
end
section
variable {P : Program} {w : World} {K : PySem.W.Frag} {mg : Str → Option Value} {base : Heap} {N : List Str} {qual : Str} {scope : Scope} {f : Addr} {cd : Value} {A : Around} {outer : List Env} {s₀ : Shared} {H₀ : Hp} {E : XK}
end
section
variable {X : Cx} {x : Str} {C : Addr} {e : Expr} {te : TE} {np cpos pos : Pos} {E : XK}
end
end L2
end
section
set_option maxHeartbeats 3999000
namespace L2
open PySem PySem.Spec PyProof.Rows
section
variable {X : Cx} {pins : List (Addr × Obj)} {σ : St} {CX : CXT} {k : Nat} {f C : Addr} {fd : FuncData} {ps : List Str} {sp : Sp} {dvs : List V} {ds : List Value} {E : XK} {x m : Str} {p pos apos : Pos} {e o : Expr} {es : List Expr} {ta te : TE} {t : TA}
end
section
variable {X : Cx} {σ : St} {H : Hp} {s : Shared} {pins : List (Addr × Obj)}
end
section
variable {X : Cx} {pins : List (Addr × Obj)} {σ : St} {H : Hp} {s : Shared} {e : Addr}
end
end L2
end
section
set_option maxHeartbeats 3999000
namespace L2
open PySem PySem.Spec PyProof.Rows
section
variable {X : Cx} {x n : Str} {S : Addr} {i : Nat} {body suite : List Stmt} {b₀ : Stmt} {tb : XK → TS} {th : TS} {np hpos pos : Pos}
end
end L2
end
section
set_option maxHeartbeats 3999000
namespace L2
open PySem PySem.Spec PyProof.Rows
section
variable {P : Program} {w : World} {K : PySem.W.Frag} {mg : Str → Option Value} {base : Heap}
end
section
variable {X : Cx} {k : Nat} {f : Addr} {fd : FuncData} {ps : List Str} {sp : Sp} {x : Str} {p pos : Pos} {e : Expr} {es : List Expr} {t : TA}
end
end L2
end
section
set_option maxHeartbeats 3999000
namespace L2
open PySem PySem.Spec PyProof.Rows
section
variable {X : Cx}
end
section
variable {X : Cx} {tg : Expr}
end
end L2
end
section
set_option maxHeartbeats 3999000
namespace L2
open PySem PySem.Spec PyProof.Rows
section
variable {κ : Type} [DecidableEq κ]
end
section
variable {P : Program} {w : World} {H : Hp} {h : Heap} {a : Addr}
end
section
variable {X : Cx} {pins : List (Addr × Obj)} {σ : St} {H : Hp} {s : Shared} {a : Addr} {y v : V} {u r : Value} {o : Option V} {A : Around} {E : Value → Shared → Prop}
end
section
variable {X : Cx} {pins : List (Addr × Obj)} {σ : St} {H : Hp} {s : Shared} {a : Addr} {kvs : List (Key × V)} {k : Key} {u : Value} {A : Around} {E : Value → Shared → Prop}
end
section
variable {X : Cx} {o i e value : Expr} {pos pos' tpos : Pos} {td ty tv : TE}
end
section
variable {X : Cx} {pos : Pos}
end
section
variable {X : Cx} {pins : List (Addr × Obj)} {σ : St} {H : Hp} {s : Shared} {a : Addr} {y d : V} {u r : Value} {o : Option V} {A : Around} {E : Value → Shared → Prop}
end
section
variable {X : Cx} {o e f : Expr} {apos cpos : Pos} {td ty tx : TE}
end
end L2
end
section
set_option maxHeartbeats 3998000
namespace L2
open PySem PySem.Spec PyProof.Rows
end L2
namespace PySem
open PyProof.Rows
section
variable {prog : Program} {w : World} {A : Around} {E : Value → Shared → Prop} {s : Shared}
end
end PySem
namespace L2
open PySem PySem.Spec PyProof.Rows
end L2
end
section
set_option maxHeartbeats 3997000
namespace L2
open PySem PySem.Spec PyProof.Rows
end L2
namespace My
open PySem L2 PyProof.Rows
section
variable {K : PySem.W.Frag}
structure RowAt (K : PySem.W.Frag) (H : Hp) (r : Addr) (n : Nat) (rw : List (Option Int)) : Prop where
 at' : SqL K H r (rw.map enc)
 len : rw.length = n
end
end My
end
section
set_option maxHeartbeats 3999000
namespace L2
open PySem PySem.Spec PyProof.Rows
abbrev TM:=List V → St → Hp → (List V → Hp → Prop) → Prop
abbrev zcc (its : List Value) (nn : Nat) : Obj:={ cls:=.type "list",data:=.seq its.toArray nn }
structure AccAt (Y : Cx) (pins : List (Addr × Obj)) (H : Hp) (s : Shared) (D : Addr) (ys : List V) (its : List Value) (nn : Nat) : Prop where
 fp : zaM Y pins H D
 here : s.heap.get? D = some (zcc its nn)
 vals : zx ys its
 len : ys.length ≤ sizeLine
def zdw (js : List Nat) (σ : St) : Prop:=∀ j ∈ js,∀ v,σ[j]? ≠ some (some v)
def Kp (js : List Nat) (σ σ2 : St) : Prop:=σ2.length = σ.length ∧ ∀ j,j ∉ js → σ2[j]? = σ[j]?
theorem Kp.refl {js : List Nat} {σ : St} : Kp js σ σ:=⟨rfl,fun _ _ => rfl⟩
theorem Kp.set {js : List Nat} {σ σ2 : St} {i : Nat} {v : Option V} (hi : i ∈ js) (h : Kp js σ σ2) : Kp js σ (σ2.set i v):=by
 refine ⟨by rw [List.length_set]; exact h.1,fun j hj => ?_⟩
 rw [List.getElem?_set_ne (fun z => hj (by rw [← z]; exact hi))]
 exact h.2 j hj
def GS (js : List Nat) (g : TG) : Prop:=∀ (σ σ1 : St) (x : V) (H : Hp) (Q : St → Hp → Prop),Kp js σ σ1 → g x σ1 H Q → g x σ1 H fun σ2 H2 => Kp js σ σ2 ∧ Q σ2 H2
theorem zeQ {js : List Nat} {i : Nat} (hi : i ∈ js) : GS js (zbd i):=fun σ σ1 x H Q hw h => ⟨hw.set hi,h⟩
theorem Inv.fewer {X : Cx} {pins pins' : List (Addr × Obj)} {σ : St} {H : Hp} {s : Shared} (I : Inv X pins σ H s) (h : ∀ p ∈ pins',p ∈ pins) : Inv X pins' σ H s :=
 I.pins_of fun p hp => I.pin p (List.mem_append_right _ (h p hp))
section
variable {Y : Cx} {pins : List (Addr × Obj)} {σ : St} {H : Hp} {s : Shared} {D : Addr} {ys : List V} {its : List Value} {nn : Nat}
theorem AccAt.pin (a : AccAt Y pins H s D ys its nn) (I : Inv Y pins σ H s) : Inv Y (pins ++ [(D,zcc its nn)]) σ H s :=
 I.pins_of fun p hp => by
  rcases (List.mem_append.mp hp) with hp | hp
  ·exact I.pin p (List.mem_append_right _ hp)
  ·obtain rfl : p = (D,zcc its nn):=by simpa using hp
   obtain ⟨a0,a1,a2,_⟩:=a.fp
   exact ⟨a.here,a0,a1,a2,fun v z => by cases z⟩
theorem AccAt.back {pins' : List (Addr × Obj)} {σ' : St} {H' : Hp} {s' : Shared} (a : AccAt Y pins H s D ys its nn) (I : Inv Y pins' σ' H' s') (hm : (D,zcc its nn) ∈ pins') : AccAt Y pins H' s' D ys its nn:=by
 have p:=I.pin (D,zcc its nn) (List.mem_append_right _ hm)
 exact ⟨⟨p.2.1,a.fp.2⟩,p.1,a.vals,a.len⟩
end
def PM (Y : Cx) (D : Addr) (js : List Nat) (mk : Sem Fin → Sem Fin) (tm : TM) : Prop :=
 ∀ (last : Sem Fin) (pins : List (Addr × Obj)) (s : Shared) (σ : St) (H : Hp) (ys : List V) (its : List Value) (nn : Nat) (Q : List V → Hp → Prop) (Φ : Fin → Shared → Prop),Inv Y pins σ H s → AccAt Y pins H s D ys its nn → zdw js σ → tm ys σ H Q →
  (∀ (s' : Shared) (ys' : List V) (its' : List Value) (nn' : Nat) (H' : Hp),Inv Y pins σ H' s' → AccAt Y pins H' s' D ys' its' nn' → Q ys' H' → wpAny (model Y.prog Y.w) Y.A last Φ (fun _ _ => False) s') →
  wpAny (model Y.prog Y.w) Y.A (mk last) Φ (fun _ _ => False) s
def zf5 (elt : Expr) (acc : Value) (env : Env) (last : Sem Fin) : Sem Fin:=(eval elt env >>= fun x => call (.builtin "list.append") [acc,x] >>= fun _ => pure ()) >>= fun _ => last
def zeR (e iter : Expr) (d : Nat) (acc : Value) (env : Env) (last : Sem Fin) : Sem Fin :=
 eval iter env >>= fun x => standAt iter.pos >>= fun _ => foldedSetIterable iter env x >>= fun x => holding [x] (pyIter x) >>= fun itv => runOwn (.compStart e d itv acc env) env >>= fun _ => last
def zf6 (te : TE) : TM:=fun ys σ H Q => te σ H fun y H4 => ys.length < sizeLine ∧ Q (ys ++ [y]) H4
def cIn (g : TG) (ts : TT) (tm : TM) (σ : St) (J : It) (Q : List V → Hp → Prop) (ys : List V) (H1 : Hp) : Prop :=
 ∃ W : Nat → Nat → List V → Hp → Prop,(∃ m,W 0 m ys H1) ∧ ∀ i m ys H,W i m ys H →
  (J.stop i H ∧ Q ys H) ∨
  (J.go i H ∧ ∃ N : List V → Hp → Prop,(∀ ys' H',N ys' H' → ∃ m',m' < m ∧ W (i + 1) m' ys' H') ∧ ∀ x H',J.yld i H x H' → g x σ H' fun σ2 H2 => ts σ2 H2 fun b H3 =>
   if b = true then tm ys σ2 H3 N else N ys H3)
def zf7 (wi : TI) (g : TG) (ts : TT) (tm : TM) : TM:=fun ys σ H Q => wi σ H fun J H1 => cIn g ts tm σ J Q ys H1
def zf8 (ix : List (Option Nat)) (wi : TI) (g : TG) (ts : TT) (tm : TM) : TE:=fun σ H Q => wi σ H fun J H1 => cIn g ts tm (zX ix σ) J (fun ys H' => ∀ D,H' D = none → Q (.ref D) (upd H' D (.lst ys))) [] H1
theorem thx {α : Type} {X : Cx} {m : Sem α} {P Q : α → Shared → Prop} {E : Value → Shared → Prop} {s : Shared} (hx : X.xe = fun _ _ => False) (h : wpAny (model X.prog X.w) X.A m P X.xe s) (k : ∀ a s',P a s' → Q a s') : wpAny (model X.prog X.w) X.A m Q E s :=
 wpAny_mono h k fun _ _ z => by rw [hx] at z; exact z.elim
theorem zhR {Y : Cx} {D : Addr} {elt : Expr} {te : TE} (hx : Y.xe = fun _ _ => False) (he : PE Y elt te) : PM Y D [] (zf5 elt (.ref D) Y.env) (zf6 te):=by
 intro last pins s σ H ys its nn Q Φ I a no h k
 unfold zf5
 refine wpAny_bind (wpAny_bind (thx hx (he (pins ++ [(D,zcc its nn)]) s σ H _ (a.pin I) h) fun yv s1 ⟨y,H1,I1,r1,hz,q1⟩ => wpAny_bind ?_))
 have a1:=a.back I1 (List.mem_append_right _ List.mem_cons_self)
 have J1 : Inv Y pins σ H1 s1:=I1.fewer fun p hp => List.mem_append_left _ hp
 have hvl:=a1.vals.length
 refine call_meets F.slot_list_append ⟨_,a1.here,rfl⟩ F.entry_list_append (F.args_list_append_2 _ _) (PySem.list_append D its.toArray nn yv (by rw [List.size_toArray]; omega)) ⟨a1.here,?_⟩
 refine wpAny_pure ?_
 have q:=PySem.IsL.update a1.here (·.push yv)
 have k10 : ∀ b o,b ≠ D → s1.heap.get? b = some o → (s1.heap.update D (Obj.mapSeq (·.push yv))).get? b = some o:=fun b o hb e => (Heap.get?_update_other s1.heap (Obj.mapSeq (·.push yv)) (Ne.symm hb)).trans e
 obtain ⟨b0,b1,b2,b3,b4,b5⟩:=a1.fp
 have I11 : Inv Y pins σ H1 { s1 with heap:=s1.heap.update D (Obj.mapSeq (·.push yv)) }:=J1.turned (t':=s1.toks) k10 b0 b1 b3 b4 b5
 have e1 : its.toArray.push yv = (its ++ [yv]).toArray:=by simp
 rw [e1] at q
 refine k _ (ys ++ [y]) (its ++ [yv]) _ H1 I11 ⟨a1.fp,q,a1.vals.append (.cons r1 .nil),?_⟩ q1
 rw [List.length_append,List.length_singleton]
 omega
section
variable {Y : Cx} {D : Addr} {js js' : List Nat} {elt : Expr} {gens : List Comprehension} {scope : Scope} {pos : Pos} {d : Nat} {tg : Expr} {ifs : List Expr} {p : Pos} {mk : Sem Fin → Sem Fin} {g : TG} {ts : TT} {tm : TM}
def zbE (tg : Expr) (ifs : List Expr) (p : Pos) (mk : Sem Fin → Sem Fin) (c : Code) (it : Value) (env : Env) : Sem Fin :=
 standAt p >>= fun _ => pyNext it >>= fun r => match r with
  | none => pure (.done .next)
  | some v => letOwnedTupleGo tg it v >>= fun _ => assign tg env v >>= fun _ => zdm ifs env >>= fun ok => if ok = true then mk (again c) else again c
theorem zeS (hc : Y.calm = true) (hx : Y.xe = fun _ _ => False) (hgs : GS js g) (hdis : ∀ j ∈ js,j ∉ js') (hg : PG Y tg g) (ht : zcb Y ifs ts) (hm : PM Y D js' mk tm)
  (hturn : ∀ it,compTurn (.ListComp elt gens scope pos) d it (.ref D) Y.env = zbE tg ifs p mk (.compLoop (.ListComp elt gens scope pos) d it (.ref D) Y.env) it Y.env)
  {pins : List (Addr × Obj)} {σ : St} {H2 : Hp} {s2 : Shared} {it : Addr} {fp : List Addr} {tn : Nat → Heap → Prop} {J : It} {Q : List V → Hp → Prop} {R : Result → Shared → Prop} {ys : List V} {its : List Value} {nn : Nat}
  (I2 : Inv Y pins σ H2 s2) (a2 : AccAt Y pins H2 s2 D ys its nn) (no : zdw (js ++ js') σ) (T : Turn Y.prog Y.w Y.K tg J fp it tn) (st2 : tn 0 s2.heap) (f2 : ∀ b ∈ fp,zaM Y pins H2 b) (fD : ∀ b ∈ fp,b ≠ D) (q : cIn g ts tm σ J Q ys H2)
  (hR : ∀ (s' : Shared) (ys' : List V) (its' : List Value) (nn' : Nat) (H' : Hp),Inv Y pins σ H' s' → AccAt Y pins H' s' D ys' its' nn' → Q ys' H' → R (.ok .next) s') :
  codeAny (model Y.prog Y.w) Y.A (.compLoop (.ListComp elt gens scope pos) d (.ref it) (.ref D) Y.env) R s2:=by
 obtain ⟨W,⟨m0,w0⟩,turn⟩:=q
 have fpY : ∀ {H' : Hp} {its : List Value} {nn : Nat},(∀ b ∈ fp,H' b = none) → ∀ b ∈ fp,zaM Y (pins ++ [(D,zcc its nn)]) H' b:=fun {H' its nn} hn b hb => by
  obtain ⟨_,a1,a2,a3,a4,a5⟩:=f2 b hb
  refine ⟨hn b hb,a1,a2,a3,a4,fun p hp => ?_⟩
  rcases (List.mem_append.mp hp) with hp | hp
  ·exact a5 p (List.mem_append_left _ hp)
  ·rcases (List.mem_append.mp hp) with hp | hp
   ·exact a5 p (List.mem_append_right _ hp)
   ·obtain rfl : p = (D,zcc its nn):=by simpa using hp
    exact (fD b hb).symm
 refine codeAny_loop rfl (fun n s' => ∃ i ys H' its nn,Inv Y pins σ H' s' ∧ tn i s'.heap ∧ (∀ b ∈ fp,H' b = none) ∧ AccAt Y pins H' s' D ys its nn ∧ W i n ys H') ?_ m0
  ⟨0,ys,H2,its,nn,I2,st2,fun b hb => (f2 b hb).1,a2,w0⟩
 rintro n s5 ⟨i,ys,H5,its,nn,I5,st5,fr5,a5,w5⟩
 show wpAny _ Y.A ((compTurn (.ListComp elt gens scope pos) d (.ref it) (.ref D) Y.env).onRaise (fun x => do noteFrame x Y.env; theTreesLotGoes x)) _ _ s5
 refine wpAny_noted ?_
 rw [hturn]
 unfold zbE
 have I5p:=a5.pin I5
 (refine wpAny_bind (wpAny_standAt (wpAny_bind ?_)))
 rcases turn i n ys H5 w5 with ⟨stop,qn⟩ | ⟨go,N,hN,step⟩
 ·refine wpAny_mono (T.done Y rfl rfl rfl hc i _ s5 _ H5 (fun _ _ => False) I5p (fpY fr5) st5 stop) (fun r s6 ⟨hr,I6⟩ => ?_) fun _ _ z => z.elim
  subst hr
  exact wpAny_pure (hR s6 ys its nn H5 (I6.fewer fun p hp => List.mem_append_left _ hp) (a5.back I6 (List.mem_append_right _ List.mem_cons_self)) qn)
 ·refine wpAny_mono (T.item Y rfl rfl rfl hc i _ s5 _ H5 (fun _ _ => False) I5p (fpY fr5) st5 go) (fun r s6 ⟨u,hr,h6⟩ => ?_) fun _ _ z => z.elim
  subst hr
  refine wpAny_bind (wpAny_mono h6 (fun _ s7 ⟨x,H7,I7,r7,y7,st7,fr7⟩ => ?_) fun _ _ z => z.elim)
  have I7':=I7.pinned (fpY fr7) (T.obj _ _ st7)
  refine wpAny_bind (thx hx (hg _ s7 _ H7 x u _ I7' r7 (hgs σ σ x H7 _ Kp.refl (step x H7 y7))) fun _ s8 ⟨σ8,H8,I8,kp,q8⟩ => ?_)
  refine wpAny_bind (thx hx (ht _ s8 σ8 H8 _ I8 q8) fun ok s9 ⟨H9,I9,q9⟩ => ?_)
  have mD : (D,zcc its nn) ∈ (pins ++ [(D,zcc its nn)]) ++ za1 fp s7.heap:=List.mem_append_left _ (List.mem_append_right _ List.mem_cons_self)
  have a9:=a5.back I9 mD
  have K9 : Inv Y (pins ++ za1 fp s7.heap) σ8 H9 s9:=I9.fewer fun p hp => (List.mem_append.mp hp).elim (fun z => List.mem_append_left _ (List.mem_append_left _ z)) fun z => List.mem_append_right _ z
  have wk : ∀ (j : Nat) v,σ[j]? = some (some v) → σ8[j]? = some (some v):=fun j v e => by
   have hj : j ∉ js:=fun z => no j (List.mem_append_left _ z) v e
   rw [kp.2 j hj]
   exact e
  have back : ∀ {H' : Hp} {s' : Shared},Inv Y (pins ++ za1 fp s7.heap) σ8 H' s' → Inv Y pins σ H' s' ∧ tn (i + 1) s'.heap ∧ ∀ b ∈ fp,H' b = none:=fun {H' s'} I' => by
   refine ⟨(I'.fewer fun p hp => List.mem_append_left _ hp).weak kp.1.symm wk,T.keep _ _ _ st7 fun b hb o e => (I'.pin (b,o) (List.mem_append_right _ (List.mem_append_right _ (zau hb e)))).1,fun b hb => ?_⟩
   obtain ⟨o,e,d⟩:=T.obj _ _ st7 b hb
   exact (I'.pin (b,o) (List.mem_append_right _ (List.mem_append_right _ (zau hb e)))).2.1
  cases ok with
  | false =>
   rw [if_neg Bool.false_ne_true] at q9 ⊢
   obtain ⟨m',hm',w9⟩:=hN _ _ q9
   obtain ⟨b1,b2,b3⟩:=back K9
   exact wpAny_pure ⟨rfl,m',hm',i + 1,ys,H9,its,nn,b1,b2,b3,a9,w9⟩
  | true =>
   rw [if_pos rfl] at q9 ⊢
   have a9' : AccAt Y (pins ++ za1 fp s7.heap) H9 s9 D ys its nn:=by
    obtain ⟨b0,b1,b2,b3,b4,b5⟩:=a9.fp
    refine ⟨⟨b0,b1,b2,b3,b4,fun p hp => ?_⟩,a9.here,a9.vals,a9.len⟩
    rcases (List.mem_append.mp hp) with hp | hp
    ·exact b5 p (List.mem_append_left _ hp)
    ·rcases (List.mem_append.mp hp) with hp | hp
     ·exact b5 p (List.mem_append_right _ hp)
     ·exact fD _ (zcS hp).1
   have no' : zdw js' σ8:=fun j hj v e => by
    have hj' : j ∉ js:=fun z => hdis j z hj
    rw [kp.2 j hj'] at e
    exact no j (List.mem_append_right _ hj) v e
   refine wpAny_mono (hm (again _) _ s9 σ8 H9 ys its nn N (fun fin s' => match fin with | .done f => R (.ok f) s' | .again c' => c' = _ ∧ ∃ m,m < n ∧ _) K9 a9' no' q9 fun s' ys' its' nn' H' I' a' n' => ?_) (fun _ _ z => z) fun _ _ z => z.elim
   obtain ⟨m',hm',w'⟩:=hN _ _ n'
   obtain ⟨b1,b2,b3⟩:=back I'
   obtain ⟨c0,c1,c2,c3,c4,c5⟩:=a'.fp
   refine wpAny_pure ⟨rfl,m',hm',i + 1,ys',H',its',nn',b1,b2,b3,⟨⟨c0,c1,c2,c3,c4,fun p hp => ?_⟩,a'.here,a'.vals,a'.len⟩,w'⟩
   rcases (List.mem_append.mp hp) with hp | hp
   ·exact c5 p (List.mem_append_left _ hp)
   ·exact c5 p (List.mem_append_right _ (List.mem_append_left _ hp))
theorem zdT {prog : Program} {w : World} {A : Around} {R : Result → Shared → Prop} {s : Shared} {iter : Expr} {it acc : Value} {env : Env} (hd : gens[d]? = some ⟨tg,iter,ifs,0⟩)
  (h0 : codeAny (model prog w) A (.compLoop (.ListComp elt gens scope pos) d it acc env) R s)
  (h : wpAny (model prog w) A (pyIter it) (fun it' s' => codeAny (model prog w) A (.compLoop (.ListComp elt gens scope pos) d it' acc env) R s') (fun _ _ => False) s) :
  codeAny (model prog w) A (.compStart (.ListComp elt gens scope pos) d it acc env) R s:=by
 refine codeAny_of_tree ?_
 show wpAny _ _ ((compStart (.ListComp elt gens scope pos) d it acc env).onRaise (fun x => do noteFrame x env; standAt theWindowsPlace)) _ _ s
 refine wpAny_notedAt ?_
 unfold compStart
 have e1 : (clausesOf (.ListComp elt gens scope pos))[d]? = some ⟨tg,iter,ifs,0⟩:=hd
 rw [e1]
 (show wpAny _ _ (ask >>= _) _ _ s)
 (refine wpAny_bind (wpAny_askSetting (wpAny_ite ?_)))
 split
 ·first
   | (exact wpAny_bind (wpAny_pure (wpAny_pure ⟨rfl,h0⟩)))
   | (exact wpAny_pure ⟨rfl,h0⟩)
 ·first
   | exact wpAny_bind (wpAny_rule (wpAny_bind (wpAny_standAt (wpAny_bind (wpAny_mono h (fun it' s' h' => wpAny_pure (And.intro rfl h')) fun _ _ x => x.elim)))))
   | (refine wpAny_bind (wpAny_rule ?_); show wpAny _ _ (standAt iter.pos >>= _) _ _ s; exact wpAny_bind (wpAny_standAt (wpAny_bind (wpAny_mono h (fun it' s' h' => wpAny_pure (And.intro rfl h')) fun _ _ x => x.elim))))
theorem zhS {iter : Expr} {wi : TI} (hc : Y.calm = true) (hx : Y.xe = fun _ _ => False) (hgs : GS js g) (hdis : ∀ j ∈ js,j ∉ js') (hi : PI Y tg iter wi) (hg : PG Y tg g) (ht : zcb Y ifs ts) (hm : PM Y D js' mk tm) (hd : gens[d]? = some ⟨tg,iter,ifs,0⟩)
  (hturn : ∀ it,compTurn (.ListComp elt gens scope pos) d it (.ref D) Y.env = zbE tg ifs p mk (.compLoop (.ListComp elt gens scope pos) d it (.ref D) Y.env) it Y.env)
  (hs : ∀ x,foldedSetIterable iter Y.env x = pure x:=by intro _; rfl) :
  PM Y D (js ++ js') (zeR (.ListComp elt gens scope pos) iter d (.ref D) Y.env) (zf7 wi g ts tm):=by
 intro last pins s σ H ys its nn Q Φ I a no h k
 unfold zeR
 refine wpAny_bind (thx hx (hi (pins ++ [(D,zcc its nn)]) s σ H _ (a.pin I) h) fun v s1 h1 => wpAny_bind (wpAny_standAt (wpAny_bind ?_)))
 rw [hs v]
 refine wpAny_pure (wpAny_bind (wpAny_holding (thx hx h1 fun itv s2 h2 => ?_)))
 obtain ⟨it,fp,tn,J,H2,e,I2,T,st2,f2,q⟩:=h2
 subst e
 have a2:=a.back I2 (List.mem_append_right _ List.mem_cons_self)
 have J2 : Inv Y pins σ H2 s2:=I2.fewer fun p hp => List.mem_append_left _ hp
 have f2' : ∀ b ∈ fp,zaM Y pins H2 b:=fun b hb => by
  obtain ⟨c0,c1,c2,c3,c4,c5⟩:=f2 b hb
  refine ⟨c0,c1,c2,c3,c4,fun p hp => ?_⟩
  rcases (List.mem_append.mp hp) with hp | hp
  ·exact c5 p (List.mem_append_left _ hp)
  ·exact c5 p (List.mem_append_right _ (List.mem_append_left _ hp))
 have fD : ∀ b ∈ fp,b ≠ D:=fun b hb => ((f2 b hb).2.2.2.2.2 (D,zcc its nn) (List.mem_append_right _ (List.mem_append_right _ List.mem_cons_self))).symm
 have loop : codeAny (model Y.prog Y.w) Y.A (.compLoop (.ListComp elt gens scope pos) d (.ref it) (.ref D) Y.env) (fun r s' => match r with | .ok f => wpAny (model Y.prog Y.w) Y.A last Φ (fun _ _ => False) s' | .error e => cameBackBy (model Y.prog Y.w) Y.A Y.env (fun _ _ => False) e s') s2 :=
  zeS hc hx hgs hdis hg ht hm hturn J2 a2 no T st2 f2' fD q fun s' ys' its' nn' H' I' a' q' => k s' ys' its' nn' H' I' a' q'
 exact wpAny_bind (wpAny_runOwn (zdT hd loop (T.self _ 0 _ _ _ st2 loop)))
end
section
variable {X : Cx} {elt tg iter : Expr} {ifs : List Expr} {gs : List Comprehension} {scope : Scope} {pos : Pos} {N' : List Str} {ix : List (Option Nat)} {js js' : List Nat} {g : TG} {ts : TT} {tm : TM} {mk : Addr → Env → Sem Fin → Sem Fin}
theorem zdU {pins : List (Addr × Obj)} {σ : St} {H2 : Hp} {s2 : Shared} {it : Addr} {fp : List Addr} {tn : Nat → Heap → Prop} {J : It} {Q : VK} {E : Value → Shared → Prop} {RR : Value → Addr → Result → Shared → Prop}
  (SC : CompSc X N' ix scope) (hc : X.calm = true) (hgs : GS js g) (hdis : ∀ j ∈ js,j ∉ js') (hjs : ∀ j ∈ js ++ js',ix[j]? = some none)
  (hg : ∀ s₃ H₃ ex pins,PG (zA X N' scope s₃ H₃ ex pins) tg g) (ht : ∀ s₃ H₃ ex pins,zcb (zA X N' scope s₃ H₃ ex pins) ifs ts) (hm : ∀ s₃ H₃ ex pins D,PM (zA X N' scope s₃ H₃ ex pins) D js' (mk D (zA X N' scope s₃ H₃ ex pins).env) tm)
  (hturn : ∀ it D env,compTurn (.ListComp elt (⟨tg,iter,ifs,0⟩ :: gs) scope pos) 0 it (.ref D) env = zbE tg ifs iter.pos (mk D env) (.compLoop (.ListComp elt (⟨tg,iter,ifs,0⟩ :: gs) scope pos) 0 it (.ref D) env) it env)
  (I2 : Inv X pins σ H2 s2) (T : Turn X.prog X.w X.K tg J fp it tn) (st2 : tn 0 s2.heap) (f2 : ∀ b ∈ fp,zaM X pins H2 b) (q : cIn g ts tm (zX ix σ) J (fun ys H' => ∀ D,H' D = none → Q (.ref D) (upd H' D (.lst ys))) [] H2)
  (hRR : ∀ (D C : Addr) (s' : Shared) (ys : List V) (H' : Hp) (m : Str → Option Value),Inv X pins σ (upd H' D (.lst ys)) s' → zaM X pins (upd H' D (.lst ys)) C → s'.heap.Ns C m → Q (.ref D) (upd H' D (.lst ys)) → RR (.ref D) C (.ok .next) s') :
  wpAny (model X.prog X.w) X.A (newList []) (fun acc s₃ => wpAny (model X.prog X.w) X.A (newFunctionEnv scope X.env.globals (zZ X.env.cells scope.names []) [] X.env.qual none .none (some X.env)) (fun cenv s₄ =>
   codeAny (model X.prog X.w) X.A (.compStart (.ListComp elt (⟨tg,iter,ifs,0⟩ :: gs) scope pos) 0 (.ref it) acc { cenv with scope:=relabel scope X.env }) (RR acc cenv.locals) s₄) E s₃) E s2:=by
 have hfr : ∀ y ∈ scope.names,y.2 = .free → ∃ c,X.env.cells.lookup y.1 = some c:=fun y hy hf => I2.ok.has y.1 (SC.free y hy hf)
 have hcl : ∀ x c,(zZ X.env.cells scope.names []).lookup x = some c → X.env.cells.lookup x = some c:=zaA scope.names [] hfr (fun x c e => by simp at e)
 refine wpAny_newObj_type (wpAny_newFunctionEnv SC.nocell (by intro y hy; simp at hy) (fun h₁ hns₁ hsb₁ => ?_) SC.kind)
 dsimp only at hns₁ hsb₁ ⊢
 have I3 : Inv X pins σ H2 { s2 with heap:=s2.heap.push { cls:=.type "list",dict:=none,data:=.seq ([] : List Value).toArray } }:=I2.kept (t':=s2.toks) fun b o e => Heap.get?_push_of_some _ e
 have hD3 : (s2.heap.push { cls:=.type "list",dict:=none,data:=.seq ([] : List Value).toArray }).get? s2.heap.objs.size = some { cls:=.type "list",dict:=none,data:=.seq ([] : List Value).toArray }:=Heap.get?_push_size _ rfl
 have hst3 : tn 0 (s2.heap.push { cls:=.type "list",dict:=none,data:=.seq ([] : List Value).toArray }):=T.keep _ _ _ st2 fun b hb o e => Heap.get?_push_of_some _ e
 have hsz3 : (s2.heap.push { cls:=.type "list",dict:=none,data:=.seq ([] : List Value).toArray }).objs.size = s2.heap.objs.size + 1:=Heap.size_push _ _
 generalize hh3 : s2.heap.push { cls:=.type "list",dict:=none,data:=.seq ([] : List Value).toArray } = h3 at *
 have hfpO:=T.obj _ _ st2
 have hfpLt : ∀ b ∈ fp,b < s2.heap.objs.size:=fun b hb => by obtain ⟨o,e,_⟩:=hfpO b hb; exact Heap.lt_size e
 have stk : ∀ b ∈ frs X.stack,b = X.env.locals ∨ b ∈ X.fs:=fun b hb => List.mem_cons.mp (I2.stkSub b hb)
 have hDok : zaM X pins H2 s2.heap.objs.size:=I2.fpOk (Nat.le_refl _) I2.fresh
 have exOk : ∀ b ∈ s2.heap.objs.size :: fp,zaM X pins H2 b:=fun b hb => by
  rcases (List.mem_cons.mp hb) with e | hb
  ·rw [e]; exact hDok
  ·exact f2 b hb
 have exLt : ∀ b ∈ s2.heap.objs.size :: fp,b < h3.objs.size:=fun b hb => by
  rw [hsz3]
  rcases (List.mem_cons.mp hb) with e | hb; · rw [e]; exact Nat.lt_succ_self _
  ·exact Nat.lt_succ_of_lt (hfpLt b hb)
 have exStk : ∀ b ∈ s2.heap.objs.size :: fp,b ∉ frs X.stack:=fun b hb z => by
  obtain ⟨_,a1,a2,_⟩:=exOk b hb
  rcases stk b z with e | e
  ·exact a1 e
  ·exact a2 e
 have old : ∀ b o,h3.get? b = some o → h₁.get? b = some o:=fun b o e => hsb₁.extBut b o (Nat.ne_of_lt (Heap.lt_size e)) (Heap.get?_push_of_some _ e)
 let s3 : Shared:={ s2 with heap:=h3 }
 let Y : Cx:=zA X N' scope s3 H2 (s2.heap.objs.size :: fp) pins
 have I3' : Inv X pins σ H2 s3:=I3
 have okY : Y.Ok:=by
  refine ⟨I2.ok.mod,SC.kind,I2.ok.glob,I2.ok.blt,Nat.le_refl _,fun x y c h1 h2 => I2.ok.inj x y c (hcl x c h1) (hcl y c h2),fun x hx => ?_,fun x c z => (by cases z),I2.ok.hd,I2.ok.frames,.inl rfl,fun b hb => ?_,fun b o e => I3'.bs b o e,?_,fun b o e hb => ?_,exStk,I3'.stack,I3'.stkFree⟩
  ·have hx':=za3 (env:=X.env) (names:=scope.names) (x:=x) hx
   rcases hx' with hx' | hx'
   ·exact zaw scope.names [] x (.inr (lookup_mem hx'))
   ·exact absurd rfl (SC.nocell _ (lookup_mem hx'))
  ·exact ⟨Nat.ne_of_lt (exLt b hb),fun x c e => (exOk b hb).2.2.2.2.1 x c (hcl x c e)⟩
  ·exact Nat.le_trans I2.ok.bsz I3'.sz
  ·obtain ⟨_,_,_,a3,_⟩:=exOk b hb
   rcases a3 with z | z
   ·exact I2.ok.noex b o e z
   ·have:=(I2.ok.bs b o e).1
    exact absurd (Nat.lt_of_lt_of_le (Heap.lt_size this) z) (Nat.lt_irrefl _)
 have inv4 : Inv Y [] (zX ix σ) H2 { s3 with heap:=h₁,toks:=s2.toks + ([] : List (Str × Value)).length }:=by
  refine ⟨okY,rfl,I2.bare,Un.kept old,⟨_,hns₁,fun j x v e1 e2 e3 => ?_⟩,fun x c e => ?_,I3'.fresh,fun x c e => I2.freeC x c (hcl x c e),fun p hp => ?_,I3'.hok.kept old,?_⟩
  ·unfold zX at e2
   rw [List.getElem?_map] at e2
   cases hj : ix[j]? with
   | none => rw [hj] at e2; simp at e2
   | some oi =>
    rw [hj] at e2
    cases oi with
    | none => simp at e2
    | some i =>
     obtain ⟨y,h1,h2,h3'⟩:=SC.cap j i hj
     have hxy : y = x:=by
      have e1' : N'[j]? = some x:=e1
      rw [h1] at e1'
      exact Option.some.inj e1'
     subst hxy
     have e2' : (σ[i]?).join = some v:=by simpa using e2
     have e2'' : σ[i]? = some (some v):=by
      cases hs : σ[i]? with
      | none => rw [hs] at e2'; simp at e2'
      | some w => rw [hs] at e2'; simp at e2'; rw [e2']
     obtain ⟨m,hn,hl⟩:=I3'.loc
     have hk:=SC.free (y,.free) (lookup_mem h3') rfl
     have hvis : Vis X.env.scope y:=hk.elim (fun z => .inr (.inl z)) fun z => .inr (.inr z)
     obtain ⟨u,r,l⟩:=hl i y v h2 e2'' hvis
     refine ⟨u,r,.inr ⟨z7 h3',?_⟩⟩
     obtain ⟨c,hcc⟩:=zaw (cs:=X.env.cells) scope.names [] y (.inr (lookup_mem h3'))
     refine ⟨c,hcc,?_⟩
     rcases l with ⟨hk',_⟩ | ⟨_,c',hc',hcell⟩
     ·rcases hk with hk | hk
      ·have hk2 : X.env.kindOf y = some .cell:=hk
       rw [hk2] at hk'; cases hk'
      ·have hk2 : X.env.kindOf y = some .free:=hk
       rw [hk2] at hk'; cases hk'
     ·have:=hcl y c hcc
      rw [hc'] at this
      cases this
      obtain ⟨o,ho,hd⟩:=hcell
      exact ⟨o,old _ _ ho,hd⟩
  ·obtain ⟨v,o,ho,hd⟩:=I3'.cell x c (hcl x c e)
   exact ⟨v,o,old _ _ ho,hd⟩
  ·have hp' : p ∈ X.pn ++ pins:=by
    have : p ∈ (X.pn ++ pins) ++ ([] : List (Addr × Obj)):=hp
    simpa using this
   obtain ⟨a1,a2,a3,a4,a5⟩:=I3'.pin p hp'
   exact ⟨old _ _ a1,a2,Nat.ne_of_lt (Heap.lt_size a1),fun z => (stk _ z).elim a3 a4,a5⟩
  ·unfold zX
   rw [List.length_map]
   exact SC.len.symm
 have fpY : ∀ {H' : Hp},(∀ b ∈ s2.heap.objs.size :: fp,H' b = none) → ∀ b ∈ s2.heap.objs.size :: fp,zaM Y [] H' b:=fun {H'} hn b hb => by
  obtain ⟨_,a1,a2,a3,a4,a5⟩:=exOk b hb
  refine ⟨hn b hb,Nat.ne_of_lt (exLt b hb),exStk b hb,.inl hb,fun x c e => a4 x c (hcl x c e),fun p hp => ?_⟩
  have : p ∈ (X.pn ++ pins) ++ ([] : List (Addr × Obj)):=hp
  exact a5 p (by simpa using this)
 have nn2 : ∀ b ∈ s2.heap.objs.size :: fp,H2 b = none:=fun b hb => (exOk b hb).1
 have noA : zdw (js ++ js') (zX ix σ):=fun j hj v e => by
  unfold zX at e
  rw [List.getElem?_map,hjs j hj] at e
  simp at e
 have loop : ∀ s₅ : Shared,s₅ = { s2 with heap:=h₁,toks:=s2.toks + ([] : List (Str × Value)).length } →
   codeAny (model X.prog X.w) X.A (.compLoop (.ListComp elt (⟨tg,iter,ifs,0⟩ :: gs) scope pos) 0 (.ref it) (.ref s2.heap.objs.size) (compEnvC scope (zZ X.env.cells scope.names []) h3.objs.size X.env)) (RR (.ref s2.heap.objs.size) h3.objs.size) s₅:=by
  rintro s₅ rfl
  refine zeS (Y:=Y) (pins:=[]) (σ:=zX ix σ) (its:=[]) (nn:=0) hc rfl hgs hdis (hg s3 H2 _ pins) (ht s3 H2 _ pins) (hm s3 H2 _ pins s2.heap.objs.size) (fun it => hturn it _ _) inv4 ⟨fpY nn2 _ List.mem_cons_self,old _ _ hD3,.nil,Nat.zero_le _⟩ noA T (T.keep _ _ _ hst3 fun b hb o e => old b o e)
   (fun b hb => fpY nn2 b (List.mem_cons_of_mem _ hb)) (fun b hb => Nat.ne_of_lt (hfpLt b hb)) q fun s6 ys its nn H5 I6 a6 qn => ?_
  have dn5 : H5 s2.heap.objs.size = none:=a6.fp.1
  have I7 : Inv X pins σ H5 s6:=by
   refine I3'.call' (s':=s6) (ch:=s2.heap.objs.size :: fp) I6.os I6.base I6.hok I6.bare fun b hb => ?_
   obtain ⟨_,a1,a2,a3,a4,a5⟩:=exOk b hb
   exact ⟨a3,a1,a4,a5⟩
  have I8 : Inv X pins σ (upd H5 s2.heap.objs.size (.lst ys)) s6:=by
   obtain ⟨_,a1,a2,a3,a4,a5⟩:=hDok
   exact I7.track dn5 I2.sz (Ne.symm a1) a4 a5 ⟨a6.len,its,nn,a6.vals,a6.here⟩
  obtain ⟨mm,hmm,_⟩:=I6.loc
  have dne : h3.objs.size ≠ s2.heap.objs.size:=by rw [hsz3]; exact Nat.succ_ne_self _
  refine hRR _ _ s6 ys H5 mm I8 (I3'.fpOk (H':=upd H5 s2.heap.objs.size (.lst ys)) (Nat.le_refl _) ?_) hmm (qn _ dn5)
  show upd H5 s2.heap.objs.size (.lst ys) h3.objs.size = none
  rw [zn dne]
  exact I6.free
 exact zdT rfl (loop _ rfl) (T.self _ 0 _ _ _ (T.keep _ _ _ hst3 fun b hb o e => old b o e) (loop _ rfl))
theorem zf9 {wi : TI} (SC : CompSc X N' ix scope) (hc : X.calm = true) (hgs : GS js g) (hdis : ∀ j ∈ js,j ∉ js') (hjs : ∀ j ∈ js ++ js',ix[j]? = some none) (hi : PI X tg iter wi)
  (hg : ∀ s₃ H₃ ex pins,PG (zA X N' scope s₃ H₃ ex pins) tg g) (ht : ∀ s₃ H₃ ex pins,zcb (zA X N' scope s₃ H₃ ex pins) ifs ts) (hm : ∀ s₃ H₃ ex pins D,PM (zA X N' scope s₃ H₃ ex pins) D js' (mk D (zA X N' scope s₃ H₃ ex pins).env) tm)
  (hturn : ∀ it D env,compTurn (.ListComp elt (⟨tg,iter,ifs,0⟩ :: gs) scope pos) 0 it (.ref D) env = zbE tg ifs iter.pos (mk D env) (.compLoop (.ListComp elt (⟨tg,iter,ifs,0⟩ :: gs) scope pos) 0 it (.ref D) env) it env)
  (hs : ∀ x,foldedSetIterable iter X.env x = pure x:=by intro _; rfl) : PE X (.ListComp elt (⟨tg,iter,ifs,0⟩ :: gs) scope pos) (zf8 ix wi g ts tm):=by
 intro pins s σ H Q I h
 rw [eval_ListComp]
 have hfr : ∀ y ∈ scope.names,y.2 = .free → ∃ c,X.env.cells.lookup y.1 = some c:=fun y hy hf => I.ok.has y.1 (SC.free y hy hf)
 refine wpAny_comprehension_free (use:=none) rfl hs (zaT hfr) SC.kind SC.names (thn (hi pins s σ H _ I h) fun v s1 h1 => thn h1 fun itv s2 h2 => ?_)
 obtain ⟨it,fp,tn,J,H2,e,I2,T,st2,f2,q⟩:=h2
 subst e
 refine zdU (RR:=fun acc C => compPost (model X.prog X.w) X.A X.xe none (EP X pins σ Q) acc C) SC hc hgs hdis hjs hg ht hm hturn I2 T st2 f2 q ?_
 intro D C s' ys H' m I' fpC hm q'
 refine ⟨m,hm,fun h'' hs'' => ⟨.ref D,_,?_,rfl,q'⟩⟩
 obtain ⟨f0,f1,f2',f3,f4,f5⟩:=fpC
 exact I'.turned (t':=s'.toks) (fun b o hb e => hs''.extBut b o hb e) f0 f1 f3 f4 f5
end
theorem zhT {elt t1 i1 t2 i2 : Expr} {f1 f2 : List Expr} {scope : Scope} {pos : Pos} (it : Value) (D : Addr) (env : Env) : compTurn (.ListComp elt [⟨t1,i1,f1,0⟩,⟨t2,i2,f2,0⟩] scope pos) 0 it (.ref D) env =
  zbE t1 f1 i1.pos (zeR (.ListComp elt [⟨t1,i1,f1,0⟩,⟨t2,i2,f2,0⟩] scope pos) i2 1 (.ref D) env) (.compLoop (.ListComp elt [⟨t1,i1,f1,0⟩,⟨t2,i2,f2,0⟩] scope pos) 0 it (.ref D) env) it env:=by rfl
theorem zhU {elt t1 i1 t2 i2 : Expr} {f1 f2 : List Expr} {scope : Scope} {pos : Pos} (it : Value) (D : Addr) (env : Env) : compTurn (.ListComp elt [⟨t1,i1,f1,0⟩,⟨t2,i2,f2,0⟩] scope pos) 1 it (.ref D) env =
  zbE t2 f2 i2.pos (zf5 elt (.ref D) env) (.compLoop (.ListComp elt [⟨t1,i1,f1,0⟩,⟨t2,i2,f2,0⟩] scope pos) 1 it (.ref D) env) it env:=by rfl
end L2
end
section
set_option maxHeartbeats 3995000
namespace Srt
open PySem PyProof.Rows
section
variable {prog : Program} {w : World} {A : Around} {E : Value → Shared → Prop} {s : Shared} {a₀ : Array Keyed} {κ : SortKind} {val : Keyed → Int}
end
end Srt
end
section
set_option maxHeartbeats 3995000
namespace Srt
open PySem PyProof.Rows
section
variable {prog : Program} {w : World} {A : Around} {E : Value → Shared → Prop} {s : Shared} {a₀ : Array Keyed} {κ : SortKind} {val : Keyed → Int}
end
end Srt
end
section
set_option maxHeartbeats 3995000
namespace Srt
open PySem PyProof.Rows
section
variable {val : Keyed → Int} {T o l l1 l2 r r1 r2 : List Keyed}
end
section
variable {val : Keyed → Int} {T : List Keyed} {a b out : Array Keyed} {ia ib : Nat}
end
end Srt
end
section
set_option maxHeartbeats 3995000
namespace Srt
open PySem PyProof.Rows
section
variable {prog : Program} {w : World} {A : Around} {E : Value → Shared → Prop} {s : Shared} {a₀ : Array Keyed} {κ : SortKind} {val : Keyed → Int}
end
end Srt
end
section
set_option maxHeartbeats 3995000
namespace Srt
open PySem PyProof.Rows
section
variable {val : Keyed → Int} {T o l l1 l2 r r1 r2 : List Keyed}
end
section
variable {val : Keyed → Int} {T : List Keyed} {a b out : Array Keyed} {na nb : Nat}
end
section
variable {prog : Program} {w : World} {A : Around} {E : Value → Shared → Prop} {s : Shared} {a₀ : Array Keyed} {κ : SortKind} {val : Keyed → Int}
end
end Srt
end
section
set_option maxHeartbeats 3995000
namespace Srt
open PySem PyProof.Rows
section
variable {prog : Program} {w : World} {A : Around} {E : Value → Shared → Prop} {s : Shared} {a₀ : Array Keyed} {κ : SortKind} {val : Keyed → Int}
end
end Srt
end
section
set_option maxHeartbeats 3995000
namespace Srt
open PySem PyProof.Rows
section
variable {val : Keyed → Int}
end
section
variable {prog : Program} {w : World} {A : Around} {E : Value → Shared → Prop} {s : Shared} {a₀ : Array Keyed} {κ : SortKind} {val : Keyed → Int}
end
end Srt
end
section
set_option maxHeartbeats 3995000
namespace Srt
open PySem PyProof.Rows
section
variable {prog : Program} {w : World} {A : Around} {E : Value → Shared → Prop} {s : Shared}
end
end Srt
end
section
set_option maxHeartbeats 3994000
namespace PySem
open PyProof.Rows
section
variable {prog : Program} {w : World} {A : Around} {E : Value → Shared → Prop} {s : Shared} {it d : Addr} {i ep : Nat} {es : Array DictEntry}
end
end PySem
end
section
set_option maxHeartbeats 3994000
namespace Srt
open PySem PyProof.Rows
section
variable {prog : Program} {w : World} {A : Around} {E : Value → Shared → Prop} {s : Shared} {κ : SortKind} {val : Keyed → Int}
end
end Srt
end
section
set_option maxHeartbeats 3996000
namespace L2
open PySem PySem.Spec PyProof.Rows PySem.Builtin.Str
end L2
end
section
set_option maxHeartbeats 3996000
namespace L2
open PySem PySem.Spec PyProof.Rows PySem.Builtin.Str
end L2
end
section
set_option maxHeartbeats 3994000
namespace L2
open PySem PySem.Spec PyProof.Rows Srt
section
variable {X : Cx} {pins : List (Addr × Obj)} {σ : St} {H : Hp} {s : Shared} {k : Nat} {B : Int} {ps : List (Addr × List Int)}
end
end L2
end
section
set_option maxHeartbeats 3999000
namespace L2
open PySem PySem.Spec PyProof.Rows
section
variable {X : Cx} {elt t1 i1 t2 i2 : Expr} {f1 f2 : List Expr} {scope : Scope} {pos : Pos} {N' : List Str} {ix : List (Option Nat)} {js1 js2 : List Nat} {g1 g2 : TG} {ts1 ts2 : TT} {te : TE} {wi1 wi2 : TI}
theorem zhV (hc : X.calm = true) (gs2 : GS js2 g2) (hi2 : ∀ s₃ H₃ ex pins,PI (zA X N' scope s₃ H₃ ex pins) t2 i2 wi2)
  (hg2 : ∀ s₃ H₃ ex pins,PG (zA X N' scope s₃ H₃ ex pins) t2 g2) (ht2 : ∀ s₃ H₃ ex pins,zcb (zA X N' scope s₃ H₃ ex pins) f2 ts2) (he : ∀ s₃ H₃ ex pins,PE (zA X N' scope s₃ H₃ ex pins) elt te)
  (hs2 : ∀ s₃ H₃ ex pins x,foldedSetIterable i2 (zA X N' scope s₃ H₃ ex pins).env x = pure x) :
  ∀ s₃ H₃ ex pins D,PM (zA X N' scope s₃ H₃ ex pins) D js2 ((fun D env => zeR (.ListComp elt [⟨t1,i1,f1,0⟩,⟨t2,i2,f2,0⟩] scope pos) i2 1 (.ref D) env) D (zA X N' scope s₃ H₃ ex pins).env) (zf7 wi2 g2 ts2 (zf6 te)):=by
 intro s₃ H₃ ex pins D
 have h:=zhS (Y:=zA X N' scope s₃ H₃ ex pins) (D:=D) (js:=js2) (js':=[]) (elt:=elt) (gens:=[⟨t1,i1,f1,0⟩,⟨t2,i2,f2,0⟩]) (scope:=scope) (pos:=pos) (d:=1) (p:=i2.pos) hc rfl gs2 (fun _ _ z => by cases z) (hi2 s₃ H₃ ex pins) (hg2 s₃ H₃ ex pins) (ht2 s₃ H₃ ex pins) (zhR rfl (he s₃ H₃ ex pins)) rfl (fun it => zhU it D _) (hs2 s₃ H₃ ex pins)
 rw [List.append_nil] at h
 exact h
theorem zgT (SC : CompSc X N' ix scope) (hc : X.calm = true) (gs1 : GS js1 g1) (gs2 : GS js2 g2) (hdis : ∀ j ∈ js1,j ∉ js2) (hjs : ∀ j ∈ js1 ++ js2,ix[j]? = some none) (hi1 : PI X t1 i1 wi1)
  (hg1 : ∀ s₃ H₃ ex pins,PG (zA X N' scope s₃ H₃ ex pins) t1 g1) (ht1 : ∀ s₃ H₃ ex pins,zcb (zA X N' scope s₃ H₃ ex pins) f1 ts1) (hi2 : ∀ s₃ H₃ ex pins,PI (zA X N' scope s₃ H₃ ex pins) t2 i2 wi2)
  (hg2 : ∀ s₃ H₃ ex pins,PG (zA X N' scope s₃ H₃ ex pins) t2 g2) (ht2 : ∀ s₃ H₃ ex pins,zcb (zA X N' scope s₃ H₃ ex pins) f2 ts2) (he : ∀ s₃ H₃ ex pins,PE (zA X N' scope s₃ H₃ ex pins) elt te)
  (hs : ∀ x,foldedSetIterable i1 X.env x = pure x:=by intro _; rfl) (hs2 : ∀ s₃ H₃ ex pins x,foldedSetIterable i2 (zA X N' scope s₃ H₃ ex pins).env x = pure x:=by intros; rfl) :
  PE X (.ListComp elt [⟨t1,i1,f1,0⟩,⟨t2,i2,f2,0⟩] scope pos) (zf8 ix wi1 g1 ts1 (zf7 wi2 g2 ts2 (zf6 te))) :=
 zf9 SC hc gs1 hdis hjs hi1 hg1 ht1 (zhV hc gs2 hi2 hg2 ht2 he hs2) (fun it D env => zhT it D env) hs
end
theorem zhj {J : It} {n : Nat} {g : TG} {ts : TT} {tm : TM} {σ0 : St} {Q : List V → Hp → Prop} {ys : List V} {H : Hp} (Pv : Nat → List V → Hp → Prop) (h0 : Pv 0 ys H) (hgo : ∀ i ys H,i < n → Pv i ys H → J.go i H) (hst : ∀ ys H,Pv n ys H → J.stop n H)
  (hs : ∀ i x ys H H',i < n → Pv i ys H → J.yld i H x H' → g x σ0 H' fun σ2 H2 => ts σ2 H2 fun b H3 => if b = true then tm ys σ2 H3 (Pv (i + 1)) else Pv (i + 1) ys H3)
  (hd : ∀ ys H,Pv n ys H → Q ys H) : cIn g ts tm σ0 J Q ys H:=by
 refine ⟨fun i m ys H => m = n - i ∧ i ≤ n ∧ Pv i ys H,⟨n,by simp,Nat.zero_le _,h0⟩,?_⟩
 rintro i m ys H ⟨rfl,hi,p⟩
 by_cases hlt : i < n
 ·exact .inr ⟨hgo i ys H hlt p,Pv (i + 1),fun ys' H' p' => ⟨n - (i + 1),by omega,rfl,hlt,p'⟩,fun x H' y => hs i x ys H H' hlt p y⟩
 ·have e : i = n:=by omega
  subst e
  exact .inl ⟨hst ys H p,hd ys H p⟩
end L2
end
section
set_option maxHeartbeats 3999000
namespace L2
open PySem PySem.Spec PyProof.Rows
section
variable {X : Cx} {x : Str} {S : Addr} {body suite : List Stmt} {b₀ : Stmt} {tb : XK → TS} {th : TS} {np hpos pos : Pos}
end
end L2
end
section
namespace L2
open PySem PySem.Spec PyProof.Rows
def zhW (sc : Scope) (x : Str) : Bool:=match sc.names.lookup x with
 | some .local => true
 | some .cell => true
 | some .free => true
 | _ => false
theorem zgU {sc : Scope} {x : Str} (h : zhW sc x = true) : Vis sc x:=by
 unfold zhW at h
 unfold Vis
 cases e : sc.names.lookup x with
 | none => rw [e] at h; cases h
 | some k => cases k <;> simp_all
def pvB (N : List Str) (sc : Scope) (i : Nat) (x : Str) : Bool:=decide (N[i]? = some x) && zhW sc x && !(x == ("__debug__" : Str)) && !(x == ("__classdict__" : Str))
theorem pvx {X : Cx} (i : Nat) {x : Str} {pos : Pos} (h : pvB X.N X.env.scope i x = true) : PE X (.Name x pos) (zh9 i):=by
 unfold pvB at h
 simp only [Bool.and_eq_true,Bool.not_eq_true',decide_eq_true_eq] at h
 exact zhq h.1.1.1 (zgU h.1.1.2) h.1.2 h.2
end L2
end
section
set_option maxHeartbeats 3999000
namespace My
open PySem L2 PyProof.Rows
theorem Paired.get {α β : Type} {F : α → β → Prop} : ∀ {l₁ : List α} {l₂ : List β},Paired F l₁ l₂ → ∀ {i : Nat} {a : α},l₁[i]? = some a → ∃ b,l₂[i]? = some b ∧ F a b
 | _,_,.nil,i,a,h => by simp at h
 | _,_,.cons r t,0,a,h => by
  (simp only [List.getElem?_cons_zero,Option.some.injEq] at h)
  subst h
  exact ⟨_,rfl,r⟩
 | _,_,.cons r t,i + 1,a,h => by
  rw [List.getElem?_cons_succ] at h
  obtain ⟨b,hb,f⟩:=Paired.get t h
  exact ⟨b,by rw [List.getElem?_cons_succ]; exact hb,f⟩
end My
end
section
set_option maxHeartbeats 3999000
namespace My
open PySem L2 PyProof.Rows
def quo (p r : Int) : List Int → List Int
 | [] => []
 | [_] => []
 | _ :: d :: cs => ze p r (d :: cs) :: quo p r (d :: cs)
theorem zeT (p r : Int) : ∀ (c : Int) (cs : List Int),(quo p r (c :: cs)).length = cs.length
 | _,[] => rfl
 | _,d :: cs => by
  show (quo p r (d :: cs)).length + 1 = cs.length + 1
  rw [zeT p r d cs]
theorem zga {p r x : Int} : ∀ d : List Int,Cg p (ze p x d - ze p r d) ((x - r) * ze p x (quo p r d))
 | [] => Cg.of_eq (by show (0 : Int) - 0 = (x - r) * 0; omega)
 | [c] => by
  have h1 : Cg p (ze p x [c]) (c + x * 0):=zw p x c []
  have h2 : Cg p (ze p r [c]) (c + r * 0):=zw p r c []
  refine (h1.sub h2).trans (Cg.of_eq ?_)
  show c + x * 0 - (c + r * 0) = (x - r) * 0
  omega
 | c :: d :: cs => by
  have h1:=zw p x c (d :: cs)
  have h2:=zw p r c (d :: cs)
  have ih:=zga (p:=p) (r:=r) (x:=x) (d :: cs)
  have h3 : Cg p (ze p x (quo p r (c :: d :: cs))) (ze p r (d :: cs) + x * ze p x (quo p r (d :: cs))):=zw p x _ _
  have h4:=(Cg.refl p (x - r)).mul h3
  have h5:=(Cg.refl p x).mul ih
  refine (h1.sub h2).trans (Cg.symm (h4.trans ?_))
  refine (Cg.of_eq (show _ = (x - r) * ze p r (d :: cs) + x * ((x - r) * ze p x (quo p r (d :: cs))) by grind)).trans ?_
  refine ((Cg.refl p ((x - r) * ze p r (d :: cs))).add h5.symm).trans (Cg.of_eq (by grind))
theorem zdV {p r : Int} : ∀ d : List Int,Cg p (ze p r d) 0 → (∀ c ∈ quo p r d,Cg p c 0) → ∀ c ∈ d,Cg p c 0
 | [],_,_,c,hc => by cases hc
 | [a],h,_,c,hc => by
  obtain rfl : c = a:=by simpa using hc
  have h1 : Cg p (ze p r [c]) (c + r * 0):=zw p r c []
  exact ((Cg.of_eq (by omega)).trans h1.symm).trans h
 | a :: d :: cs,h,hq,c,hc => by
  have h0 : Cg p (ze p r (d :: cs)) 0:=hq _ List.mem_cons_self
  rcases (List.mem_cons.mp hc) with rfl | hc
  ·have h1:=zw p r c (d :: cs)
   have h2:=(Cg.refl p r).mul h0
   have h3:=(h1.symm.trans h).sub h2
   exact (Cg.of_eq (by omega)).trans (h3.trans (Cg.of_eq (by omega)))
  ·exact zdV (d :: cs) h0 (fun c hc => hq c (List.mem_cons_of_mem _ hc)) c hc
theorem zda {p a y : Int} (hp : p ∈ zl) (ha0 : a % p ≠ 0) (h : Cg p (a * y) 0) : Cg p y 0:=by
 have rp:=zk hp
 have g0:=Int.emod_nonneg a (show p ≠ 0 by omega)
 have g1:=Int.emod_lt_of_pos a (show 0 < p by omega)
 have hi:=zdr hp (h:=a % p) (by omega) g1
 have h1 : Cg p (inv p (a % p) * (a % p) * y) (1 * y):=hi.mul (Cg.refl p y)
 have h2 : Cg p (inv p (a % p) * (a % p) * y) (inv p (a % p) * (a * y)):=by
  have:=((Cg.refl p (inv p (a % p))).mul (Cg.emod p a)).mul (Cg.refl p y)
  exact this.trans (Cg.of_eq (by grind))
 have h3:=(Cg.refl p (inv p (a % p))).mul h
 exact (Cg.of_eq (by omega)).trans (h1.symm.trans (h2.trans (h3.trans (Cg.of_eq (by omega)))))
theorem za5 {p : Int} (hp : p ∈ zl) : ∀ (n : Nat) (d xs : List Int),d.length = n → n ≤ xs.length → xs.Nodup → (∀ x ∈ xs,0 ≤ x ∧ x < p) → (∀ x ∈ xs,Cg p (ze p x d) 0) → ∀ c ∈ d,Cg p c 0
 | 0,d,xs,hd,_,_,_,_,c,hc => by
  rw [List.length_eq_zero_iff] at hd
  subst hd
  cases hc
 | n + 1,d,[],hd,hx,_,_,_,c,hc => by simp at hx
 | n + 1,[],r :: xs,hd,hx,_,_,_,c,hc => by cases hc
 | n + 1,a :: cs,r :: xs,hd,hx,hnd,hrg,hz,c,hc => by
  have rp:=zk hp
  obtain ⟨r0,r1⟩:=hrg r List.mem_cons_self
  have hr:=hz r List.mem_cons_self
  refine zdV (a :: cs) hr (za5 hp n (quo p r (a :: cs)) xs (by rw [zeT]; simpa using hd) (by simpa using hx) (List.nodup_cons.mp hnd).2 (fun x h => hrg x (List.mem_cons_of_mem _ h)) fun x h => ?_) c hc
  obtain ⟨x0,x1⟩:=hrg x (List.mem_cons_of_mem _ h)
  have hne : x ≠ r:=fun e => (List.nodup_cons.mp hnd).1 (e ▸ h)
  have he:=zga (p:=p) (r:=r) (x:=x) (a :: cs)
  have h0:=(hz x (List.mem_cons_of_mem _ h)).sub hr
  refine zda hp (a:=x - r) (fun e => ?_) (he.symm.trans (h0.trans (Cg.of_eq (by omega))))
  have : Cg p x r:=by
   have h1 : Cg p (x - r) 0:=Cg.of_mod (by rw [e]; simp)
   have h2:=h1.add (Cg.refl p r)
   exact (Cg.of_eq (by omega)).trans (h2.trans (Cg.of_eq (by omega)))
  exact hne (this.eq x0 x1 r0 r1)
theorem zbM {p x : Int} : ∀ {a b : List Int},a.length = b.length → Cg p (ze p x (List.zipWith (· - ·) a b)) (ze p x a - ze p x b)
 | [],[],_ => Cg.of_eq rfl
 | c :: a,d :: b,h => by
  have ih:=zbM (p:=p) (x:=x) (a:=a) (b:=b) (by simpa using h)
  have h1:=zw p x c a
  have h2:=zw p x d b
  have h3 : Cg p (ze p x (List.zipWith (· - ·) (c :: a) (d :: b))) (c - d + x * ze p x (List.zipWith (· - ·) a b)):=zw p x (c - d) _
  refine h3.trans (((Cg.refl p (c - d)).add ((Cg.refl p x).mul ih)).trans (Cg.symm ((h1.sub h2).trans (Cg.of_eq (by grind)))))
 | [],_ :: _,h => by simp at h
 | _ :: _,[],h => by simp at h
theorem zdW {p : Int} : ∀ {a b : List Int},a.length = b.length → (∀ c ∈ a,0 ≤ c ∧ c < p) → (∀ c ∈ b,0 ≤ c ∧ c < p) → (∀ c ∈ List.zipWith (· - ·) a b,Cg p c 0) → a = b
 | [],[],_,_,_,_ => rfl
 | c :: a,d :: b,h,ha,hb,hz => by
  obtain ⟨c0,c1⟩:=ha c List.mem_cons_self
  obtain ⟨d0,d1⟩:=hb d List.mem_cons_self
  have h1 : Cg p (c - d) 0:=hz _ List.mem_cons_self
  have h2 : Cg p c d:=(Cg.of_eq (by omega)).trans ((h1.add (Cg.refl p d)).trans (Cg.of_eq (by omega)))
  rw [h2.eq c0 c1 d0 d1,zdW (by simpa using h) (fun c hc => ha c (List.mem_cons_of_mem _ hc)) (fun c hc => hb c (List.mem_cons_of_mem _ hc)) (fun c hc => hz c (List.mem_cons_of_mem _ hc))]
 | [],_ :: _,h,_,_,_ => by simp at h
 | _ :: _,[],h,_,_,_ => by simp at h
theorem zdX {p : Int} (hp : p ∈ zl) {a b xs : List Int} (hl : a.length = b.length) (hx : a.length ≤ xs.length) (hnd : xs.Nodup) (hrg : ∀ x ∈ xs,0 ≤ x ∧ x < p) (ha : ∀ c ∈ a,0 ≤ c ∧ c < p) (hb : ∀ c ∈ b,0 ≤ c ∧ c < p)
  (he : ∀ x ∈ xs,ze p x a = ze p x b) : a = b:=by
 refine zdW hl ha hb (za5 hp a.length _ xs (by rw [List.length_zipWith]; omega) hx hnd hrg fun x h => ?_)
 refine (zbM hl).trans (Cg.of_eq ?_)
 rw [he x h]
 omega
theorem zgb {p : Int} (hp : p ∈ zl) {pk : List (Int × Int)} (hP : Pts p pk) {q : List Int} (hl : q.length = pk.length) (hq : ∀ c ∈ q,0 ≤ c ∧ c < p) (hh : ∀ a ∈ pk,ze p a.1 q = a.2) : q = thr p pk:=by
 obtain ⟨h1,h2,h3⟩:=zds hp hP
 refine zdX hp (xs:=pk.map (·.1)) (by omega) (by rw [List.length_map]; omega) hP.nd (fun x hx => ?_) hq h2 fun x hx => ?_
 ·obtain ⟨a,ha,rfl⟩:=List.mem_map.mp hx
  exact ⟨(hP.rg a ha).1,(hP.rg a ha).2.1⟩
 ·obtain ⟨a,ha,rfl⟩:=List.mem_map.mp hx
  rw [hh a ha,h3 a ha]
def IsP (p : Int) (k : Nat) (q : List Int) : Prop:=q.length = k ∧ ∀ c ∈ q,0 ≤ c ∧ c < p
def hps : List Int → List (Option Int) → List (Int × Int)
 | x :: pl,some y :: rw => (x,y) :: hps pl rw
 | _ :: pl,none :: rw => hps pl rw
 | _,_ => []
theorem zdY : ∀ {pl : List Int} {rw : List (Option Int)} {i : Nat} {x : Int} {o : Option Int},pl[i]? = some x → rw[i]? = some o → hps (pl.take (i + 1)) (rw.take (i + 1)) = hps (pl.take i) (rw.take i) ++ (match o with | some y => [(x,y)] | none => [])
 | [],_,i,x,o,h,_ => by simp at h
 | _ :: _,[],i,x,o,_,h => by simp at h
 | a :: pl,b :: rw,0,x,o,h1,h2 => by
  simp only [List.getElem?_cons_zero,Option.some.injEq] at h1 h2
  subst h1 h2
  cases b <;> rfl
 | a :: pl,b :: rw,i + 1,x,o,h1,h2 => by
  rw [List.getElem?_cons_succ] at h1 h2
  have ih:=zdY h1 h2
  cases b with
  | none => exact ih
  | some y =>
   show (a,y) :: hps (pl.take (i + 1)) (rw.take (i + 1)) = (a,y) :: hps (pl.take i) (rw.take i) ++ _
   rw [ih]
   rfl
theorem zcf : ∀ (pl : List Int) (rw : List (Option Int)),(hps pl rw).length ≤ pl.length
 | [],rw => by unfold hps; simp
 | a :: pl,[] => by unfold hps; simp
 | a :: pl,none :: rw => by
  have:=zcf pl rw
  show (hps pl rw).length ≤ pl.length + 1
  omega
 | a :: pl,some y :: rw => by
  have:=zcf pl rw
  show (hps pl rw).length + 1 ≤ pl.length + 1
  omega
theorem zbs : ∀ {pl : List Int} {rw : List (Option Int)} {a : Int × Int},a ∈ hps pl rw → a.1 ∈ pl ∧ some a.2 ∈ rw
 | [],_,a,h => by unfold hps at h; cases h
 | _ :: _,[],a,h => by unfold hps at h; cases h
 | x :: pl,none :: rw,a,h => by
  obtain ⟨h1,h2⟩:=zbs (pl:=pl) (rw:=rw) h
  exact ⟨List.mem_cons_of_mem _ h1,List.mem_cons_of_mem _ h2⟩
 | x :: pl,some y :: rw,a,h => by
  rcases (List.mem_cons.mp h) with rfl | h
  ·exact ⟨List.mem_cons_self,List.mem_cons_self⟩
  ·obtain ⟨h1,h2⟩:=zbs (pl:=pl) (rw:=rw) h
   exact ⟨List.mem_cons_of_mem _ h1,List.mem_cons_of_mem _ h2⟩
theorem zdx : ∀ (pl : List Int) (rw : List (Option Int)),((hps pl rw).map (·.1)).Sublist pl
 | [],_ => by unfold hps; exact List.nil_sublist _
 | _ :: _,[] => by unfold hps; exact List.nil_sublist _
 | x :: pl,none :: rw => (zdx pl rw).cons _
 | x :: pl,some y :: rw => (zdx pl rw).cons_cons _
theorem zgV {p : Int} {pl : List Int} {rw : List (Option Int)} (h1 : pl.Nodup) (h2 : ∀ x ∈ pl,0 ≤ x ∧ x < p) (h3 : ∀ z,some z ∈ rw → 0 ≤ z ∧ z < p) : Pts p (hps pl rw) :=
 ⟨(zdx pl rw).nodup h1,fun q hq => ⟨(h2 _ (zbs hq).1).1,(h2 _ (zbs hq).1).2,(h3 _ (zbs hq).2).1,(h3 _ (zbs hq).2).2⟩⟩
end My
end
section
set_option maxHeartbeats 3999000
namespace My
open PySem L2 PyProof.Rows
def sm : Nat → (Nat → Int) → Int
 | 0,_ => 0
 | n + 1,f => sm n f + f n
theorem zU {f g : Nat → Int} : ∀ {n : Nat},(∀ i,i < n → f i = g i) → sm n f = sm n g
 | 0,_ => rfl
 | n + 1,h => by
  show sm n f + f n = sm n g + g n
  rw [zU (n:=n) fun i hi => h i (by omega),h n (by omega)]
theorem zdb {p : Int} {f g : Nat → Int} : ∀ {n : Nat},(∀ i,i < n → Cg p (f i) (g i)) → Cg p (sm n f) (sm n g)
 | 0,_ => Cg.refl _ _
 | n + 1,h => (zdb (n:=n) fun i hi => h i (by omega)).add (h n (by omega))
theorem zek {f g : Nat → Int} : ∀ n : Nat,sm n (fun i => f i + g i) = sm n f + sm n g
 | 0 => rfl
 | n + 1 => by
  show sm n (fun i => f i + g i) + (f n + g n) = sm n f + f n + (sm n g + g n)
  rw [zek n]
  omega
theorem za6 {c : Int} {f : Nat → Int} : ∀ n : Nat,sm n (fun i => c * f i) = c * sm n f
 | 0 => by show (0 : Int) = c * 0; omega
 | n + 1 => by
  show sm n (fun i => c * f i) + c * f n = c * (sm n f + f n)
  rw [za6 n,Int.mul_add]
theorem zaH {f : Nat → Int} : ∀ {n : Nat},(∀ i,i < n → f i = 0) → sm n f = 0
 | 0,_ => rfl
 | n + 1,h => by
  show sm n f + f n = 0
  rw [zaH (n:=n) fun i hi => h i (by omega),h n (by omega)]
  rfl
theorem zel {f : Nat → Int} {j : Nat} : ∀ {n : Nat},j < n → (∀ i,i < n → i ≠ j → f i = 0) → sm n f = f j
 | 0,hj,_ => by omega
 | n + 1,hj,h => by
  show sm n f + f n = f j
  by_cases e : j = n
  ·subst e
   rw [zaH fun i hi => h i (by omega) (by omega)]
   omega
  ·rw [zel (n:=n) (by omega) fun i hi hne => h i (by omega) hne,h n (by omega) (by omega)]
   omega
theorem zeU {f : Nat → Int} : ∀ n : Nat,sm (n + 1) f = f 0 + sm n (fun i => f (i + 1))
 | 0 => by show (0 : Int) + f 0 = f 0 + 0; omega
 | n + 1 => by
  show sm (n + 1) f + f (n + 1) = f 0 + (sm n (fun i => f (i + 1)) + f (n + 1))
  rw [zeU n]
  omega
theorem zdy {f : Nat → Nat → Int} (m : Nat) : ∀ n : Nat,sm n (fun i => sm m (fun j => f i j)) = sm m (fun j => sm n fun i => f i j)
 | 0 => (zaH fun _ _ => rfl).symm
 | n + 1 => by
  show sm n (fun i => sm m (fun j => f i j)) + sm m (fun j => f n j) = sm m (fun j => sm n (fun i => f i j) + f n j)
  rw [zdy m n,← zek]
theorem zeV {f : Nat → Int} {m : Nat} : ∀ {n : Nat},m ≤ n → (∀ i,m ≤ i → i < n → f i = 0) → sm n f = sm m f
 | 0,h,_ => by rw [show m = 0 by omega]
 | n + 1,h,hz => by
  by_cases e : m = n + 1
  ·rw [e]
  ·show sm n f + f n = _
   rw [zeV (n:=n) (by omega) fun i h1 h2 => hz i h1 (by omega),hz n (by omega) (by omega)]
   omega
def gl (w : List Int) (y : Nat) : Int:=w.getD y 0
theorem zaO {w : List Int} {y : Nat} {c : Int} (h : w[y]? = some c) : gl w y = c:=by
 unfold gl
 rw [List.getD_eq_getElem?_getD,h]
 rfl
theorem zac {w : List Int} {y : Nat} (h : w.length ≤ y) : gl w y = 0:=by
 unfold gl
 rw [List.getD_eq_getElem?_getD,List.getElem?_eq_none h]
 rfl
theorem zad {w : List Int} {y : Nat} (h : y < w.length) : w[y]? = some (gl w y):=by
 rw [List.getElem?_eq_getElem h,zaO (List.getElem?_eq_getElem h)]
theorem zbU {w : List Int} {p : Int} (hp : 0 < p) (h : ∀ c ∈ w,0 ≤ c ∧ c < p) (y : Nat) : 0 ≤ gl w y ∧ gl w y < p:=by
 by_cases hy : y < w.length
 ·exact h _ (List.mem_of_getElem? (zad hy))
 ·rw [zac (by omega)]
  omega
theorem zgc {f : Int → Int} {w : List Int} {y : Nat} (h : y < w.length) : gl (w.map f) y = f (gl w y):=zaO (by rw [List.getElem?_map,zad h]; rfl)
theorem zhX {f : Int → Int → Int} {v w : List Int} {y : Nat} (h : y < v.length) (h' : y < w.length) : gl (List.zipWith f v w) y = f (gl v y) (gl w y):=zaO (by rw [List.getElem?_zipWith,zad h,zad h'])
theorem zeW {p x : Int} : ∀ q : List Int,Cg p (ze p x q) (sm q.length fun i => gl q i * x ^ i)
 | [] => Cg.refl _ _
 | c :: q => by
  refine (zw p x c q).trans ?_
  rw [List.length_cons,zeU]
  have e : sm q.length (fun i => gl (c :: q) (i + 1) * x ^ (i + 1)) = x * sm q.length (fun i => gl q i * x ^ i):=by
   rw [← za6]
   refine zU fun i _ => ?_
   show gl q i * x ^ (i + 1) = _
   rw [Int.pow_succ]
   grind
  rw [e]
  refine Cg.add (Cg.of_eq ?_) ((Cg.refl p x).mul (zeW q))
  show c = c * x ^ 0
  rw [Int.pow_zero,Int.mul_one]
theorem zao {p x : Int} {q : List Int} {n : Nat} (h : q.length ≤ n) : Cg p (ze p x q) (sm n fun i => gl q i * x ^ i):=by
 rw [zeV h fun i h1 _ => by rw [zac h1,Int.zero_mul]]
 exact zeW q
def vx (vs : List (List Int)) (i x : Nat) : Int:=gl (vs.getD i []) x
def Rel (p : Int) (L N : Nat) (vs : List (List Int)) (u : Nat → Int) : Prop:=∀ x,x < L → Cg p (u x) (sm N fun i => u (L + i) * vx vs i x)
theorem Rel.sub {p : Int} {L N : Nat} {vs : List (List Int)} {u w r : Nat → Int} (hu : Rel p L N vs u) (hw : Rel p L N vs w) (t : Int) (hr : ∀ y,y < L + N → Cg p (r y) (u y - t * w y)) : Rel p L N vs r:=fun x hx => by
 refine (hr x (by omega)).trans (((hu x hx).sub ((Cg.refl p t).mul (hw x hx))).trans ?_)
 have e : sm N (fun i => u (L + i) * vx vs i x) - t * sm N (fun i => w (L + i) * vx vs i x) = sm N (fun i => (u (L + i) - t * w (L + i)) * vx vs i x):=by
  rw [show ∀ a b : Int,a - t * b = a + (-t) * b by intros; grind,← za6,← zek]
  exact zU fun i _ => by grind
 rw [e]
 exact zdb fun i hi => (hr (L + i) (by omega)).symm.mul (Cg.refl _ _)
structure Ech (p : Int) (L N m : Nat) (vs : List (List Int)) (cl : List (Nat × List Int)) : Prop where
 ln : cl.length = m
 one : ∀ (j : Nat) (a : Nat × List Int),cl[j]? = some a → a.1 < L ∧ a.2.length = L + N ∧ (∀ c ∈ a.2,0 ≤ c ∧ c < p) ∧ Rel p L N vs (gl a.2) ∧ gl a.2 a.1 = 1 ∧ ∀ i,j < i → i < N → gl a.2 (L + i) = 0
 up : ∀ (j j' : Nat) (a a' : Nat × List Int),cl[j]? = some a → cl[j']? = some a' → j < j' → gl a'.2 a.1 = 0
 ii : ∀ u : Nat → Int,Rel p L N vs u → (∀ i,m ≤ i → i < N → Cg p (u (L + i)) 0) → (∀ a ∈ cl,Cg p (u a.1) 0) → ∀ i,i < N → Cg p (u (L + i)) 0
theorem Ech.start (p : Int) (L N : Nat) (vs : List (List Int)) : Ech p L N 0 vs [] where
 ln:=rfl
 one:=fun _ _ h => by simp at h
 up:=fun _ _ _ _ h => by simp at h
 ii:=fun u _ h _ i hi => h i (Nat.zero_le _) hi
structure Wh (p : Int) (L N m : Nat) (vs : List (List Int)) (cl : List (Nat × List Int)) (w : List Int) : Prop where
 ln : w.length = L + N
 rg : ∀ c ∈ w,0 ≤ c ∧ c < p
 rel : Rel p L N vs (gl w)
 top : gl w (L + m) = 1
 up : ∀ j,m < j → j < N → gl w (L + j) = 0
 z : ∀ a ∈ cl,gl w a.1 = 0
theorem zgd {p : Int} (hp : p ∈ zl) {L N m : Nat} {vs : List (List Int)} {v : List Int} (hm : m < N) (hv : vs[m]? = some v) (hl : v.length = L) (hr : ∀ c ∈ v,0 ≤ c ∧ c < p) : Wh p L N m vs [] ((v ++ List.replicate N 0).set (L + m) 1):=by
 have rp:=zk hp
 have hlow : ∀ y,y < L → gl ((v ++ List.replicate N 0).set (L + m) 1) y = gl v y:=fun y hy => zaO (by
  rw [List.getElem?_set_ne (by omega),List.getElem?_append_left (by omega),zad (by omega)])
 have htop : gl ((v ++ List.replicate N 0).set (L + m) 1) (L + m) = 1:=zaO (by
  rw [List.getElem?_set_self (by rw [List.length_append,List.length_replicate]; omega)])
 have hz : ∀ j,j < N → j ≠ m → gl ((v ++ List.replicate N 0).set (L + m) 1) (L + j) = 0:=fun j hj hne => zaO (by
  rw [List.getElem?_set_ne (by omega),List.getElem?_append_right (by omega),List.getElem?_replicate]
  rw [if_pos (by omega)])
 refine ⟨by rw [List.length_set,List.length_append,List.length_replicate,hl],fun c hc => ?_,fun x hx => ?_,htop,fun j h1 h2 => hz j h2 (by omega),fun a ha => by cases ha⟩
 ·rcases List.mem_or_eq_of_mem_set hc with h | rfl
  ·rcases (List.mem_append.mp h) with h | h
   ·exact hr c h
   ·rw [List.eq_of_mem_replicate h]; omega
  ·omega
 ·rw [hlow x hx,zel (j:=m) hm fun i hi hne => by rw [hz i hi hne,Int.zero_mul],htop,Int.one_mul]
  unfold vx
  rw [List.getD_eq_getElem?_getD,hv]
  exact Cg.refl _ _
theorem zgW {p : Int} (hp : p ∈ zl) {L N m i : Nat} {vs : List (List Int)} {cl : List (Nat × List Int)} {w : List Int} {a : Nat × List Int} (E : Ech p L N m vs cl) (hm : m < N) (ha : cl[i]? = some a) (W : Wh p L N m vs (cl.take i) w) :
  Wh p L N m vs (cl.take (i + 1)) (List.zipWith (fun x y => (x - gl w a.1 * y) % p) w a.2):=by
 have rp:=zk hp
 obtain ⟨a1,a2,a3,a4,a5,a6⟩:=E.one i a ha
 have him : i < m:=by rw [← E.ln]; exact (List.getElem?_eq_some_iff.mp ha).1
 have hg : ∀ y,y < L + N → gl (List.zipWith (fun x y => (x - gl w a.1 * y) % p) w a.2) y = (gl w y - gl w a.1 * gl a.2 y) % p:=fun y hy => zhX (by rw [W.ln]; exact hy) (by omega)
 refine ⟨by rw [List.length_zipWith,W.ln,a2,Nat.min_self],fun c hc => ?_,W.rel.sub a4 (gl w a.1) fun y hy => by rw [hg y hy]; exact Cg.emod _ _,?_,fun j h1 h2 => ?_,fun b hb => ?_⟩
 ·obtain ⟨x,y,rfl⟩:=zcr hc
  exact ⟨Int.emod_nonneg _ (by omega),Int.emod_lt_of_pos _ (by omega)⟩
 ·rw [hg _ (by omega),W.top,a6 m him hm,Int.mul_zero,Int.sub_zero]
  exact Int.emod_eq_of_lt (by omega) (by omega)
 ·rw [hg _ (by omega),W.up j h1 h2,a6 j (by omega) h2,Int.mul_zero]
  rfl
 ·rw [take_snoc ha] at hb
  rcases (List.mem_append.mp hb) with hb | hb
  ·obtain ⟨j,hj⟩:=List.getElem?_of_mem hb
   have hji : j < i:=by
    have:=(List.getElem?_eq_some_iff.mp hj).1
    rw [List.length_take] at this
    omega
   have hj' : cl[j]? = some b:=by rw [List.getElem?_take_of_lt hji] at hj; exact hj
   have hb1:=(E.one j b hj').1
   rw [hg _ (by omega),W.z b hb,E.up j i b a hj' ha hji,Int.mul_zero]
   rfl
  ·obtain rfl : b = a:=by simpa using hb
   rw [hg _ (by omega),a5,Int.mul_one,Int.sub_self]
   rfl
theorem zge {p : Int} (hp : p ∈ zl) {L N m : Nat} {vs : List (List Int)} {cl : List (Nat × List Int)} {w : List Int} {ld : Nat} (E : Ech p L N m vs cl) (hm : m < N) (W : Wh p L N m vs cl w) (hld : ld < L) (h0 : gl w ld ≠ 0) :
  Ech p L N (m + 1) vs (cl ++ [(ld,w.map fun x => x * inv p (gl w ld) % p)]):=by
 have rp:=zk hp
 obtain ⟨g0,g1⟩:=zbU (show 0 < p by omega) W.rg ld
 have hi:=zdr hp (h:=gl w ld) (by omega) g1
 have hg : ∀ y,y < L + N → gl (w.map fun x => x * inv p (gl w ld) % p) y = gl w y * inv p (gl w ld) % p:=fun y hy => zgc (f:=fun x => x * inv p (gl w ld) % p) (by rw [W.ln]; exact hy)
 have hat : ∀ j a,(cl ++ [(ld,w.map fun x => x * inv p (gl w ld) % p)])[j]? = some a → (j < m ∧ cl[j]? = some a) ∨ (j = m ∧ a = (ld,w.map fun x => x * inv p (gl w ld) % p)):=fun j a h => by
  by_cases hj : j < m
  ·rw [List.getElem?_append_left (by rw [E.ln]; exact hj)] at h
   exact .inl ⟨hj,h⟩
  ·rw [List.getElem?_append_right (by rw [E.ln]; omega),E.ln] at h
   have hj0 : j - m = 0:=by
    have:=(List.getElem?_eq_some_iff.mp h).1
    simp at this
    omega
   rw [hj0] at h
   exact .inr ⟨by omega,(by simpa using h.symm)⟩
 refine ⟨by rw [List.length_append,E.ln]; rfl,fun j a h => ?_,fun j j' a a' h h' hlt => ?_,fun u hu hup hz i hi' => ?_⟩
 ·rcases hat j a h with ⟨_,h⟩ | ⟨rfl,rfl⟩
  ·exact E.one j a h
  ·refine ⟨hld,by rw [List.length_map,W.ln],fun c hc => ?_,?_,?_,fun i h1 h2 => ?_⟩
   ·obtain ⟨x,_,rfl⟩:=List.mem_map.mp hc
    exact ⟨Int.emod_nonneg _ (by omega),Int.emod_lt_of_pos _ (by omega)⟩
   ·refine Rel.sub (u:=fun _ => 0) (fun x _ => Cg.of_eq (zaH fun i _ => Int.zero_mul _).symm) W.rel (-inv p (gl w ld)) fun y hy => ?_
    rw [hg y hy]
    exact (Cg.emod _ _).trans (Cg.of_eq (by grind))
   ·rw [hg ld (by omega)]
    have h2 : Cg p (gl w ld * inv p (gl w ld)) 1:=(Cg.of_eq (Int.mul_comm _ _)).trans hi
    rw [h2.mod_eq]
    exact Int.emod_eq_of_lt (by omega) (by omega)
   ·rw [hg _ (by omega),W.up i h1 h2,Int.zero_mul]
    rfl
 ·rcases hat j' a' h' with ⟨hj',h'⟩ | ⟨rfl,rfl⟩
  ·rcases hat j a h with ⟨_,h⟩ | ⟨rfl,_⟩
   ·exact E.up j j' a a' h h' hlt
   ·omega
  ·rcases hat j a h with ⟨_,h⟩ | ⟨rfl,_⟩
   ·have:=(E.one j a h).1
    rw [hg _ (by omega),W.z a (List.mem_of_getElem? h),Int.zero_mul]
    rfl
   ·omega
 ·have hru : Rel p L N vs (fun y => u y - u (L + m) * gl w y):=hu.sub W.rel (u (L + m)) fun y _ => Cg.refl _ _
  have hall:=E.ii (fun y => u y - u (L + m) * gl w y) hru (fun i h1 h2 => by
   by_cases e : i = m
   ·subst e
    show Cg p (u (L + i) - u (L + i) * gl w (L + i)) 0
    rw [W.top]
    exact Cg.of_eq (by omega)
   ·show Cg p (u (L + i) - u (L + m) * gl w (L + i)) 0
    rw [W.up i (by omega) h2,Int.mul_zero,Int.sub_zero]
    exact hup i (by omega) h2) (fun a ha => by
   show Cg p (u a.1 - u (L + m) * gl w a.1) 0
   rw [W.z a ha,Int.mul_zero,Int.sub_zero]
   exact hz a (List.mem_append_left _ ha))
  have hlead : Cg p (u ld - u (L + m) * gl w ld) 0:=(hru ld hld).trans ((zdb (g:=fun _ => 0) fun i hi => ((hall i hi).mul (Cg.refl _ _)).trans (Cg.of_eq (Int.zero_mul _))).trans (Cg.of_eq (zaH fun _ _ => rfl)))
  have hul:=hz (ld,_) (List.mem_append_right _ (List.mem_singleton.mpr rfl))
  have hc : Cg p (gl w ld * u (L + m)) 0:=by
   have:=hul.sub hlead
   exact (Cg.of_eq (by show gl w ld * u (L + m) = u ld - (u ld - u (L + m) * gl w ld); grind)).trans (this.trans (Cg.of_eq (by omega)))
  have hc0 : Cg p (u (L + m)) 0:=zda hp (by rw [Int.emod_eq_of_lt g0 g1]; exact h0) hc
  have:=hall i hi'
  have h3:=this.add (hc0.mul (Cg.refl p (gl w (L + i))))
  exact (Cg.of_eq (by show u (L + i) = u (L + i) - u (L + m) * gl w (L + i) + u (L + m) * gl w (L + i); omega)).trans (h3.trans (Cg.of_eq (by omega)))
def Indep (p : Int) (L : Nat) (vs : List (List Int)) : Prop:=∀ u : Nat → Int,(∀ x,x < L → Cg p (sm vs.length fun i => u i * vx vs i x) 0) → ∀ i,i < vs.length → Cg p (u i) 0
def Dep (p : Int) (L : Nat) (vs : List (List Int)) (c : List Int) : Prop:=∀ x,x < L → Cg p (sm vs.length fun i => gl c i * vx vs i x) 0
theorem zgf {p : Int} {L : Nat} {vs : List (List Int)} {cl : List (Nat × List Int)} (E : Ech p L vs.length vs.length vs cl) : Indep p L vs:=fun u hu i hi => by
 have h:=E.ii (fun y => if y < L then sm vs.length (fun i => u i * vx vs i y) else u (y - L)) (fun x hx => ?_) (fun i h1 h2 => by omega) (fun a ha => ?_) i hi
 ·rw [if_neg (by omega),Nat.add_sub_cancel_left] at h
  exact h
 ·dsimp only
  rw [if_pos hx]
  refine Cg.of_eq (zU fun i _ => ?_)
  rw [if_neg (by omega),Nat.add_sub_cancel_left]
 ·obtain ⟨j,hj⟩:=List.getElem?_of_mem ha
  have:=(E.one j a hj).1
  rw [if_pos this]
  exact hu _ this
theorem zhY {p : Int} {L m : Nat} {vs : List (List Int)} {cl : List (Nat × List Int)} {w : List Int} (W : Wh p L vs.length m vs cl w) (hm : m < vs.length) (hz : ∀ x,x < L → gl w x = 0) :
  IsP p (m + 1) ((w.drop L).take (m + 1)) ∧ gl ((w.drop L).take (m + 1)) m = 1 ∧ Dep p L vs ((w.drop L).take (m + 1)):=by
 have hg : ∀ i,i ≤ m → gl ((w.drop L).take (m + 1)) i = gl w (L + i):=fun i hi => zaO (by
  rw [List.getElem?_take_of_lt (by omega),List.getElem?_drop]
  exact zad (by rw [W.ln]; omega))
 have hl : ((w.drop L).take (m + 1)).length = m + 1:=by
  rw [List.length_take,List.length_drop,W.ln]
  omega
 refine ⟨⟨hl,fun c hc => W.rg c (List.mem_of_mem_drop (List.mem_of_mem_take hc))⟩,by rw [hg m (Nat.le_refl _)]; exact W.top,fun x hx => ?_⟩
 have h:=W.rel x hx
 rw [hz x hx] at h
 refine Cg.trans (Cg.of_eq (zU fun i hi => ?_)) h.symm
 by_cases e : i ≤ m
 ·rw [hg i e]
 ·rw [W.up i (by omega) hi,zac (by omega)]
end My
end
section
set_option maxHeartbeats 3999000
namespace L2
open PySem PySem.Spec PyProof.Rows
def zhZ (K : PySem.W.Frag) : R2:=fun x y H Q => ∃ a b xs ys,x = .ref a ∧ y = .ref b ∧ SqT K H a xs ∧ SqT K H b ys ∧ ys ≠ [] ∧ xs.length + ys.length ≤ sizeLine ∧
 (xs = [] → Q (.ref b) H) ∧ (xs ≠ [] → ∀ p,H p = none → Q (.ref p) (upd H p (.tup (xs ++ ys))))
theorem zfj {X : Cx} {K : PySem.W.Frag} (hK : X.K = K) : OpR X (binaryOp .Add) (zhZ K):=by
 subst hK
 intro pins s σ H x y v u Q I rx ry h
 obtain ⟨a,b,xs,ys,rfl,rfl,ha,hb,hy,hz,q1,q2⟩:=h
 by_cases hx : xs = []
 ·cases rx
  cases ry
  obtain ⟨its,r1,p1,_⟩:=I.tuple ha
  obtain ⟨its2,r2,p2,_⟩:=I.tuple hb
  obtain ⟨⟨cls,dd,data,sl⟩,ho,hc,n,hd⟩:=id p1
  obtain ⟨⟨cls2,dd2,data2,sl2⟩,ho2,hc2,n2,hd2⟩:=id p2
  simp only at hc hd hc2 hd2
  subst hc hd hc2 hd2
  exact concat_meets ⟨_,ho,rfl⟩ ⟨_,ho2,rfl⟩ noFill_tuple_add seq_tuple_add PySem.F.slot_tuple_add PySem.F.entry_tuple_add (PySem.F.args_tuple_add_2 _ _)
   (tuple_addW0 a b its.toArray its2.toArray n n2 dd dd2 sl sl2 (by simp [r1.nil_iff.mpr hx])) ⟨ho,ho2,⟨.ref b,H,I,rfl,q1 hx⟩⟩
 ·exact zeB pins s σ H _ _ v u Q I rx ry ⟨a,b,xs,ys,rfl,rfl,ha,hb,hx,hz,fun z => absurd z hy,fun _ => q2 hx⟩
end L2
end
section
set_option maxHeartbeats 3999000
namespace L2
open PySem PySem.Spec PyProof.Rows
theorem zbV : fillsNumberSlot (.type "tuple") "mul" = pure false :=
 PySem.fillsNumberSlot_seq (id:="tuple.__mul__") (r:=some (.builtin "tuple.__rmul__")) PySem.F.slot_tuple_mul.lookup (by decide +kernel) PySem.F.slot_tuple_rmul.lookup (by decide +kernel)
theorem zdz : seqRepeat? (.type "tuple") = pure (some (.builtin "tuple.__mul__")):=by
 unfold seqRepeat?
 rw [PySem.seqSlot_of (T:="tuple") (name:="__mul__") (id:="tuple.__mul__") PySem.F.slot_tuple_mul.lookup (by decide +kernel),PySem.seqSlot_of (T:="tuple") (name:="__rmul__") (id:="tuple.__rmul__") PySem.F.slot_tuple_rmul.lookup (by decide +kernel)]
 rfl
theorem zcx (a : Int) (t : Tok) (l : Addr) (items : Array Value) (n : Nat) (dd : Option Addr) (sl : Array (Option Value)) :
  Meets (Builtin.«int.__rmul__» ⟨[.int a t,.ref l],[]⟩) (fun _ R s => s.heap.get? l = some { cls:=.type "tuple",dict:=dd,data:=.seq items n,slots:=sl } ∧ R (.ok (.ret Value.notImplemented)) s) :=
 .of_wp fun prog w A R s h => by (obtain ⟨hp,g,d,tk,os⟩:=s; obtain ⟨hl,h⟩:=h; wp_walk using wpAny_loadPart' hl; exact ⟨_,rfl,h⟩)
theorem zgg (l : Addr) (items : Array Value) (n : Nat) (dd : Option Addr) (sl : Array (Option Value)) (u : Tok) :
  Meets (Builtin.«tuple.__mul__» ⟨[.ref l,.int 1 u],[]⟩) (fun _ R s => s.heap.get? l = some { cls:=.type "tuple",dict:=dd,data:=.seq items n,slots:=sl } ∧ R (.ok (.ret (.ref l))) s) :=
 .of_wp fun prog w A R s h => by
  (obtain ⟨hp,g,d,tk,os⟩:=s)
  obtain ⟨hl,h⟩:=h
  have f1:=AutoSeq1.idx_int
  have f2:=AutoSeq1.sub_tuple_tuple
  wp_walk using wpAny_loadPart' hl; exact ⟨_,rfl,h⟩
theorem zgh (l : Addr) (items : Array Value) (n : Nat) (dd : Option Addr) (sl : Array (Option Value)) (k : Int) (u : Tok) (hc0 : (decide (k < -(2 ^ 63)) || decide (k ≥ 2 ^ 63)) = false) (hc1 : (items.isEmpty || k == 1) = false) (hc2 : (decide (k ≤ 0) || items.isEmpty) = true) :
  Meets (Builtin.«tuple.__mul__» ⟨[.ref l,.int k u],[]⟩) (fun _ R s => s.heap.get? l = some { cls:=.type "tuple",dict:=dd,data:=.seq items n,slots:=sl } ∧ R (.ok (.ret (Value.ref s.heap.objs.size))) { s with heap:=s.heap.push { cls:=Value.type "tuple",data:=Data.seq #[] },toks:=s.toks }) :=
 .of_wp fun prog w A R s h => by
  (obtain ⟨hp,g,d,tk,os⟩:=s)
  obtain ⟨hl,h⟩:=h
  have f1:=AutoSeq1.idx_int
  have f2:=AutoSeq1.sub_tuple_tuple
  wp_walk using wpAny_loadPart' hl; refine wpAny_ite_false (by rw [hc0]; rfl) ?_
  wp_walk using wpAny_loadPart' hl; exact ⟨_,rfl,h⟩
theorem zgi (l : Addr) (items : Array Value) (n : Nat) (dd : Option Addr) (sl : Array (Option Value)) (k : Int) (u : Tok) (hc0 : (decide (k < -(2 ^ 63)) || decide (k ≥ 2 ^ 63)) = false) (hc1 : (items.isEmpty || k == 1) = false) (hc2 : (decide (k ≤ 0) || items.isEmpty) = false)
  (hc3 : ¬(items.size : Int) * k > (2 ^ 63 - 1) / 8) (hc4 : Builtin.Tuple.tupleTooMany (items.size * k) = false) (hsz : (List.foldl (fun x1 x2 => x1 ++ x2) #[] (List.replicate k.toNat items)).size ≤ sizeLine) :
  Meets (Builtin.«tuple.__mul__» ⟨[.ref l,.int k u],[]⟩) (fun _ R s => s.heap.get? l = some { cls:=.type "tuple",dict:=dd,data:=.seq items n,slots:=sl } ∧ R (.ok (.ret (Value.ref s.heap.objs.size))) { s with heap:=s.heap.push { cls:=Value.type "tuple",data:=Data.seq (List.foldl (fun x1 x2 => x1 ++ x2) #[] (List.replicate k.toNat items)) },toks:=s.toks }) :=
 .of_wp fun prog w A R s h => by
  (obtain ⟨hp,g,d,tk,os⟩:=s)
  obtain ⟨hl,h⟩:=h
  have f1:=AutoSeq1.idx_int
  have f2:=AutoSeq1.sub_tuple_tuple
  wp_walk using wpAny_loadPart' hl; refine wpAny_ite_false (by rw [hc0]; rfl) ?_
  wp_walk using wpAny_loadPart' hl; refine wpAny_ite_false (decide_eq_false hc3) ?_
  wp_walk using wpAny_loadPart' hl; exact ⟨_,rfl,h⟩
def ziC (K : PySem.W.Frag) : R2:=fun x y H Q => ∃ a k xs,x = .ref a ∧ y = .int k ∧ SqT K H a xs ∧ xs ≠ [] ∧ -(2 ^ 63) ≤ k ∧ k < 2 ^ 63 ∧ xs.length * k.toNat ≤ sizeLine ∧
 ∀ p H',zB H H' → SqT K H' p (List.replicate k.toNat xs).flatten → Q (.ref p) H'
theorem zeX {X : Cx} : OpR X (binaryOp .Mult) (ziC X.K):=by
 intro pins s σ H x y v u Q I rx ry h
 obtain ⟨a,k,xs,rfl,rfl,hx,hne,h1,h2,hz,q⟩:=h
 cases rx
 obtain ⟨t,rfl⟩:=ry
 obtain ⟨its,r,p1,_⟩:=I.tuple hx
 obtain ⟨⟨cls,dd,data,sl⟩,ho,hc,n,hd⟩:=id p1
 simp only at hc hd
 subst hc hd
 have hl : xs.length = its.length:=r.length
 have hne' : its ≠ []:=fun e => hne (r.nil_iff.mp e)
 have he : its.toArray.isEmpty = false:=by simpa using hne'
 have hc0 : (decide (k < -(2 ^ 63)) || decide (k ≥ 2 ^ 63)) = false:=by
  rw [decide_eq_false (by omega),decide_eq_false (by omega)]; rfl
 refine wpAny_binaryOp_repeat_ref (T:="tuple") (U:="int") (by decide) ⟨_,ho,rfl⟩ (fun s' => typeIs_int s' k t) zbV F.fills_int_mul F.slot_int_rmul zdz F.slot_int_index.lookup
  (call_meets F.slot_int_rmul (typeIs_int s k t) F.entry_int_rmul (F.args_int_rmul_2 _ _) (zcx k t a its.toArray n dd sl) ⟨ho,rfl,⟨_,ho,rfl⟩,?_⟩)
 by_cases e1 : k = 1
 ·subst e1
  refine call_meets F.slot_tuple_mul ⟨_,ho,rfl⟩ F.entry_tuple_mul (F.args_tuple_mul_2 _ _) (zgg a its.toArray n dd sl t) ⟨ho,?_⟩
  refine ⟨.ref a,H,I,rfl,q a H (fun _ _ e => e) ?_⟩
  simpa using hx
 have hc1 : (its.toArray.isEmpty || k == 1) = false:=by rw [he]; simpa using e1
 by_cases e0 : k ≤ 0
 ·refine call_meets F.slot_tuple_mul ⟨_,ho,rfl⟩ F.entry_tuple_mul (F.args_tuple_mul_2 _ _) (zgh a its.toArray n dd sl k t hc0 hc1 (by rw [decide_eq_true e0]; rfl)) ⟨ho,?_⟩
  have hf:=I.hok.fresh (Nat.le_refl _)
  have e : (List.replicate k.toNat xs).flatten = []:=by rw [show k.toNat = 0 by omega]; rfl
  refine ⟨.ref s.heap.objs.size,_,I.laid (t':=s.toks) (o:=.tup []) (fun b ob q => Heap.get?_push_of_some _ q) (Nat.le_refl _) ?_,rfl,q _ _ (fun b o z => ?_) (by rw [e]; exact SqT.of zb)⟩
  ·exact ⟨Nat.zero_le _,[],.nil,IsTup.new _ _⟩
  ·rw [zn (fun e => by rw [e,hf] at z; cases z)]; exact z
 ·have hm : (its.toArray.size : Int) * k = ((xs.length * k.toNat : Nat) : Int):=by
   rw [List.size_toArray,← hl,Int.natCast_mul,Int.toNat_of_nonneg (by omega)]
  have hsl : (sizeLine : Nat) ≤ 16777216:=by decide
  have hnew : List.foldl (fun x1 x2 => x1 ++ x2) #[] (List.replicate k.toNat its.toArray) = (List.replicate k.toNat its).flatten.toArray:=by
   have:=foldl_rep its k.toNat []
   rw [List.nil_append] at this
   exact this
  refine call_meets F.slot_tuple_mul ⟨_,ho,rfl⟩ F.entry_tuple_mul (F.args_tuple_mul_2 _ _) (zgi a its.toArray n dd sl k t hc0 hc1 (by rw [decide_eq_false e0,he]; rfl) (by rw [hm]; omega) (by rw [hm]; unfold Builtin.Tuple.tupleTooMany; exact decide_eq_false (by omega)) (by rw [hnew,List.size_toArray,len_rep,Nat.mul_comm,← hl]; exact hz)) ⟨ho,?_⟩
  have hf:=I.hok.fresh (Nat.le_refl _)
  rw [hnew]
  refine ⟨.ref s.heap.objs.size,_,I.laid (t':=s.toks) (o:=.tup (List.replicate k.toNat xs).flatten) (fun b ob q => Heap.get?_push_of_some _ q) (Nat.le_refl _) ?_,rfl,q _ _ (fun b o z => ?_) (SqT.of zb)⟩
  ·exact ⟨by rw [len_rep,Nat.mul_comm]; exact hz,_,r.rep k.toNat,IsTup.new _ _⟩
  ·rw [zn (fun e => by rw [e,hf] at z; cases z)]; exact z
theorem zgX {X : Cx} {K : PySem.W.Frag} (hK : X.K = K) : SlR X (zit K):=by subst hK; exact zfI
theorem zgY {X : Cx} {K : PySem.W.Frag} {tg l : Expr} {tl : TE} (hK : X.K = K) (hl : PE X l tl) : PI X tg l (zig K tl):=by subst hK; exact zfA hl
end L2
end
section
set_option maxHeartbeats 3999000
namespace My
open PySem L2 PyProof.Rows
def PtB (H : Hp) : List Addr → List (Int × Int) → Prop:=Paired fun b q => H b = some (.tup [.int q.1,.int q.2])
theorem PtB.same {H H' : Hp} (s : zB H H') {bs : List Addr} {pts : List (Int × Int)} (h : PtB H bs pts) : PtB H' bs pts:=Paired.mono (fun _ _ z => s _ _ z) h
def zbW (H : Hp) : List Addr → List (List Int) → Prop:=Paired fun r q => H r = some (.tup (q.map V.int))
theorem zbW.same {H H' : Hp} (s : zB H H') {rs : List Addr} {qs : List (List Int)} (h : zbW H rs qs) : zbW H' rs qs:=Paired.mono (fun _ _ z => s _ _ z) h
def zgZ (K : PySem.W.Frag) : Sp:=fun vs H Q _ => ∃ (c tt r : Addr) (p k : Int) (pl : List Int) (rw : List (Option Int)),vs = [.ref c,.ref r] ∧ zbm H c tt p k pl ∧ RowAt K H r pl.length rw ∧ pl.length ≤ 1000 ∧
 ∀ (l : Addr) (bs : List Addr) (H' : Hp),H l = none → zB H H' → H' l = some (.lst (bs.map V.ref)) → PtB H' bs (hps pl rw) → Q (.ref l) H'
end My
end
section
set_option maxHeartbeats 3999000
namespace My
open PySem L2 PyProof.Rows
def top (i : Nat) : Stmt:=PySem.Challenge.pw_slipcurve_k40_whole_locators_show_the_sl.main.body.getD i (.Pass ⟨0,0,0,0⟩)
abbrev za7 : Stmt:=top 1
abbrev zbt : Stmt:=top 2
abbrev zap : Stmt:=top 3
abbrev zcy : Stmt:=top 4
abbrev zbu : Stmt:=top 5
abbrev z0 : Stmt:=top 7
abbrev zaY : Stmt:=top 9
abbrev zO : Stmt:=top 10
abbrev zW : Stmt:=top 12
abbrev zbn : Stmt:=top 13
abbrev zcg : Stmt:=top 14
abbrev zF : Stmt:=top 15
abbrev zaI : Stmt:=top 17
abbrev zbN : Stmt:=top 19
abbrev zbv : Stmt:=top 20
abbrev zbo : Stmt:=top 21
abbrev zbw : Stmt:=top 22
abbrev zbx : Stmt:=top 23
abbrev zaZ : Stmt:=top 24
structure Adr where
 value_at : Addr
 inverse : Addr
 times_root : Addr
 bent : Addr
 through : Addr
 heard_points : Addr
 without : Addr
 first_relation : Addr
 times_entries : Addr
 beyond : Addr
 sized : Addr
 joint_locator : Addr
 locator_of : Addr
 l_cell : Addr
 l_draws : Addr
 l_code : Addr
 l_value : Addr
 l_shows : Addr
 law : Addr
structure Txt (K : PySem.W.Frag) (mg : Str → Option Value) (t : Adr) : Prop where
 len_ : mg "len" = none
 range_ : mg "range" = none
 list_ : mg "list" = none
 tuple_ : mg "tuple" = none
 min_ : mg "min" = none
 zip_ : mg "zip" = none
 enumerate_ : mg "enumerate" = none
 reversed_ : mg "reversed" = none
 m_value_at : mg "value_at" = some (.ref t.value_at)
 m_inverse : mg "inverse" = some (.ref t.inverse)
 m_times_root : mg "times_root" = some (.ref t.times_root)
 m_bent : mg "bent" = some (.ref t.bent)
 m_through : mg "through" = some (.ref t.through)
 m_heard_points : mg "heard_points" = some (.ref t.heard_points)
 m_without : mg "without" = some (.ref t.without)
 m_first_relation : mg "first_relation" = some (.ref t.first_relation)
 m_times_entries : mg "times_entries" = some (.ref t.times_entries)
 m_beyond : mg "beyond" = some (.ref t.beyond)
 m_sized : mg "sized" = some (.ref t.sized)
 m_joint_locator : mg "joint_locator" = some (.ref t.joint_locator)
 m_locator_of : mg "locator_of" = some (.ref t.locator_of)
 m_l_cell : mg "_law_cell" = some (.ref t.l_cell)
 m_l_draws : mg "_law_draws" = some (.ref t.l_draws)
 m_l_code : mg "_law_code" = some (.ref t.l_code)
 m_l_value : mg "_law_value" = some (.ref t.l_value)
 m_l_shows : mg "_law_shows" = some (.ref t.l_shows)
 f_value_at : ∃ fd,Fun K "value_at" "value_at" za7 t.value_at fd ∧ Binds K fd ["p","polynomial","x"] []
 f_inverse : ∃ fd,Fun K "inverse" "inverse" zbt t.inverse fd ∧ Binds K fd ["p","number"] []
 f_times_root : ∃ fd,Fun K "times_root" "times_root" zap t.times_root fd ∧ Binds K fd ["p","polynomial","root"] []
 f_bent : ∃ fd,Fun K "bent" "bent" zcy t.bent fd ∧ Binds K fd ["p","polynomial","vanishing","point"] []
 f_through : ∃ fd,Fun K "through" "through" zbu t.through fd ∧ Binds K fd ["p","points"] []
 f_heard_points : ∃ fd,Fun K "heard_points" "heard_points" z0 t.heard_points fd ∧ Binds K fd ["code","row"] []
 f_without : ∃ fd,Fun K "without" "without" zaY t.without fd ∧ Binds K fd ["p","vector","times","other"] []
 f_first_relation : ∃ fd,Fun K "first_relation" "first_relation" zO t.first_relation fd ∧ Binds K fd ["p","vectors"] []
 f_times_entries : ∃ fd,Fun K "times_entries" "times_entries" zW t.times_entries fd ∧ Binds K fd ["p","left","points"] []
 f_beyond : ∃ fd,Fun K "beyond" "beyond" zbn t.beyond fd ∧ Binds K fd ["rights","many"] []
 f_sized : ∃ fd,Fun K "sized" "sized" zcg t.sized fd ∧ Binds K fd ["polynomial","many"] []
 f_joint_locator : ∃ fd,Fun K "joint_locator" "joint_locator" zF t.joint_locator fd ∧ Binds K fd ["code","rows"] []
 f_locator_of : ∃ fd,Fun K "locator_of" "locator_of" zaI t.locator_of fd ∧ Binds K fd ["code","row"] []
 f_l_cell : ∃ fd,Fun K "_law_cell" "_law_cell" zbN t.l_cell fd ∧ Binds K fd ["script","k"] []
 f_l_draws : ∃ fd,Fun K "_law_draws" "_law_draws" zbv t.l_draws fd ∧ Binds K fd ["script","k","many","base"] []
 f_l_code : ∃ fd,Fun K "_law_code" "_law_code" zbo t.l_code fd ∧ Binds K fd ["script","at","most_k","most_n"] []
 f_l_value : ∃ fd,Fun K "_law_value" "_law_value" zbw t.l_value fd ∧ Binds K fd ["p","polynomial","x"] []
 f_l_shows : ∃ fd,Fun K "_law_shows" "_law_shows" zbx t.l_shows fd ∧ Binds K fd ["code","one","row","left","right"] []
section
variable {P : Program} {w : World} {K : PySem.W.Frag} {mg : Str → Option Value} {base : Heap} {t : Adr}
theorem zfk : FnScope ["script","k"] ["script","k"] (zj zbN):=⟨rfl,rfl,rfl,by decide +kernel,rfl,by decide +kernel,by decide +kernel⟩
theorem zfl {fd : FuncData} (T : Txt K mg t) (F : Fun K "_law_cell" "_law_cell" zbN t.l_cell fd) : FnOk P w K mg base CX0 1 t.l_cell fd ["script","k"] (zfg K):=by
 refine F.ok zfk (fun vs H Q E h => ?_) (fun cdv A outer s H vs Q E hr h => ?_)
 ·obtain ⟨a,ns,k,rfl,_⟩:=h; rfl
 ·obtain ⟨a,ns,k,rfl,hS,hlen,k0,k1,q⟩:=h
  refine ⟨_,(@zc _ _ _ _ _ (@zbc _ _ _ _ _ _ _ _ (@zV _ _ _ _ _ _ _ _ (@zil _) (@pvx _ 1 _ _ rfl) (@zK _ _ _ _ _ _ _ _ _ (@zz _) (by rfl) T.len_ boot_len (@za _ _ _ _ _ (@pvx _ 0 _ _ rfl) (@zf _) (by rfl)) (by decide) (by decide) (by rfl) (by rfl)) (zak _)) (@zp _ _ _ (@zG _ _ _ _ (@zJ _ _ _ _ _ _ _ (@zD _) (@pvx _ 0 _ _ rfl) (@pvx _ 1 _ _ rfl) (fun _ _ => rfl)))) (@zai _)) (by exact (@zc _ _ _ _ _ (@zbc _ _ _ _ _ _ _ _ (@zV _ _ _ _ _ _ _ _ (@zhb _) (@zK _ _ _ _ _ _ _ _ _ (@zz _) (by rfl) T.len_ boot_len (@za _ _ _ _ _ (@pvx _ 0 _ _ rfl) (@zf _) (by rfl)) (by decide) (by decide) (by rfl) (by rfl)) (@zg _ _ _ _) (zak _)) (@zp _ _ _ (@zG _ _ _ _ (@zh _ _ _ _ _ _ _ _ (@zE _) (@zh _ _ _ _ _ _ _ _ (@zI _) (@zg _ _ _ _) (@pvx _ 1 _ _ rfl)) (@zg _ _ _ _)))) (@zai _)) (by exact (@zp _ _ _ (@zG _ _ _ _ (@zh _ _ _ _ _ _ _ _ (@zE _) (@zh _ _ _ _ _ _ _ _ (@zy _) (@zJ _ _ _ _ _ _ _ (@zD _) (@pvx _ 0 _ _ rfl) (@zh _ _ _ _ _ _ _ _ (@zy _) (@pvx _ 1 _ _ rfl) (@zK _ _ _ _ _ _ _ _ _ (@zz _) (by rfl) T.len_ boot_len (@za _ _ _ _ _ (@pvx _ 0 _ _ rfl) (@zf _) (by rfl)) (by decide) (by decide) (by rfl) (by rfl))) (fun _ _ => rfl)) (@zg _ _ _ _)) (@zh _ _ _ _ _ _ _ _ (@zI _) (@zg _ _ _ _) (@pvx _ 1 _ _ rfl))))))))),?_⟩
  refine ⟨_,rfl,_,rfl,a,_,rfl,.inl hS,_,_,rfl,rfl,_,rfl,?_⟩; rw [List.length_map]
  refine za2 (fun h => ?_) (fun h => ?_)
  ·have h : k < (ns.length : Int):=by simpa using h
   obtain ⟨c,hc⟩:=zbK k0 h
   exact ⟨_,rfl,_,rfl,a,_,k,_,rfl,rfl,hS,hc,q c⟩
  ·have h : ¬ k < (ns.length : Int):=by simpa using h
   refine ⟨_,rfl,a,_,rfl,.inl hS,rfl,_,rfl,?_⟩
   rw [List.length_map]
   refine za2 (fun h2 => ?_) (fun h2 => ?_)
   ·exact ⟨_,rfl,_,_,rfl,rfl,.inl ⟨by decide,by decide⟩,_,_,rfl,rfl,q _⟩
   ·have h2 : ¬ V.int (ns.length : Int) = V.int 0:=by simpa using h2
    have hpos : 0 < (ns.length : Int):=by
     have : (ns.length : Int) ≠ 0:=fun z => h2 (by rw [z])
     omega
    have m0:=Int.emod_nonneg k (show (ns.length : Int) ≠ 0 by omega)
    have m1:=Int.emod_lt_of_pos k hpos
    obtain ⟨c,hc⟩:=zbK m0 m1
    refine ⟨_,rfl,_,rfl,_,rfl,a,_,rfl,.inl hS,_,_,rfl,rfl,by rw [List.length_map]; exact hpos,a,_,_,_,rfl,rfl,hS,by rw [List.length_map]; exact hc,_,_,rfl,rfl,(by show (0 : Int) < 1000003; decide),?_⟩
    exact ⟨_,rfl,_,_,rfl,rfl,.inl ⟨by decide,by decide⟩,_,_,rfl,rfl,q _⟩
theorem zH : FnScope ["script","k","many","base","primes","cell","rest","row","j","mash"] ["script","k","many","base"] (zj zbv):=⟨rfl,rfl,rfl,by decide +kernel,rfl,by decide +kernel,by decide +kernel⟩
theorem zcz {fd : FuncData} (T : Txt K mg t) (F : Fun K "_law_draws" "_law_draws" zbv t.l_draws fd) : FnOk P w K mg base CX0 2 t.l_draws fd ["script","k","many","base"] (zeg K):=by
 obtain ⟨fd_l_cell,F_l_cell,b_l_cell⟩:=T.f_l_cell
 have G_l_cell:=zfl (P:=P) (w:=w) (base:=base) T F_l_cell
 refine F.ok zH (fun vs H Q E h => ?_) (fun cdv A outer s H vs Q E hr h => ?_)
 ·obtain ⟨a,ns,k,many,base,rfl,_⟩:=h
  rfl
 ·obtain ⟨a,ns,k,many,bs,rfl,hS,hlen,k0,k1,m0,m1,b0,b1,q⟩:=h
  refine ⟨_,(@zc _ _ _ _ _ (@zo _ _ (4) _ _ _ _ zH.nd rfl (Or.inl rfl) (@zaJ _ _ _ _ _ (@zdM _ _ _ _ _ _ (by exact (@zdM _ _ _ _ _ _ (by exact (@zdM _ _ _ _ _ _ (by exact (@zdM _ _ _ _ _ _ (by exact (@zdM _ _ _ _ _ _ (by exact (@za _ _ _ _ _ (@zg _ _ _ _) (@za _ _ _ _ _ (@zg _ _ _ _) (@za _ _ _ _ _ (@zg _ _ _ _) (@zf _) (by rfl)) (by rfl)) (by rfl))))))))))))) (by rfl) (by trivial)) (by exact (@zc _ _ _ _ _ (@zo _ _ (5) _ _ _ _ zH.nd rfl (Or.inl rfl) (@zt _ _ _ _ _ _ _ _ _ _ _ _ _ _ _ _ G_l_cell (hr.mono (by decide)) rfl T.m_l_cell F_l_cell.kp b_l_cell .nil (@zP _) (@za _ _ _ _ _ (@pvx _ 0 _ _ rfl) (@za _ _ _ _ _ (@pvx _ 1 _ _ rfl) (@zf _) (by rfl)) (by rfl)) (by decide) (by rfl) (by rfl)) (by rfl) (by trivial)) (by exact (@zc _ _ _ _ _ (@zo _ _ (6) _ _ _ _ zH.nd rfl (Or.inl rfl) (@zg _ _ _ _) (by rfl) (by trivial)) (by exact (@zc _ _ _ _ _ (@zbc _ _ _ _ _ _ _ _ (@zV _ _ _ _ _ _ _ _ (@zim _) (@pvx _ 5 _ _ rfl) (@zh _ _ _ _ _ _ _ _ (@zhz _) (@zg _ _ _ _) (@zg _ _ _ _)) (zak _)) (@zp _ _ _ (@zo _ _ (6) _ _ _ _ zH.nd rfl (Or.inl rfl) (@pvx _ 5 _ _ rfl) (by rfl) (by trivial))) (@zai _)) (by exact (@zc _ _ _ _ _ (@zo _ _ (7) _ _ _ _ zH.nd rfl (Or.inl rfl) (@zav _ _ _ _ (@zf _)) (by rfl) (by trivial)) (by exact (@zc _ _ _ _ _ (@zaS _ _ _ _ _ _ _ _ PassesOwn.never rfl (@zat _ _ _ _ _ _ rfl T.range_ (@za _ _ _ _ _ (@pvx _ 2 _ _ rfl) (@zf _) (by rfl)) (by rfl)) (@zi _ _ (8) _ zH.nd rfl (Or.inl rfl) (by trivial)) (@zc _ _ _ _ _ (@zo _ _ (9) _ _ _ _ zH.nd rfl (Or.inl rfl) (@zh _ _ _ _ _ _ _ _ (@zI _) (@zh _ _ _ _ _ _ _ _ (@zy _) (@pvx _ 5 _ _ rfl) (@zJ _ _ _ _ _ _ _ (@zeb _) (@pvx _ 4 _ _ rfl) (@zh _ _ _ _ _ _ _ _ (@zy _) (@pvx _ 8 _ _ rfl) (@zg _ _ _ _)) (fun _ _ => rfl))) (@zh _ _ _ _ _ _ _ _ (@zE _) (@zg _ _ _ _) (@zh _ _ _ _ _ _ _ _ (@zI _) (@zh _ _ _ _ _ _ _ _ (@zI _) (@zg _ _ _ _) (@pvx _ 8 _ _ rfl)) (@pvx _ 8 _ _ rfl)))) (by rfl) (by trivial)) (by exact (@zc _ _ _ _ _ (@zo _ _ (9) _ _ _ _ zH.nd rfl (Or.inl rfl) (@zh _ _ _ _ _ _ _ _ (@zE _) (@zh _ _ _ _ _ _ _ _ (@zE _) (@pvx _ 9 _ _ rfl) (@zh _ _ _ _ _ _ _ _ (@zI _) (@zh _ _ _ _ _ _ _ _ (@zI _) (@zg _ _ _ _) (@zh _ _ _ _ _ _ _ _ (@zE _) (@pvx _ 8 _ _ rfl) (@zg _ _ _ _))) (@zh _ _ _ _ _ _ _ _ (@zE _) (@pvx _ 8 _ _ rfl) (@zg _ _ _ _)))) (@zh _ _ _ _ _ _ _ _ (@zI _) (@zg _ _ _ _) (@pvx _ 1 _ _ rfl))) (by rfl) (by trivial)) (by exact (@zc _ _ _ _ _ (@zo _ _ (9) _ _ _ _ zH.nd rfl (Or.inl rfl) (@zh _ _ _ _ _ _ _ _ (@zy _) (@pvx _ 9 _ _ rfl) (@zJ _ _ _ _ _ _ _ (@zeb _) (@pvx _ 4 _ _ rfl) (@zh _ _ _ _ _ _ _ _ (@zy _) (@zh _ _ _ _ _ _ _ _ (@zE _) (@zh _ _ _ _ _ _ _ _ (@zI _) (@zg _ _ _ _) (@pvx _ 8 _ _ rfl)) (@pvx _ 1 _ _ rfl)) (@zg _ _ _ _)) (fun _ _ => rfl))) (by rfl) (by trivial)) (by exact (@zc _ _ _ _ _ (@zo _ _ (9) _ _ _ _ zH.nd rfl (Or.inl rfl) (@zh _ _ _ _ _ _ _ _ (@zy _) (@zh _ _ _ _ _ _ _ _ (@zI _) (@zh _ _ _ _ _ _ _ _ (@zI _) (@pvx _ 9 _ _ rfl) (@pvx _ 9 _ _ rfl)) (@pvx _ 9 _ _ rfl)) (@zJ _ _ _ _ _ _ _ (@zeb _) (@pvx _ 4 _ _ rfl) (@zh _ _ _ _ _ _ _ _ (@zy _) (@zh _ _ _ _ _ _ _ _ (@zE _) (@pvx _ 8 _ _ rfl) (@zg _ _ _ _)) (@zg _ _ _ _)) (fun _ _ => rfl))) (by rfl) (by trivial)) (by exact (@zc _ _ _ _ _ (@zbc _ _ _ _ _ _ _ _ (@zV _ _ _ _ _ _ _ _ (@zhc _) (@pvx _ 6 _ _ rfl) (@zg _ _ _ _) (zak _)) (@zp _ _ _ (@zo _ _ (9) _ _ _ _ zH.nd rfl (Or.inl rfl) (@pvx _ 6 _ _ rfl) (by rfl) (by trivial))) (@zai _)) (by exact (@zc _ _ _ _ _ (@zbF _ _ _ _ (@zcZ _ _ _ _ _ _ _ _ _ _ _ _ PySem.F.plainAttrs_list PySem.F.slot_list_append PySem.F.type_list_append (@zaW _) (@pvx _ 7 _ _ rfl) (@za _ _ _ _ _ (@zh _ _ _ _ _ _ _ _ (@zy _) (@pvx _ 9 _ _ rfl) (@pvx _ 3 _ _ rfl)) (@zf _) (by rfl)) (by rfl) (by rfl) (by rfl) (by rfl) (by rfl)) (by rfl)) (by exact (@zp _ _ _ (@zo _ _ (6) _ _ _ _ zH.nd rfl (Or.inl rfl) (@zh _ _ _ _ _ _ _ _ (@zew _) (@pvx _ 6 _ _ rfl) (@pvx _ 3 _ _ rfl)) (by rfl) (by trivial))))))))))))))) (by intro _; rfl)) (by exact (@zp _ _ _ (@zG _ _ _ _ (@pvx _ 7 _ _ rfl))))))))))))))),?_⟩
  refine ⟨by show 8 ≤ sizeLine; rw [sizeLine_eq]; decide,fun tp ht => ?_⟩
  have s1 : zB H (upd H tp (.tup zgO)):=zd ht
  refine ⟨_,rfl,_,rfl,a,ns,k,rfl,s1.seq hS,hlen,k0,k1,fun c => ?_⟩
  refine ⟨_,rfl,_,_,rfl,rfl,⟨by decide,by decide,by decide⟩,_,_,rfl,rfl,_,rfl,?_⟩
  refine za2 (fun _ => ⟨_,rfl,?_⟩) (fun _ => ?_)
  all_goals
   refine ⟨Nat.zero_le _,fun l hl => ?_⟩
   have hln : H l = none:=zB.free s1 hl
   have htl : tp ≠ l:=zu zb hl
   refine ⟨_,rfl,many,rfl,by omega,by omega,zbQ (lo:=0) (n:=many.toNat) (fun i σ H' => ∃ (r : Int) (v8 v9 : Option V) (ds : List Int),σ = [some (.ref a),some (.int k),some (.int many),some (.int bs),some (.ref tp),some (.int c),some (.int r),some (.ref l),v8,v9] ∧ zeK i bs ds ∧ zB H H' ∧ H' tp = some (.tup zgO) ∧ H' l = some (.lst (ds.map V.int)))
    ⟨_,none,none,[],rfl,⟨rfl,by simp⟩,z6 s1 hln,by rw [zn htl]; exact zb,zb⟩ ?_ ?_⟩
   ·rintro i σ H2 hi ⟨r,v8,v9,ds,rfl,hd,s2,htp,hrow⟩
    obtain ⟨q1,e1,q1p,q1l⟩:=zcu (0 + (i : Int))
    obtain ⟨q2,e2,q2p,q2l⟩:=zcu (3 * (0 + (i : Int)) + k)
    obtain ⟨q3,e3,q3p,q3l⟩:=zcu (0 + (i : Int) + 5)
    have c1:=Int.emod_nonneg c (show q1 ≠ 0 by omega)
    have c2:=Int.emod_lt_of_pos c q1p
    have hi' : (i : Int) < 1000:=by omega
    refine ⟨_,rfl,_,rfl,_,rfl,_,_,rfl,rfl,(by show (0 : Int) < 8; decide),tp,_,_,_,rfl,rfl,SqT.of htp,e1,_,_,rfl,rfl,q1p,_,rfl,_,_,rfl,rfl,.inl ⟨by decide,by decide⟩,_,rfl,_,_,rfl,rfl,.inl ⟨by omega,by omega⟩,_,_,rfl,rfl,_,_,rfl,rfl,.inl ⟨by omega,by omega⟩,?_⟩
    refine ⟨_,rfl,_,rfl,_,_,rfl,rfl,_,_,rfl,rfl,.inl ⟨by decide,by decide⟩,_,rfl,_,_,rfl,rfl,_,_,rfl,rfl,.inl ⟨by omega,by omega⟩,_,_,rfl,rfl,_,rfl,_,_,rfl,rfl,.inl ⟨by decide,by decide⟩,_,_,rfl,rfl,?_⟩
    refine ⟨_,rfl,_,rfl,_,rfl,_,_,rfl,rfl,.inl ⟨by decide,by decide⟩,_,rfl,_,_,rfl,rfl,_,_,rfl,rfl,(by show (0 : Int) < 8; decide),tp,_,_,_,rfl,rfl,SqT.of htp,e2,_,_,rfl,rfl,q2p,?_⟩
    generalize c % q1 * (48271 + 2 * (0 + (i : Int)) * (0 + (i : Int))) + 7919 * (0 + (i : Int) + 1) * (0 + (i : Int) + 1) + 104729 * k = ms
    have d1:=Int.emod_nonneg ms (show q2 ≠ 0 by omega)
    have d2:=Int.emod_lt_of_pos ms q2p
    refine ⟨_,rfl,_,rfl,_,_,rfl,rfl,.inl ⟨by omega,by omega⟩,_,rfl,_,_,rfl,rfl,.inr ⟨by omega,by omega⟩,_,rfl,_,rfl,_,_,rfl,rfl,_,_,rfl,rfl,(by show (0 : Int) < 8; decide),tp,_,_,_,rfl,rfl,SqT.of htp,e3,_,_,rfl,rfl,q3p,?_⟩
    refine ⟨_,rfl,_,_,rfl,rfl,_,rfl,?_⟩
    have hdl:=hd.1
    refine za2 (fun _ => ⟨_,rfl,?_⟩) (fun _ => ?_)
    all_goals
     refine ⟨_,rfl,.inl ⟨rfl,_,SqL.of hrow⟩,_,rfl,_,rfl,_,_,rfl,rfl,b0,l,_,_,rfl,rfl,hrow,zab (by rw [List.length_map]; omega),?_⟩
     refine ⟨_,rfl,_,rfl,_,_,rfl,rfl,⟨b0,b1⟩,?_⟩
     refine ⟨_,_,_,ds ++ [_],rfl,⟨by rw [List.length_append,hdl]; rfl,fun d hm => ?_⟩,z6 s2 hln,by rw [zn htl]; exact htp,by rw [zb,List.map_append]; rfl⟩; rcases List.mem_append.mp hm with hm | hm
     ·exact hd.2 d hm
     ·have e:=List.mem_singleton.mp hm
      rw [e]
      exact ⟨Int.emod_nonneg _ (by omega),Int.emod_lt_of_pos _ b0⟩
   ·rintro σ H2 ⟨r,v8,v9,ds,rfl,hd,s2,htp,hrow⟩
    exact ⟨_,rfl,q l ds H2 hln s2 hd hrow⟩
theorem zax : FnScope ["script","at","most_k","most_n","plan","primes","p","k","many","left"] ["script","at","most_k","most_n"] (zj zbo):=⟨rfl,rfl,rfl,by decide +kernel,rfl,by decide +kernel,by decide +kernel⟩
theorem zfm {fd : FuncData} (T : Txt K mg t) (F : Fun K "_law_code" "_law_code" zbo t.l_code fd) : FnOk P w K mg base CX0 3 t.l_code fd ["script","at","most_k","most_n"] (zfh K):=by
 obtain ⟨fd_l_draws,F_l_draws,b_l_draws⟩:=T.f_l_draws
 have G_l_draws:=zcz (P:=P) (w:=w) (base:=base) T F_l_draws
 refine F.ok zax (fun vs H Q E h => ?_) (fun cdv A outer s H vs Q E hr h => ?_)
 ·obtain ⟨a,ns,at',mk,mn,rfl,_⟩:=h
  rfl
 ·obtain ⟨a,ns,at',mk,mn,rfl,hS,hlen,a0,a1,k1,k5,kn,n16,q⟩:=h
  refine ⟨_,(@zc _ _ _ _ _ (@zo _ _ (4) _ _ _ _ zax.nd rfl (Or.inr rfl) (@zt _ _ _ _ _ _ _ _ _ _ _ _ _ _ _ _ G_l_draws (hr.mono (by decide)) rfl T.m_l_draws F_l_draws.kp b_l_draws .nil (@zP _) (@za _ _ _ _ _ (@pvx _ 0 _ _ rfl) (by exact (@za _ _ _ _ _ (@pvx _ 1 _ _ rfl) (@za _ _ _ _ _ (@zg _ _ _ _) (@za _ _ _ _ _ (@zg _ _ _ _) (@zf _) (by rfl)) (by rfl)) (by rfl))) (by rfl)) (by decide) (by rfl) (by rfl)) (by rfl) (by trivial)) (by exact (by exact (@zfT _ 5 _ _ _ _ _ _ _ [5,7,11,13,17,19,23,29,31,37,41,43,47,53,59,61,67,71,73,79,83,89,97] (by decide +kernel) zax.nd rfl (Or.inl rfl) (by first | exact .inl rfl | exact .inr rfl) (by exact (@zc _ _ _ _ _ (@zo _ _ (6) _ _ _ _ zax.nd rfl (Or.inl rfl) (@zJ _ _ _ _ _ _ _ (@zD _) (@zav _ _ _ _ (@za _ _ _ _ _ (@zJ _ _ _ _ _ _ _ (@zD _) (@pvx _ 5 _ _ rfl) (@zh _ _ _ _ _ _ _ _ (@zy _) (@zJ _ _ _ _ _ _ _ (@zD _) (@pvx _ 4 _ _ rfl) (@zg _ _ _ _) (fun _ _ => rfl)) (@zg _ _ _ _)) (fun _ _ => rfl)) (@za _ _ _ _ _ (@zJ _ _ _ _ _ _ _ (@zD _) (@pvx _ 5 _ _ rfl) (@zh _ _ _ _ _ _ _ _ (@zy _) (@zJ _ _ _ _ _ _ _ (@zD _) (@pvx _ 4 _ _ rfl) (@zg _ _ _ _) (fun _ _ => rfl)) (@zg _ _ _ _)) (fun _ _ => rfl)) (@zf _) (by rfl)) (by rfl))) (@zh _ _ _ _ _ _ _ _ (@zy _) (@zJ _ _ _ _ _ _ _ (@zD _) (@pvx _ 4 _ _ rfl) (@zg _ _ _ _) (fun _ _ => rfl)) (@zg _ _ _ _)) (fun _ _ => rfl)) (by rfl) (by trivial)) (by exact (@zc _ _ _ _ _ (@zo _ _ (7) _ _ _ _ zax.nd rfl (Or.inl rfl) (@zh _ _ _ _ _ _ _ _ (@zE _) (@zg _ _ _ _) (@zh _ _ _ _ _ _ _ _ (@zy _) (@zJ _ _ _ _ _ _ _ (@zD _) (@pvx _ 4 _ _ rfl) (@zg _ _ _ _) (fun _ _ => rfl)) (@zK _ _ _ _ _ _ _ _ _ (@zcU _ rfl) (by rfl) T.min_ boot_min (@za _ _ _ _ _ (@pvx _ 2 _ _ rfl) (@za _ _ _ _ _ (@pvx _ 6 _ _ rfl) (@zf _) (by rfl)) (by rfl)) (by decide) (by decide) (by rfl) (by rfl)))) (by rfl) (by trivial)) (by exact (@zc _ _ _ _ _ (@zo _ _ (8) _ _ _ _ zax.nd rfl (Or.inl rfl) (@zh _ _ _ _ _ _ _ _ (@zE _) (@pvx _ 7 _ _ rfl) (@zh _ _ _ _ _ _ _ _ (@zy _) (@zJ _ _ _ _ _ _ _ (@zD _) (@pvx _ 4 _ _ rfl) (@zg _ _ _ _) (fun _ _ => rfl)) (@zh _ _ _ _ _ _ _ _ (@zE _) (@zh _ _ _ _ _ _ _ _ (@zbD _) (@zK _ _ _ _ _ _ _ _ _ (@zcU _ rfl) (by rfl) T.min_ boot_min (@za _ _ _ _ _ (@pvx _ 3 _ _ rfl) (@za _ _ _ _ _ (@pvx _ 6 _ _ rfl) (@zf _) (by rfl)) (by rfl)) (by decide) (by decide) (by rfl) (by rfl)) (@pvx _ 7 _ _ rfl)) (@zg _ _ _ _)))) (by rfl) (by trivial)) (by exact (@zc _ _ _ _ _ (@zo _ _ (9) _ _ _ _ zax.nd rfl (Or.inr rfl) (@zah _ _ _ _ _ _ _ _ _ (@zbA _ rfl) (by rfl) T.list_ boot_list (@za _ _ _ _ _ (@zah _ _ _ _ _ _ _ _ _ (@zb7 _) (by rfl) T.range_ boot_range (@za _ _ _ _ _ (@pvx _ 6 _ _ rfl) (@zf _) (by rfl)) (by decide) (by decide) (by rfl) (by rfl)) (@zf _) (by rfl)) (by decide) (by decide) (by rfl) (by rfl)) (by rfl) (by trivial)) (by exact (@zp _ _ _ (@zG _ _ _ _ (@zaJ _ _ _ _ _ (@za _ _ _ _ _ (@pvx _ 6 _ _ rfl) (@za _ _ _ _ _ (@pvx _ 7 _ _ rfl) (@za _ _ _ _ _ (@zah _ _ _ _ _ _ _ _ _ (@zaz _) (by rfl) T.tuple_ boot_tuple (@za _ _ _ _ _ (@zan _ _ _ _ _ _ _ _ _ _ _ _ _ (CompSc.of (N':=["j","left","plan"]) (ix:=[none,some 9,some 4]) (zj zbo) ["script","at","most_k","most_n","plan","primes","p","k","many","left"] rfl rfl (by decide +kernel)) rfl (@zam _ _ rfl) (@zat _ _ _ _ _ _ rfl T.range_ (@za _ _ _ _ _ (@pvx _ 8 _ _ rfl) (@zf _) (by rfl)) (by rfl)) (fun _ _ _ _ => (@zi _ _ (0) _ (show (["j","left","plan"] : List Str).Nodup by decide +kernel) rfl (Or.inl rfl) (by trivial))) (fun _ _ _ _ => (@zL _)) (fun _ _ _ _ => (@zfU _ (K) _ _ _ _ _ _ _ _ _ _ _ rfl PySem.F.plainAttrs_list PySem.F.slot_list_pop PySem.F.type_list_pop (@zdG _) (@pvx _ 1 _ _ rfl) (@za _ _ _ _ _ (@zh _ _ _ _ _ _ _ _ (@zy _) (@zJ _ _ _ _ _ _ _ (@zaL _ (K) rfl) (@pvx _ 2 _ _ rfl) (@zh _ _ _ _ _ _ _ _ (@zE _) (@zg _ _ _ _) (@pvx _ 0 _ _ rfl)) (fun _ _ => rfl)) (@zK _ _ _ _ _ _ _ _ _ (@zbB _ (K) rfl) (by rfl) T.len_ boot_len (@za _ _ _ _ _ (@pvx _ 1 _ _ rfl) (@zf _) (by rfl)) (by decide) (by decide) (by rfl) (by rfl))) (@zf _) (by rfl)) (by rfl) (by rfl) (by rfl) (by rfl) (by rfl))) (by intro _; rfl)) (@zf _) (by rfl)) (by decide) (by decide) (by rfl) (by rfl)) (@zf _) (by rfl)) (by rfl)) (by rfl)))))))))))))))))),?_⟩
  refine ⟨_,rfl,_,rfl,a,ns,at',20,27720,rfl,hS,hlen,a0,a1,by decide,by decide,by decide,by decide,fun l ds H1 hl s1 hd hpl => ?_⟩
  have hdl : ds.length = 20:=hd.1
  have dat : ∀ m : Int,0 ≤ m → m < 20 → ∃ c : Int,atI (ds.map V.int) m = some (.int c):=fun m h0 h1 => zbK h0 (by omega)
  refine ⟨by show 23 ≤ sizeLine; rw [sizeLine_eq]; decide,fun pr hpr => ?_⟩
  have hlpr : l ≠ pr:=zu hpl hpr
  obtain ⟨d0,ed0⟩:=dat 0 (by decide) (by decide)
  obtain ⟨d1,ed1⟩:=dat 1 (by decide) (by decide)
  obtain ⟨d2,ed2⟩:=dat 2 (by decide) (by decide)
  obtain ⟨d3,ed3⟩:=dat 3 (by decide) (by decide)
  have hp2 : (upd H1 pr (.lst (zl.map V.int))) l = some (.lst (ds.map V.int)):=by rw [zn hlpr]; exact hpl
  obtain ⟨p1,mp1,ep1⟩:=zf0 (ns:=zl) (k:=d0 % 23) (Int.emod_nonneg _ (by decide)) (Int.emod_lt_of_pos _ (by decide))
  obtain ⟨p2,mp2,ep2⟩:=zf0 (ns:=zl) (k:=d0 % 3) (Int.emod_nonneg _ (by decide)) (by have:=Int.emod_lt_of_pos d0 (show (0 : Int) < 3 by decide); have e : (zl.length : Int) = 23:=rfl; omega)
  obtain ⟨p,ep,hpp⟩:=zhM (x:=p1) (y:=p2) (m:=d1 % 2) (Int.emod_nonneg _ (by decide)) (Int.emod_lt_of_pos _ (by decide))
  have mp : p ∈ zl:=by rcases hpp with e | e <;> rw [e] <;> assumption
  have rp:=zk mp
  refine ⟨_,rfl,_,rfl,l,_,_,_,rfl,rfl,SqL.of hp2,ed0,_,_,rfl,rfl,(by show (0 : Int) < 23; decide),pr,_,_,_,rfl,rfl,SqL.of zb,ep1,
   _,rfl,_,rfl,l,_,_,_,rfl,rfl,SqL.of hp2,ed0,_,_,rfl,rfl,(by show (0 : Int) < 3; decide),pr,_,_,_,rfl,rfl,SqL.of zb,ep2,zaC,fun l2 hl2 => ?_⟩
  have hll2 : l ≠ l2:=zu hp2 hl2
  have hp3 : (upd (upd H1 pr (.lst (zl.map V.int))) l2 (.lst [.int p1,.int p2])) l = some (.lst (ds.map V.int)):=by rw [zn hll2]; exact hp2
  refine ⟨_,rfl,l,_,_,_,rfl,rfl,SqL.of hp3,ed1,_,_,rfl,rfl,(by show (0 : Int) < 2; decide),l2,_,_,_,rfl,rfl,SqL.of zb,ep,?_⟩
  have hm1 : (0 : Int) < (if p < mk then p else mk):=by split <;> omega
  have hm2 : (if p < mk then p else mk) ≤ mk:=by split <;> omega
  have hm3 : (if p < mk then p else mk) ≤ p:=by split <;> omega
  refine ⟨_,rfl,l,_,_,_,rfl,rfl,SqL.of hp3,ed2,_,rfl,_,rfl,_,_,rfl,_,_,rfl,rfl,hm1,_,_,rfl,rfl,?_⟩
  generalize (if p < mk then p else mk) = mm at hm1 hm2 hm3 ⊢
  have hk0:=Int.emod_nonneg d2 (show mm ≠ 0 by omega)
  have hk1:=Int.emod_lt_of_pos d2 hm1
  have hn1 : (if p < mn then p else mn) ≤ mn:=by split <;> omega
  have hn2 : (if p < mn then p else mn) ≤ p:=by split <;> omega
  have hn3 : mm ≤ (if p < mn then p else mn):=by split <;> omega
  refine ⟨_,rfl,_,rfl,l,_,_,_,rfl,rfl,SqL.of hp3,ed3,_,rfl,_,rfl,_,_,rfl,_,rfl,_,_,rfl,rfl,_,_,rfl,rfl,_,_,rfl,rfl,(by omega),_,_,rfl,rfl,?_⟩
  generalize (if p < mn then p else mn) = nn at hn1 hn2 hn3 ⊢
  have hq0:=Int.emod_nonneg d3 (show nn - (1 + d2 % mm) + 1 ≠ 0 by omega)
  have hq1:=Int.emod_lt_of_pos d3 (show 0 < nn - (1 + d2 % mm) + 1 by omega)
  refine ⟨_,rfl,p,rfl,fun r hr2 => ⟨r,p,rfl,zb,by omega,by omega,fun lf hlf => ?_⟩⟩
  have hlr : l ≠ r:=zu hp3 hr2
  have hlf1 : l ≠ lf:=by
   refine zu (H:=upd (upd (upd H1 pr (.lst (zl.map V.int))) l2 (.lst [.int p1,.int p2])) r (.rng 0 p)) (o:=.lst (ds.map V.int)) ?_ hlf
   rw [zn hlr]; exact hp3
  have sA : zB H (upd (upd H1 pr (.lst (zl.map V.int))) l2 (.lst [.int p1,.int p2])):=(s1.trans (zd hpr)).trans (zd hl2)
  have sB:=(sA.trans (zd (o:=.rng 0 p) hr2)).trans (zd (o:=.lst ((zaa 0 p.toNat).map V.int)) hlf)
  have hlfH : H lf = none:=(sA.trans (zd (o:=.rng 0 p) hr2)).free hlf
  obtain ⟨nd0,rg0⟩:=zc6 p
  refine ⟨_,rfl,_,rfl,_,rfl,_,rfl,by omega,by omega,zY (n:=(1 + d2 % mm + d3 % (nn - (1 + d2 % mm) + 1)).toNat) (fun i ys H' => ∃ xs ls : List Int,ys = xs.map V.int ∧ xs.length = i ∧ zB H H' ∧ H' l = some (.lst (ds.map V.int)) ∧ H' lf = some (.lst (ls.map V.int)) ∧ ls.length + i = p.toNat ∧ (xs ++ ls).Nodup ∧ ∀ y ∈ xs ++ ls,0 ≤ y ∧ y < p)
   ⟨[],zaa 0 p.toNat,rfl,rfl,sB,by rw [zn hlf1,zn hlr]; exact hp3,zb,by rw [zaU]; rfl,by simpa using nd0,by simpa using rg0⟩ (fun i ys H' hi _ => hi) (fun ys H' _ => Nat.le_refl _) ?_ ?_⟩
  ·rintro i x ys H4 H5 hi ⟨xs,ls,rfl,hxl,s4,hpl4,hlf4,hll,nd,rg⟩ ⟨rfl,rfl⟩
   refine gY ?_
   obtain ⟨c,ec⟩:=dat (4 + (0 + (i : Int))) (by omega) (by omega)
   have lpos : 0 < ls.length:=by omega
   have lm : ((ls.map V.int).length : Int) = (ls.length : Int):=by rw [List.length_map]
   have c0:=Int.emod_nonneg c (show (ls.length : Int) ≠ 0 by omega)
   have c1:=Int.emod_lt_of_pos c (show (0 : Int) < ls.length by omega)
   have hsl:=sizeLine_eq
   obtain ⟨y,ey⟩ : ∃ y,ls[(c % (ls.length : Int)).toNat]? = some y:=⟨ls[(c % (ls.length : Int)).toNat]'(by omega),by simp⟩
   refine ⟨_,rfl,.inl ⟨rfl,_,SqL.of hlf4⟩,_,rfl,_,rfl,_,_,rfl,rfl,l,_,_,_,rfl,rfl,SqL.of hpl4,ec,_,rfl,lf,_,rfl,.inl (SqL.of hlf4),_,_,rfl,rfl,(by rw [lm]; omega),lf,_,_,(c % (ls.length : Int)).toNat,.int y,rfl,rfl,hlf4,?_⟩
   rw [lm]
   refine ⟨by omega,by omega,by rw [List.length_map]; exact seqIndex_of c0 c1,by rw [List.getElem?_map,ey]; rfl,zab (by rw [List.length_map]; omega),xs ++ [y],ls.eraseIdx (c % (ls.length : Int)).toNat,by rw [List.map_append]; rfl,by rw [List.length_append,hxl]; rfl,z6 s4 hlfH,by rw [zn hlf1]; exact hpl4,by rw [zb,zbT],?_,zeL ey nd rg⟩
   rw [List.length_eraseIdx]
   split <;> omega
  ·rintro ys H4 D ⟨xs,ls,rfl,hxl,s4,hpl4,hlf4,hll,nd,rg⟩ hD
   refine ⟨D,_,rfl,.inl ⟨SqL.of zb,fun tt htt => ⟨by show 3 ≤ sizeLine; rw [sizeLine_eq]; decide,fun c hc => ?_⟩⟩⟩
   have s5:=(s4.trans (zd (o:=.lst (xs.map V.int)) hD)).trans (zd (o:=.tup (xs.map V.int)) htt)
   refine q c tt p _ xs _ (s5.free hc) (s5.trans (zd hc)) ⟨mp,by omega,by omega,by omega,by omega,(List.nodup_append.mp nd).1,fun y hy => rg y (List.mem_append_left _ hy)⟩ zb ?_
   rw [zn (zu zb hc)]
   exact zb
theorem zay : FnScope ["p","polynomial","x","total","power","number"] ["p","polynomial","x"] (zj zbw):=⟨rfl,rfl,rfl,by decide +kernel,rfl,by decide +kernel,by decide +kernel⟩
theorem zcA {fd : FuncData} (T : Txt K mg t) (F : Fun K "_law_value" "_law_value" zbw t.l_value fd) : FnOk P w K mg base CX0 1 t.l_value fd ["p","polynomial","x"] (zeh K):=by
 refine F.ok zay (fun vs H Q E h => ?_) (fun cdv A outer s H vs Q E hr h => ?_)
 ·obtain ⟨p,x,a,cs,rfl,_⟩:=h
  rfl
 ·obtain ⟨p,x,a,cs,rfl,hS,p0,p1,x0,x1,q⟩:=h
  refine ⟨_,(@zc _ _ _ _ _ (@zo _ _ (3) _ _ _ _ zay.nd rfl (Or.inl rfl) (@zg _ _ _ _) (by rfl) (by trivial)) (by exact (@zc _ _ _ _ _ (@zo _ _ (4) _ _ _ _ zay.nd rfl (Or.inl rfl) (@zg _ _ _ _) (by rfl) (by trivial)) (by exact (@zc _ _ _ _ _ (@zaS _ _ _ _ _ _ _ _ PassesOwn.never rfl (@zhL _ _ _ _ (@pvx _ 1 _ _ rfl)) (@zi _ _ (5) _ zay.nd rfl (Or.inl rfl) (by trivial)) (@zc _ _ _ _ _ (@zo _ _ (3) _ _ _ _ zay.nd rfl (Or.inl rfl) (@zh _ _ _ _ _ _ _ _ (@zy _) (@zh _ _ _ _ _ _ _ _ (@zE _) (@pvx _ 3 _ _ rfl) (@zh _ _ _ _ _ _ _ _ (@zI _) (@pvx _ 5 _ _ rfl) (@pvx _ 4 _ _ rfl))) (@pvx _ 0 _ _ rfl)) (by rfl) (by trivial)) (by exact (@zp _ _ _ (@zo _ _ (4) _ _ _ _ zay.nd rfl (Or.inl rfl) (@zh _ _ _ _ _ _ _ _ (@zy _) (@zh _ _ _ _ _ _ _ _ (@zI _) (@pvx _ 4 _ _ rfl) (@pvx _ 2 _ _ rfl)) (@pvx _ 0 _ _ rfl)) (by rfl) (by trivial))))) (by intro _; rfl)) (by exact (@zp _ _ _ (@zG _ _ _ _ (@pvx _ 3 _ _ rfl))))))))),?_⟩
  refine ⟨_,rfl,a,rfl,?_⟩
  rcases hS with hS | hS
  ·refine .inl ⟨⟨_,hS⟩,zbG (K:=K) (a:=a) (xs:=cs.map V.int) (fun i σ H' => H' = H ∧ ∃ (total power : Int) (nb : Option V),σ = [some (.int p),some (.ref a),some (.int x),some (.int total),some (.int power),nb] ∧ 0 ≤ power ∧ power ≤ 97 ∧ lv p x total power (cs.drop i) = lv p x 0 1 cs)
    ⟨rfl,0,1,none,rfl,by decide,by decide,rfl⟩ (fun i σ H' _ ⟨e,_⟩ => by rw [e]; exact hS) ?_ ?_⟩
   ·rintro i y σ H1 hy ⟨rfl,total,power,nb,rfl,w0,w1,hl⟩
    obtain ⟨c,rfl,hc⟩:=zT hy
    have m0:=Int.emod_nonneg (power * x) (show p ≠ 0 by omega)
    have m1:=Int.emod_lt_of_pos (power * x) p0
    refine ⟨_,rfl,_,rfl,_,rfl,_,_,rfl,rfl,.inr ⟨by omega,by omega⟩,_,_,rfl,rfl,_,rfl,_,_,rfl,rfl,p0,?_⟩
    refine ⟨_,rfl,_,rfl,_,_,rfl,rfl,.inl ⟨by omega,by omega⟩,_,rfl,_,_,rfl,rfl,p0,?_⟩
    exact ⟨rfl,_,_,_,rfl,m0,by omega,(zeM hc).symm.trans hl⟩
   ·rintro σ H1 ⟨rfl,total,power,nb,rfl,w0,w1,hl⟩
    rw [List.length_map,List.drop_length] at hl
    have hl : total = lv p x 0 1 cs:=hl
    rw [zeF p0] at hl
    rw [← hl] at q
    exact ⟨_,rfl,q⟩
  ·refine .inr ⟨⟨_,hS⟩,zgF (K:=K) (a:=a) (xs:=cs.map V.int) (fun i σ H' => H' = H ∧ ∃ (total power : Int) (nb : Option V),σ = [some (.int p),some (.ref a),some (.int x),some (.int total),some (.int power),nb] ∧ 0 ≤ power ∧ power ≤ 97 ∧ lv p x total power (cs.drop i) = lv p x 0 1 cs)
    ⟨rfl,0,1,none,rfl,by decide,by decide,rfl⟩ (fun i σ H' _ ⟨e,_⟩ => by rw [e]; exact hS) ?_ ?_⟩
   ·rintro i y σ H1 hy ⟨rfl,total,power,nb,rfl,w0,w1,hl⟩
    obtain ⟨c,rfl,hc⟩:=zT hy
    have m0:=Int.emod_nonneg (power * x) (show p ≠ 0 by omega)
    have m1:=Int.emod_lt_of_pos (power * x) p0
    refine ⟨_,rfl,_,rfl,_,rfl,_,_,rfl,rfl,.inr ⟨by omega,by omega⟩,_,_,rfl,rfl,_,rfl,_,_,rfl,rfl,p0,?_⟩
    refine ⟨_,rfl,_,rfl,_,_,rfl,rfl,.inl ⟨by omega,by omega⟩,_,rfl,_,_,rfl,rfl,p0,?_⟩
    exact ⟨rfl,_,_,_,rfl,m0,by omega,(zeM hc).symm.trans hl⟩
   ·rintro σ H1 ⟨rfl,total,power,nb,rfl,w0,w1,hl⟩
    rw [List.length_map,List.drop_length] at hl
    have hl : total = lv p x 0 1 cs:=hl
    rw [zeF p0] at hl
    rw [← hl] at q
    exact ⟨_,rfl,q⟩
theorem zaP : FnScope ["p","polynomial","x","value","number"] ["p","polynomial","x"] (zj za7):=⟨rfl,rfl,rfl,by decide +kernel,rfl,by decide +kernel,by decide +kernel⟩
theorem zb9 {fd : FuncData} (T : Txt K mg t) (F : Fun K "value_at" "value_at" za7 t.value_at fd) : FnOk P w K mg base CX0 1 t.value_at fd ["p","polynomial","x"] (zb8 K):=by
 refine F.ok zaP (fun vs H Q E h => ?_) (fun cdv A outer s H vs Q E hr h => ?_)
 ·obtain ⟨p,x,a,cs,rfl,_⟩:=h
  rfl
 ·obtain ⟨p,x,a,cs,rfl,hS,p0,p1,x0,x1,q⟩:=h
  refine ⟨_,(@zc _ _ _ _ _ (@zo _ _ (3) _ _ _ _ zaP.nd rfl (Or.inl rfl) (@zg _ _ _ _) (by rfl) (by trivial)) (by exact (@zc _ _ _ _ _ (@zaS _ _ _ _ _ _ _ _ PassesOwn.never rfl (@zhK _ _ _ _ _ _ rfl T.reversed_ (@za _ _ _ _ _ (@pvx _ 1 _ _ rfl) (@zf _) (by rfl)) (by rfl)) (@zi _ _ (4) _ zaP.nd rfl (Or.inl rfl) (by trivial)) (@zp _ _ _ (@zo _ _ (3) _ _ _ _ zaP.nd rfl (Or.inl rfl) (@zh _ _ _ _ _ _ _ _ (@zy _) (@zh _ _ _ _ _ _ _ _ (@zE _) (@zh _ _ _ _ _ _ _ _ (@zI _) (@pvx _ 3 _ _ rfl) (@pvx _ 2 _ _ rfl)) (@pvx _ 4 _ _ rfl)) (@pvx _ 0 _ _ rfl)) (by rfl) (by trivial))) (by intro _; rfl)) (by exact (@zp _ _ _ (@zG _ _ _ _ (@pvx _ 3 _ _ rfl))))))),?_⟩
  refine ⟨_,rfl,a,cs.map V.int,rfl,?_⟩
  rcases hS with hS | hS
  ·refine .inl ⟨hS,?_⟩
   rw [List.length_map]
   refine zdn (n:=cs.length) (fun i σ H' => H' = H ∧ ∃ nb,σ = [some (.int p),some (.ref a),some (.int x),some (.int (ze p x (cs.drop (cs.length - i)))),nb]) ⟨rfl,none,by rw [Nat.sub_zero,List.drop_length]; rfl⟩
    (fun i σ H' hi ⟨e,_⟩ => ⟨hi,cs.map V.int,by rw [e]; exact hS,by rw [List.length_map]⟩) (fun σ H' _ => Nat.le_refl _) ?_ ?_
   ·rintro i y σ H1 H2 hi ⟨rfl,nb,rfl⟩ ⟨rfl,hy⟩
    obtain ⟨c,rfl,hc⟩:=zT (hy _ hS)
    have v0:=zM (x:=x) p0 (cs.drop (cs.length - i))
    have v1:=zN (x:=x) p0 (cs.drop (cs.length - i))
    refine ⟨_,rfl,_,rfl,_,_,rfl,rfl,.inl ⟨by omega,by omega⟩,_,rfl,_,_,rfl,rfl,_,rfl,_,_,rfl,rfl,p0,?_⟩
    refine ⟨rfl,some (.int c),?_⟩
    rw [zc7 hi hc]
    show _ = [some (V.int p),_,_,some (V.int ((c + x * ze p x (cs.drop (cs.length - i))) % p)),_]
    rw [Int.add_comm c,Int.mul_comm x]
    rfl
   ·rintro σ H1 ⟨rfl,nb,rfl⟩
    rw [Nat.sub_self,List.drop_zero]
    exact ⟨_,rfl,q⟩
  ·refine .inr ⟨hS,?_⟩
   rw [List.length_map]
   refine zdn (n:=cs.length) (fun i σ H' => H' = H ∧ ∃ nb,σ = [some (.int p),some (.ref a),some (.int x),some (.int (ze p x (cs.drop (cs.length - i)))),nb]) ⟨rfl,none,by rw [Nat.sub_zero,List.drop_length]; rfl⟩
    (fun i σ H' hi ⟨e,_⟩ => ⟨hi,cs.map V.int,by rw [e]; exact hS,by rw [List.length_map]⟩) (fun σ H' _ => Nat.le_refl _) ?_ ?_
   ·rintro i y σ H1 H2 hi ⟨rfl,nb,rfl⟩ ⟨rfl,hy⟩
    obtain ⟨c,rfl,hc⟩:=zT (hy _ hS)
    have v0:=zM (x:=x) p0 (cs.drop (cs.length - i))
    have v1:=zN (x:=x) p0 (cs.drop (cs.length - i))
    refine ⟨_,rfl,_,rfl,_,_,rfl,rfl,.inl ⟨by omega,by omega⟩,_,rfl,_,_,rfl,rfl,_,rfl,_,_,rfl,rfl,p0,?_⟩
    refine ⟨rfl,some (.int c),?_⟩
    rw [zc7 hi hc]
    show _ = [some (V.int p),_,_,some (V.int ((c + x * ze p x (cs.drop (cs.length - i))) % p)),_]
    rw [Int.add_comm c,Int.mul_comm x]
    rfl
   ·rintro σ H1 ⟨rfl,nb,rfl⟩
    rw [Nat.sub_self,List.drop_zero]
    exact ⟨_,rfl,q⟩
theorem zae : FnScope ["p","number","product","square","left"] ["p","number"] (zj zbt):=⟨rfl,rfl,rfl,by decide +kernel,rfl,by decide +kernel,by decide +kernel⟩
theorem zcB {fd : FuncData} (T : Txt K mg t) (F : Fun K "inverse" "inverse" zbt t.inverse fd) : FnOk P w K mg base CX0 1 t.inverse fd ["p","number"] (zei K):=by
 refine F.ok zae (fun vs H Q E h => ?_) (fun cdv A outer s H vs Q E hr h => ?_)
 ·obtain ⟨p,h,rfl,_⟩:=h
  rfl
 ·obtain ⟨p,hh,rfl,mp,h0,h1,q⟩:=h
  refine ⟨_,(@zc _ _ _ _ _ (@zo _ _ (2) _ _ _ _ zae.nd rfl (Or.inl rfl) (@zg _ _ _ _) (by rfl) (by trivial)) (by exact (@zc _ _ _ _ _ (@zo _ _ (3) _ _ _ _ zae.nd rfl (Or.inl rfl) (@zh _ _ _ _ _ _ _ _ (@zy _) (@pvx _ 1 _ _ rfl) (@pvx _ 0 _ _ rfl)) (by rfl) (by trivial)) (by exact (@zc _ _ _ _ _ (@zo _ _ (4) _ _ _ _ zae.nd rfl (Or.inl rfl) (@zh _ _ _ _ _ _ _ _ (@zbD _) (@pvx _ 0 _ _ rfl) (@zg _ _ _ _)) (by rfl) (by trivial)) (by exact (@zc _ _ _ _ _ (@zdD _ _ _ _ _ _ PassesOwn.never (@zV _ _ _ _ _ _ _ _ (@zhc _) (@pvx _ 4 _ _ rfl) (@zg _ _ _ _) (zak _)) (@zc _ _ _ _ _ (@zbc _ _ _ _ _ _ _ _ (@zV _ _ _ _ _ _ _ _ (@zhb _) (@zh _ _ _ _ _ _ _ _ (@zy _) (@pvx _ 4 _ _ rfl) (@zg _ _ _ _)) (@zg _ _ _ _) (zak _)) (@zp _ _ _ (@zo _ _ (2) _ _ _ _ zae.nd rfl (Or.inl rfl) (@zh _ _ _ _ _ _ _ _ (@zy _) (@zh _ _ _ _ _ _ _ _ (@zI _) (@pvx _ 2 _ _ rfl) (@pvx _ 3 _ _ rfl)) (@pvx _ 0 _ _ rfl)) (by rfl) (by trivial))) (@zai _)) (by exact (@zc _ _ _ _ _ (@zo _ _ (3) _ _ _ _ zae.nd rfl (Or.inl rfl) (@zh _ _ _ _ _ _ _ _ (@zy _) (@zh _ _ _ _ _ _ _ _ (@zI _) (@pvx _ 3 _ _ rfl) (@pvx _ 3 _ _ rfl)) (@pvx _ 0 _ _ rfl)) (by rfl) (by trivial)) (by exact (@zp _ _ _ (@zfy _ _ (4) _ _ _ _ _ _ zae.nd rfl (Or.inl rfl) (@zg _ _ _ _) zfD (by trivial)))))))) (by exact (@zp _ _ _ (@zG _ _ _ _ (@pvx _ 2 _ _ rfl))))))))))),?_⟩
  have rp:=zk mp
  have e0:=Int.emod_nonneg hh (show p ≠ 0 by omega)
  have e1:=Int.emod_lt_of_pos hh (show 0 < p by omega)
  refine ⟨_,rfl,_,rfl,_,_,rfl,rfl,(by show 0 < p; omega),_,rfl,_,_,rfl,rfl,?_⟩
  refine zfC (fun σ H' => H' = H ∧ ∃ (prod sq left : Int) (n : Nat),σ = [some (.int p),some (.int hh),some (.int prod),some (.int sq),some (.int left)] ∧ 0 ≤ prod ∧ prod < p ∧ 0 ≤ sq ∧ sq < p ∧ 0 ≤ left ∧ left < 2 ^ n ∧ zbr p n prod sq left = inv p hh) (fun σ _ => zhN σ)
   ⟨rfl,1,hh % p,p - 2,7,rfl,by omega,by omega,e0,e1,by omega,by omega,rfl⟩ ?_ ?_
  ·rintro σ H1 ⟨rfl,prod,sq,left,n,rfl,b0,b1,s0,s1,l0,l1,hi⟩
   refine ⟨_,rfl,_,_,rfl,rfl,_,rfl,?_⟩
   refine za2 (fun hl => ?_) (fun hl => ?_)
   ·have hl : 0 < left:=by simpa using hl
    obtain ⟨m,rfl⟩ : ∃ m,n = m + 1:=by
     cases n with
     | zero => omega
     | succ m => exact ⟨m,rfl⟩
    rw [zdt hl l1] at hi
    have l2 : left / 2 < 2 ^ m:=by
     have : (2 : Int) ^ (m + 1) = 2 ^ m * 2:=Int.pow_succ ..
     omega
    have m0:=Int.emod_nonneg (prod * sq) (show p ≠ 0 by omega)
    have m1:=Int.emod_lt_of_pos (prod * sq) (show 0 < p by omega)
    have n0:=Int.emod_nonneg (sq * sq) (show p ≠ 0 by omega)
    have n1:=Int.emod_lt_of_pos (sq * sq) (show 0 < p by omega)
    refine ⟨_,rfl,_,_,rfl,rfl,(by show (0 : Int) < 2; decide),rfl,_,rfl,?_⟩; refine za2 (fun ho => ?_) (fun ho => ?_)
    ·have ho : left % 2 = 1:=by simpa using ho
     rw [if_pos ho] at hi
     refine ⟨_,rfl,_,rfl,_,_,rfl,rfl,.inl ⟨by omega,by omega⟩,_,rfl,_,_,rfl,rfl,(by show 0 < p; omega),?_⟩
     refine ⟨_,rfl,_,rfl,_,_,rfl,rfl,.inl ⟨by omega,by omega⟩,_,rfl,_,_,rfl,rfl,(by show 0 < p; omega),?_⟩
     refine ⟨_,rfl,_,_,rfl,rfl,⟨by decide,by decide⟩,⟨rfl,_,_,_,m,rfl,m0,m1,n0,n1,by omega,l2,hi⟩,?_⟩
     show (left / 2).toNat < left.toNat
     omega
    ·have ho : ¬ left % 2 = 1:=by simpa using ho
     rw [if_neg ho] at hi
     refine ⟨_,rfl,_,rfl,_,_,rfl,rfl,.inl ⟨by omega,by omega⟩,_,rfl,_,_,rfl,rfl,(by show 0 < p; omega),?_⟩
     refine ⟨_,rfl,_,_,rfl,rfl,⟨by decide,by decide⟩,⟨rfl,_,_,_,m,rfl,b0,b1,n0,n1,by omega,l2,hi⟩,?_⟩
     show (left / 2).toNat < left.toNat
     omega
   ·have hl : ¬ 0 < left:=by simpa using hl
    have el : left = 0:=by omega
    subst el
    rw [zdQ] at hi
    rw [← hi] at q
    exact ⟨_,rfl,q⟩
  ·rintro σ H1 Q1 Q2 hq ⟨v,e,i,j,e1,e2,k,e3,q⟩
   exact ⟨v,e,i,j,e1,e2,k,e3,hq _ _ q⟩
theorem zaV : FnScope ["p","polynomial","root","raised","kept"] ["p","polynomial","root"] (zj zap):=⟨rfl,rfl,rfl,by decide +kernel,rfl,by decide +kernel,by decide +kernel⟩
theorem zcN {fd : FuncData} (T : Txt K mg t) (F : Fun K "times_root" "times_root" zap t.times_root fd) : FnOk P w K mg base CX0 1 t.times_root fd ["p","polynomial","root"] (zcL K):=by
 refine F.ok zaV (fun vs H Q E h => ?_) (fun cdv A outer s H vs Q E hr h => ?_)
 ·obtain ⟨p,r,a,cs,rfl,_⟩:=h
  rfl
 ·obtain ⟨p,r,a,cs,rfl,ha,hlen,p0,r0,r1,q⟩:=h
  refine ⟨_,(@zc _ _ _ _ _ (@zo _ _ (3) _ _ _ _ zaV.nd rfl (Or.inl rfl) (@zh _ _ _ _ _ _ _ _ (@zdl _) (@zav _ _ _ _ (@za _ _ _ _ _ (@zg _ _ _ _) (@zf _) (by rfl))) (@pvx _ 1 _ _ rfl)) (by rfl) (by trivial)) (by exact (@zc _ _ _ _ _ (@zo _ _ (4) _ _ _ _ zaV.nd rfl (Or.inl rfl) (@zh _ _ _ _ _ _ _ _ (@zdl _) (@pvx _ 1 _ _ rfl) (@zav _ _ _ _ (@za _ _ _ _ _ (@zg _ _ _ _) (@zf _) (by rfl)))) (by rfl) (by trivial)) (by exact (@zp _ _ _ (@zG _ _ _ _ (@zan _ _ _ _ _ _ _ _ _ _ _ _ _ (CompSc.of (N':=["high","low","root","p"]) (ix:=[none,none,some 2,some 0]) (zj zap) ["p","polynomial","root","raised","kept"] rfl rfl (by decide +kernel)) rfl (@zcp _ _ _ _ (@z8 _ _ _ rfl (@z8 _ _ _ rfl (@zbI _)))) (@zdo _ _ _ _ _ _ _ _ _ rfl T.zip_ (@za _ _ _ _ _ (@pvx _ 3 _ _ rfl) (@za _ _ _ _ _ (@pvx _ 4 _ _ rfl) (@zf _) (by rfl)) (by rfl)) (by rfl) (by rfl)) (fun _ _ _ _ => (@zbJ _ (K) _ _ _ (2) _ rfl rfl (@zm _ _ _ _ _ (@zi _ _ (0) _ (show (["high","low","root","p"] : List Str).Nodup by decide +kernel) rfl (Or.inl rfl) (by trivial)) (@zm _ _ _ _ _ (@zi _ _ (1) _ (show (["high","low","root","p"] : List Str).Nodup by decide +kernel) rfl (Or.inl rfl) (by trivial)) (@zS _) (by rfl)) (by rfl)) (by rfl) (by rfl))) (fun _ _ _ _ => (@zL _)) (fun _ _ _ _ => (@zh _ _ _ _ _ _ _ _ (@zy _) (@zh _ _ _ _ _ _ _ _ (@zbD _) (@pvx _ 0 _ _ rfl) (@zh _ _ _ _ _ _ _ _ (@zI _) (@pvx _ 2 _ _ rfl) (@pvx _ 1 _ _ rfl))) (@pvx _ 3 _ _ rfl))) (by intro _; rfl)))))))),?_⟩
  have hsl:=sizeLine_eq
  refine ⟨by show 1 ≤ sizeLine; omega,fun z hz => ⟨_,rfl,z,a,[.int 0],cs.map V.int,rfl,rfl,zb,by rw [zn (zu ha hz)]; exact ha,by rw [List.length_map]; show 1 + cs.length ≤ sizeLine; omega,fun ra hra => ?_⟩⟩
  have s1 : zB H (upd (upd H z (.lst [.int 0])) ra (.lst ([.int 0] ++ cs.map V.int))):=(zd hz).trans (zd hra)
  refine ⟨_,rfl,by show 1 ≤ sizeLine; omega,fun z2 hz2 => ⟨a,z2,cs.map V.int,[.int 0],rfl,rfl,by rw [zn (zu (s1 _ _ ha) hz2)]; exact s1 _ _ ha,zb,by rw [List.length_map]; show cs.length + 1 ≤ sizeLine; omega,fun ke hke => ?_⟩⟩
  have s2:=s1.trans ((zd (o:=.lst [.int 0]) hz2).trans (zd (o:=.lst (cs.map V.int ++ [.int 0])) hke))
  have hra2 : upd (upd (upd (upd H z (.lst [.int 0])) ra (.lst ([.int 0] ++ cs.map V.int))) z2 (.lst [.int 0])) ke (.lst (cs.map V.int ++ [.int 0])) ra = some (.lst ((0 :: cs).map V.int)) :=
   ((zd (o:=.lst [.int 0]) hz2).trans (zd (o:=.lst (cs.map V.int ++ [.int 0])) hke)) _ _ zb
  have hke2 : upd (upd (upd (upd H z (.lst [.int 0])) ra (.lst ([.int 0] ++ cs.map V.int))) z2 (.lst [.int 0])) ke (.lst (cs.map V.int ++ [.int 0])) ke = some (.lst ((cs ++ [0]).map V.int)):=by rw [zb,List.map_append]; rfl
  generalize upd (upd (upd (upd H z (.lst [.int 0])) ra (.lst ([.int 0] ++ cs.map V.int))) z2 (.lst [.int 0])) ke (.lst (cs.map V.int ++ [.int 0])) = H2 at s2 hra2 hke2 ⊢
  refine ⟨_,rfl,_,rfl,ra,ke,_,_,rfl,SqL.of hra2,SqL.of hke2,zY (n:=cs.length + 1) (fun i ys H' => ys = ((zbj p r cs).take i).map V.int ∧ zB H2 H') ⟨by simp,fun _ _ e => e⟩ ?_ ?_ ?_ ?_⟩
  ·rintro i ys H3 hi ⟨_,s3⟩
   obtain ⟨x,hx⟩ : ∃ x,(0 :: cs)[i]? = some x:=⟨(0 :: cs)[i]'(by simpa using hi),by simp⟩
   obtain ⟨y,hy⟩ : ∃ y,(cs ++ [0])[i]? = some y:=⟨(cs ++ [0])[i]'(by simpa using hi),by simp⟩
   exact ⟨_,_,.int x,.int y,SqL.of (s3 _ _ hra2),SqL.of (s3 _ _ hke2),by rw [List.getElem?_map,hx]; rfl,by rw [List.getElem?_map,hy]; rfl⟩
  ·rintro ys H3 ⟨_,s3⟩
   exact ⟨_,_,SqL.of (s3 _ _ hra2),SqL.of (s3 _ _ hke2),.inl (by simp)⟩
  ·rintro i x ys H3 H4 hi ⟨rfl,s3⟩ ⟨T,u,v,hT,rfl,rfl,hu,hv⟩
   obtain ⟨x,rfl,hx⟩:=zT (hu _ (SqL.of (s3 _ _ hra2)))
   obtain ⟨y,rfl,hy⟩:=zT (hv _ (SqL.of (s3 _ _ hke2)))
   refine gY2 (SqT.of zb) ?_
   refine ⟨_,rfl,_,rfl,_,rfl,_,_,rfl,rfl,.inl ⟨by omega,by omega⟩,_,_,rfl,rfl,_,rfl,_,_,rfl,rfl,p0,zab ?_,?_,s3.trans (zd hT)⟩
   ·rw [List.length_map]
    exact Nat.le_trans (List.length_take_le _ _) (by omega)
   ·show _ = (List.take (i + 1) (List.zipWith (trF p r) (0 :: cs) (cs ++ [0]))).map V.int
    rw [zdR hx hy,List.map_append]
    rfl
  ·rintro ys H3 D ⟨rfl,s3⟩ hD
   refine q D _ ((s2.trans s3).free hD) ((s2.trans s3).trans (zd hD)) ?_
   rw [zb,List.take_of_length_le (by rw [zbS]; exact Nat.le_refl _)]
theorem zgj {p f : Int} : ∀ (cs vs : List Int),vs.length ≤ cs.length → ad p f cs vs = List.zipWith (fun number other => (number + f * other) % p) cs vs ++ cs.drop vs.length
 | [],[],_ => rfl
 | _ :: _,[],_ => rfl
 | [],_ :: _,h => by simp at h
 | c :: cs,v :: vs,h => by
  show (c + f * v) % p :: ad p f cs vs = (c + f * v) % p :: (List.zipWith _ cs vs ++ cs.drop vs.length)
  rw [zgj cs vs (by simpa using h)]
theorem zgk {xs : List V} {k : Nat} (h : k ≤ xs.length) : za9 xs (some (k : Int)) none = xs.drop k:=by
 have e1 : HT.sIx xs.length 0 (some (k : Int)) = k:=by
  unfold HT.sIx
  simp
  split <;> omega
 have e2 : HT.sIx xs.length xs.length none = xs.length:=rfl
 unfold za9
 rw [e1,e2]
 exact List.take_of_length_le (by rw [List.length_drop]; exact Nat.le_refl _)
def zg0 (K : PySem.W.Frag) : Sp:=fun vs H Q _ => ∃ (p x y : Int) (c v b : Addr) (cs ws : List Int),vs = [.int p,.ref c,.ref v,.ref b] ∧ H c = some (.lst (cs.map V.int)) ∧ H v = some (.lst (ws.map V.int)) ∧ H b = some (.tup [.int x,.int y]) ∧ p ∈ zl ∧ 0 ≤ x ∧ x < p ∧ 0 ≤ y ∧ y < 10000 ∧ 0 < ze p x ws ∧ ze p x ws < p ∧ ws.length ≤ cs.length ∧ cs.length ≤ 1000 ∧
 ∀ (l : Addr) (H' : Hp),H l = none → zB H H' → H' l = some (.lst ((ad p ((y - ze p x cs) * inv p (ze p x ws) % p) cs ws).map V.int)) → Q (.ref l) H'
theorem zby : FnScope ["p","polynomial","vanishing","point","x","y","missing","factor","added"] ["p","polynomial","vanishing","point"] (zj zcy):=⟨rfl,rfl,rfl,by decide +kernel,rfl,by decide +kernel,by decide +kernel⟩
theorem zg1 {fd : FuncData} (T : Txt K mg t) (F : Fun K "bent" "bent" zcy t.bent fd) : FnOk P w K mg base CX0 2 t.bent fd ["p","polynomial","vanishing","point"] (zg0 K):=by
 obtain ⟨fd_value_at,F_value_at,b_value_at⟩:=T.f_value_at
 have G_value_at:=zb9 (P:=P) (w:=w) (base:=base) T F_value_at
 obtain ⟨fd_inverse,F_inverse,b_inverse⟩:=T.f_inverse
 have G_inverse:=zcB (P:=P) (w:=w) (base:=base) T F_inverse
 refine F.ok zby (fun vs H Q E h => ?_) (fun cdv A outer s H vs Q E hr h => ?_)
 ·obtain ⟨p,x,y,c,v,b,cs,ws,rfl,_⟩:=h
  rfl
 ·obtain ⟨p,x,y,c,v,b,cs,ws,rfl,hc,hv,hb,mp,x0,x1,y0,y1,g0,g1,hle,hlen,q⟩:=h
  refine ⟨_,(@zc _ _ _ _ _ (@zaR _ _ _ _ _ _ (@pvx _ 3 _ _ rfl) (@zas _ _ _ _ _ _ rfl (@zm _ _ _ _ _ (@zi _ _ (4) _ zby.nd rfl (Or.inl rfl) (by trivial)) (@zm _ _ _ _ _ (@zi _ _ (5) _ zby.nd rfl (Or.inl rfl) (by trivial)) (@zS _) (by rfl)) (by rfl)) (by rfl) (by rfl)) (by rfl) (by rfl) (by rfl)) (by exact (@zc _ _ _ _ _ (@zo _ _ (6) _ _ _ _ zby.nd rfl (Or.inl rfl) (@zh _ _ _ _ _ _ _ _ (@zbD _) (@pvx _ 5 _ _ rfl) (@zt _ _ _ _ _ _ _ _ _ _ _ _ _ _ _ _ G_value_at (hr.mono (by decide)) rfl T.m_value_at F_value_at.kp b_value_at .nil (@zP _) (@za _ _ _ _ _ (@pvx _ 0 _ _ rfl) (@za _ _ _ _ _ (@pvx _ 1 _ _ rfl) (@za _ _ _ _ _ (@pvx _ 4 _ _ rfl) (@zf _) (by rfl)) (by rfl)) (by rfl)) (by decide) (by rfl) (by rfl))) (by rfl) (by trivial)) (by exact (@zc _ _ _ _ _ (@zo _ _ (7) _ _ _ _ zby.nd rfl (Or.inr rfl) (@zh _ _ _ _ _ _ _ _ (@zy _) (@zh _ _ _ _ _ _ _ _ (@zI _) (@pvx _ 6 _ _ rfl) (@zt _ _ _ _ _ _ _ _ _ _ _ _ _ _ _ _ G_inverse (hr.mono (by decide)) rfl T.m_inverse F_inverse.kp b_inverse .nil (@zP _) (@za _ _ _ _ _ (@pvx _ 0 _ _ rfl) (@za _ _ _ _ _ (@zt _ _ _ _ _ _ _ _ _ _ _ _ _ _ _ _ G_value_at (hr.mono (by decide)) rfl T.m_value_at F_value_at.kp b_value_at .nil (@zP _) (@za _ _ _ _ _ (@pvx _ 0 _ _ rfl) (@za _ _ _ _ _ (@pvx _ 2 _ _ rfl) (@za _ _ _ _ _ (@pvx _ 4 _ _ rfl) (@zf _) (by rfl)) (by rfl)) (by rfl)) (by decide) (by rfl) (by rfl)) (@zf _) (by rfl)) (by rfl)) (by decide) (by rfl) (by rfl))) (@pvx _ 0 _ _ rfl)) (by rfl) (by trivial)) (by exact (@zc _ _ _ _ _ (@zaK _ _ _ _ _ _ _ _ _ _ _ _ _ (8) _ _ _ zby.nd rfl (Or.inl rfl) (CompSc.of (N':=["number","other","factor","p"]) (ix:=[none,none,some 7,some 0]) (zj zcy) ["p","polynomial","vanishing","point","x","y","missing","factor","added"] rfl rfl (by decide +kernel)) rfl (@zcp _ _ _ _ (@z8 _ _ _ rfl (@z8 _ _ _ rfl (@zbI _)))) (@zdo _ _ _ _ _ _ _ _ _ rfl T.zip_ (@za _ _ _ _ _ (@pvx _ 1 _ _ rfl) (@za _ _ _ _ _ (@pvx _ 2 _ _ rfl) (@zf _) (by rfl)) (by rfl)) (by rfl) (by rfl)) (fun _ _ _ _ => (@zbJ _ (K) _ _ _ (2) _ rfl rfl (@zm _ _ _ _ _ (@zi _ _ (0) _ (show (["number","other","factor","p"] : List Str).Nodup by decide +kernel) rfl (Or.inl rfl) (by trivial)) (@zm _ _ _ _ _ (@zi _ _ (1) _ (show (["number","other","factor","p"] : List Str).Nodup by decide +kernel) rfl (Or.inl rfl) (by trivial)) (@zS _) (by rfl)) (by rfl)) (by rfl) (by rfl))) (fun _ _ _ _ => (@zL _)) (fun _ _ _ _ => (@zh _ _ _ _ _ _ _ _ (@zy _) (@zh _ _ _ _ _ _ _ _ (@zE _) (@pvx _ 0 _ _ rfl) (@zh _ _ _ _ _ _ _ _ (@zI _) (@pvx _ 2 _ _ rfl) (@pvx _ 1 _ _ rfl))) (@pvx _ 3 _ _ rfl))) (by rfl) (by intro _; rfl) (by trivial)) (by exact (@zp _ _ _ (@zG _ _ _ _ (@zh _ _ _ _ _ _ _ _ (@zdl _) (@pvx _ 8 _ _ rfl) (@zbe _ _ _ _ _ _ _ _ _ _ zdj (@pvx _ 1 _ _ rfl) (@zbq _ _ _ (@zK _ _ _ _ _ _ _ _ _ (@zz _) (by rfl) T.len_ boot_len (@za _ _ _ _ _ (@pvx _ 8 _ _ rfl) (@zf _) (by rfl)) (by decide) (by decide) (by rfl) (by rfl))) (@zce _))))))))))))),?_⟩
  have hsl:=sizeLine_eq
  have rp:=zk mp
  have p0 : 0 < p:=by omega
  have v0:=zM (x:=x) p0 cs
  have v1:=zN (x:=x) p0 cs
  refine ⟨_,rfl,b,_,rfl,SqT.of hb,rfl,_,_,rfl,_,_,rfl,rfl,?_⟩
  refine ⟨_,rfl,_,rfl,_,rfl,_,rfl,p,x,c,cs,rfl,.inl (SqL.of hc),p0,by omega,x0,x1,_,_,rfl,rfl,?_⟩
  refine ⟨_,rfl,_,rfl,_,rfl,_,rfl,_,rfl,p,x,v,ws,rfl,.inl (SqL.of hv),p0,by omega,x0,x1,p,_,rfl,mp,by omega,by omega,_,_,rfl,rfl,.inl ⟨by omega,by omega⟩,_,rfl,_,_,rfl,rfl,p0,?_⟩
  have f0:=Int.emod_nonneg ((y - ze p x cs) * inv p (ze p x ws)) (show p ≠ 0 by omega)
  have f1:=Int.emod_lt_of_pos ((y - ze p x cs) * inv p (ze p x ws)) p0
  refine ⟨_,rfl,_,rfl,c,v,_,_,rfl,SqL.of hc,SqL.of hv,zc8 (n:=ws.length) (f:=fun number other => (number + ((y - ze p x cs) * inv p (ze p x ws) % p) * other) % p) hc hv hle (Nat.le_refl _) (.inr (Nat.le_refl _)) (by omega) ?_ ?_⟩
  ·intro j u w H6 T R B hu hv s6 hT hR
   refine gY2 (SqT.of zb) ?_
   exact ⟨_,rfl,_,rfl,_,rfl,_,_,rfl,rfl,.inl ⟨by omega,by omega⟩,_,_,rfl,rfl,_,rfl,_,_,rfl,rfl,p0,hR⟩
  ·intro D H6 s6 hD
   obtain ⟨f,hf⟩ : ∃ f,(y - ze p x cs) * inv p (ze p x ws) % p = f:=⟨_,rfl⟩
   rw [hf] at q ⊢
   have lz : (List.zipWith (fun number other => (number + f * other) % p) cs ws).length = ws.length:=by rw [List.length_zipWith]; omega
   have s7:=s6.trans (zd (o:=.lst ((List.zipWith (fun number other => (number + f * other) % p) cs ws).map V.int)) hD)
   have h7D : upd H6 D (.lst ((List.zipWith (fun number other => (number + f * other) % p) cs ws).map V.int)) D = some (.lst ((List.zipWith (fun number other => (number + f * other) % p) cs ws).map V.int)):=zb
   generalize upd H6 D (.lst ((List.zipWith (fun number other => (number + f * other) % p) cs ws).map V.int)) = H7 at s7 h7D ⊢
   have h7c:=s7 _ _ hc
   refine ⟨_,rfl,_,rfl,_,rfl,D,_,rfl,.inl (SqL.of h7D),?_⟩
   refine ⟨_,rfl,c,_,rfl,SqL.of h7c,fun z hz => ?_⟩
   have ec : za9 (cs.map V.int) (some ((((List.zipWith (fun number other => (number + f * other) % p) cs ws).map V.int).length : Nat) : Int)) none = (cs.drop ws.length).map V.int:=by
    rw [List.length_map,lz,zgk (by rw [List.length_map]; exact hle),List.map_drop]
   rw [ec]
   have s8:=zd (o:=.lst ((cs.drop ws.length).map V.int)) hz
   refine ⟨D,z,_,_,rfl,rfl,s8 _ _ h7D,zb,by rw [List.length_map,List.length_map,lz,List.length_drop]; omega,fun l hl => q l _ (((s7.trans s8).free hl)) ((s7.trans s8).trans (zd hl)) ?_⟩
   rw [zb,zgj cs ws hle,List.map_append]
def md (p : Int) (q : Int × Int) : Int × Int:=(q.1,q.2 % p)
theorem zdZ (p : Int) (s : List Int × List Int) (q : Int × Int) : zbk p s (md p q) = zbk p s q:=by
 unfold zbk md
 have : (q.2 % p - ze p q.1 s.1) * inv p (ze p q.1 s.2) % p = (q.2 - ze p q.1 s.1) * inv p (ze p q.1 s.2) % p:=(((Cg.emod p q.2).sub (Cg.refl p _)).mul (Cg.refl p _)).mod_eq
 dsimp only
 rw [this]
theorem zeY (p : Int) : ∀ (pts : List (Int × Int)) (s : List Int × List Int),(pts.map (md p)).foldl (zbk p) s = pts.foldl (zbk p) s
 | [],s => rfl
 | q :: pts,s => by
  rw [List.map_cons,List.foldl_cons,List.foldl_cons,zdZ,zeY p pts]
theorem zh0 (p : Int) (pts : List (Int × Int)) : thr p (pts.map (md p)) = thr p pts:=by
 unfold thr ziy
 rw [zeY,List.length_map]
def zd0 (K : PySem.W.Frag) : Sp:=fun vs H Q _ => ∃ (p : Int) (a : Addr) (pts : List (Int × Int)),vs = [.int p,.ref a] ∧ zhh K H a pts ∧ pts.length ≤ 100 ∧ p ∈ zl ∧ Pts p (pts.map (md p)) ∧ (∀ q ∈ pts,0 ≤ q.2 ∧ q.2 < 10000) ∧
 ∀ (l : Addr) (H' : Hp),H l = none → zB H H' → H' l = some (.tup ((thr p (pts.map (md p))).map V.int)) → Q (.ref l) H'
theorem zaf : FnScope ["p","points","polynomial","vanishing","x","y"] ["p","points"] (zj zbu):=⟨rfl,rfl,rfl,by decide +kernel,rfl,by decide +kernel,by decide +kernel⟩
theorem zem {fd : FuncData} (T : Txt K mg t) (F : Fun K "through" "through" zbu t.through fd) : FnOk P w K mg base CX0 3 t.through fd ["p","points"] (zd0 K):=by
 obtain ⟨fd_bent,F_bent,b_bent⟩:=T.f_bent
 have G_bent:=zg1 (P:=P) (w:=w) (base:=base) T F_bent
 obtain ⟨fd_times_root,F_times_root,b_times_root⟩:=T.f_times_root
 have G_times_root:=zcN (P:=P) (w:=w) (base:=base) T F_times_root
 refine F.ok zaf (fun vs H Q E h => ?_) (fun cdv A outer s H vs Q E hr h => ?_)
 ·obtain ⟨p,a,pts,rfl,_⟩:=h
  rfl
 ·obtain ⟨p,a,pts,rfl,hP,hlen,mp,hp,hyr,q⟩:=h
  refine ⟨_,(@zc _ _ _ _ _ (@zo _ _ (2) _ _ _ _ zaf.nd rfl (Or.inl rfl) (@zh _ _ _ _ _ _ _ _ (@zfL _) (@zav _ _ _ _ (@za _ _ _ _ _ (@zg _ _ _ _) (@zf _) (by rfl))) (@zK _ _ _ _ _ _ _ _ _ (@zz _) (by rfl) T.len_ boot_len (@za _ _ _ _ _ (@pvx _ 1 _ _ rfl) (@zf _) (by rfl)) (by decide) (by decide) (by rfl) (by rfl))) (by rfl) (by trivial)) (by exact (@zc _ _ _ _ _ (@zo _ _ (3) _ _ _ _ zaf.nd rfl (Or.inl rfl) (@zav _ _ _ _ (@za _ _ _ _ _ (@zg _ _ _ _) (@zf _) (by rfl))) (by rfl) (by trivial)) (by exact (@zc _ _ _ _ _ (@zaS _ _ _ _ _ _ _ _ PassesOwn.never rfl (@zaj _ _ _ _ (@pvx _ 1 _ _ rfl)) (@zas _ _ _ _ _ _ rfl (@zm _ _ _ _ _ (@zi _ _ (4) _ zaf.nd rfl (Or.inl rfl) (by trivial)) (@zm _ _ _ _ _ (@zi _ _ (5) _ zaf.nd rfl (Or.inl rfl) (by trivial)) (@zS _) (by rfl)) (by rfl)) (by rfl) (by rfl)) (@zc _ _ _ _ _ (@zo _ _ (2) _ _ _ _ zaf.nd rfl (Or.inl rfl) (@zt _ _ _ _ _ _ _ _ _ _ _ _ _ _ _ _ G_bent (hr.mono (by decide)) rfl T.m_bent F_bent.kp b_bent .nil (@zP _) (@za _ _ _ _ _ (@pvx _ 0 _ _ rfl) (by exact (@za _ _ _ _ _ (@pvx _ 2 _ _ rfl) (@za _ _ _ _ _ (@pvx _ 3 _ _ rfl) (@za _ _ _ _ _ (@zaJ _ _ _ _ _ (@za _ _ _ _ _ (@pvx _ 4 _ _ rfl) (@za _ _ _ _ _ (@pvx _ 5 _ _ rfl) (@zf _) (by rfl)) (by rfl))) (@zf _) (by rfl)) (by rfl)) (by rfl))) (by rfl)) (by decide) (by rfl) (by rfl)) (by rfl) (by trivial)) (by exact (@zp _ _ _ (@zo _ _ (3) _ _ _ _ zaf.nd rfl (Or.inl rfl) (@zt _ _ _ _ _ _ _ _ _ _ _ _ _ _ _ _ G_times_root (hr.mono (by decide)) rfl T.m_times_root F_times_root.kp b_times_root .nil (@zP _) (@za _ _ _ _ _ (@pvx _ 0 _ _ rfl) (@za _ _ _ _ _ (@pvx _ 3 _ _ rfl) (@za _ _ _ _ _ (@pvx _ 4 _ _ rfl) (@zf _) (by rfl)) (by rfl)) (by rfl)) (by decide) (by rfl) (by rfl)) (by rfl) (by trivial))))) (by intro _; rfl)) (by exact (@zp _ _ _ (@zG _ _ _ _ (@zah _ _ _ _ _ _ _ _ _ (@zaz _) (by rfl) T.tuple_ boot_tuple (@za _ _ _ _ _ (@pvx _ 2 _ _ rfl) (@zf _) (by rfl)) (by decide) (by decide) (by rfl) (by rfl)))))))))),?_⟩
  have hsl:=sizeLine_eq
  have rp:=zk mp
  have p0 : 0 < p:=by omega
  obtain ⟨bs,hS,hbl,hb⟩:=id hP
  refine ⟨by show 1 ≤ sizeLine; omega,fun z hz => ⟨_,rfl,a,_,rfl,.inl ((zd hz).seq hS),z,_,[.int 0],rfl,rfl,zb,by rw [List.length_map]; omega,by rw [List.length_map]; omega,by rw [List.length_map]; show 1 * _ ≤ sizeLine; omega,fun c hc => ?_⟩⟩
  have s0:=zd (o:=.lst [.int 0]) hz
  have hcH : H c = none:=s0.free hc
  refine ⟨by show 1 ≤ sizeLine; omega,fun v hv => ?_⟩
  have hcv : c ≠ v:=zu zb hv
  rw [List.length_map,zbL,hbl,Int.toNat_natCast] at hv ⊢
  have s2 : zB H (upd (upd (upd H z (.lst [.int 0])) c (.lst ((List.replicate pts.length 0).map V.int))) v (.lst [.int 1])):=(s0.trans (zd hc)).trans (zd hv)
  refine ⟨_,rfl,a,rfl,⟨_,s2.seq hS⟩,zbG (K:=K) (a:=a) (xs:=bs.map V.ref) (fun i σ H' => ∃ (c v : Addr) (s : List Int × List Int) (e4 e5 : Option V),σ = [some (.int p),some (.ref a),some (.ref c),some (.ref v),e4,e5] ∧
   s = (pts.take i).foldl (zbk p) (List.replicate pts.length 0,[1]) ∧ Nw p pts.length ((pts.take i).map (md p)) s ∧ zB H H' ∧ H' c = some (.lst (s.1.map V.int)) ∧ H' v = some (.lst (s.2.map V.int)))
   ⟨c,v,_,none,none,rfl,rfl,by rw [List.take_zero]; exact zdP mp _,s2,by rw [zn hcv]; exact zb,zb⟩ (fun i σ H' _ ⟨_,_,_,_,_,_,_,_,s3,_⟩ => s3.seq hS) ?_ ?_⟩
  ·rintro i y σ H1 hy ⟨c,v,s,e4,e5,rfl,hs,nw,s1,h1c,h1v⟩
   obtain ⟨b,rfl,hbi⟩:=zaG hy
   obtain ⟨hi,_⟩:=List.getElem?_eq_some_iff.mp hbi
   obtain ⟨⟨x,y⟩,hq⟩ : ∃ q,pts[i]? = some q:=⟨pts[i]'(by omega),by simp⟩
   have hbq:=s1 _ _ (hb i b _ hbi hq)
   have hsp:=zcw hq
   have hp':=hp
   rw [hsp,List.map_append,List.map_cons] at hp'
   have hap:=hp'.apart
   obtain ⟨x0,x1,m0,m1⟩:=hp.rg _ (List.mem_map.mpr ⟨_,List.mem_of_getElem? hq,rfl⟩)
   obtain ⟨y0,y1⟩:=hyr _ (List.mem_of_getElem? hq)
   dsimp only [md] at x0 x1 m0 m1 y0 y1
   have hil : i < pts.length:=by omega
   have htl : (pts.take i).length = i:=by rw [List.length_take]; omega
   have nw2:=zeJ mp nw (q:=md p (x,y)) (by rw [List.length_map,htl]; exact hil) x0 x1 m0 m1 hap
   rw [zdZ] at nw2
   obtain ⟨hg0,hg1⟩:=zeI mp nw (q:=(x,y)) x0 x1 (fun a ha => ⟨(hap a ha).1,(hap a ha).2.1,(hap a ha).2.2.1⟩)
   dsimp only at hg0 hg1
   have hst : zbk p s (x,y) = (ad p ((y - ze p x s.1) * inv p (ze p x s.2) % p) s.1 s.2,zbj p x s.2):=rfl
   rw [hst] at nw2
   have l1:=nw.lc
   have l2:=nw.lv
   rw [List.length_map,htl] at l2
   refine ⟨b,_,rfl,SqT.of hbq,rfl,_,_,rfl,_,_,rfl,rfl,?_⟩
   refine ⟨_,rfl,_,rfl,_,rfl,_,rfl,_,rfl,by show 2 ≤ sizeLine; omega,fun tt ht => ?_⟩
   have t1:=zd (o:=.tup [.int x,.int y]) ht
   refine ⟨p,x,y,c,v,tt,s.1,s.2,rfl,t1 _ _ h1c,t1 _ _ h1v,zb,mp,x0,x1,y0,y1,hg0,hg1,by omega,by omega,fun l H3 hl s3 h3l => ?_⟩
   have s4:=t1.trans s3
   refine ⟨_,rfl,_,rfl,_,rfl,p,x,v,s.2,rfl,s4 _ _ h1v,by omega,p0,x0,by omega,fun l2 H4 hl2 s5 h4l => ?_⟩
   refine ⟨l,l2,zbk p s (x,y),_,_,rfl,?_,?_,(s1.trans s4).trans s5,?_,?_⟩
   ·rw [take_snoc hq,List.foldl_append,← hs]
    rfl
   ·rw [take_snoc hq,hst,List.map_append]
    exact nw2
   ·rw [hst]
    exact s5 _ _ h3l
   ·rw [hst]
    exact h4l
  ·rintro σ H1 ⟨c,v,s,e4,e5,rfl,hs,nw,s1,h1c,h1v⟩
   rw [List.length_map,hbl,List.take_length] at hs
   refine ⟨_,rfl,c,_,rfl,.inl ⟨SqL.of h1c,fun l hl => q l _ (s1.free hl) (s1.trans (zd hl)) ?_⟩⟩
   rw [zb,hs,zh0]
   rfl
theorem z9 : FnScope ["code","row","p","k","places"] ["code","row"] (zj z0):=⟨rfl,rfl,rfl,by decide +kernel,rfl,by decide +kernel,by decide +kernel⟩
theorem zcd {fd : FuncData} (T : Txt K mg t) (F : Fun K "heard_points" "heard_points" z0 t.heard_points fd) : FnOk P w K mg base CX0 1 t.heard_points fd ["code","row"] (zgZ K):=by
 refine F.ok z9 (fun vs H Q E h => ?_) (fun cdv A outer s H vs Q E hr h => ?_)
 ·obtain ⟨c,tt,r,p,k,pl,rw,rfl,_⟩:=h
  rfl
 ·obtain ⟨c,tt,r,p,k,pl,rw,rfl,hc,hr',hn,q⟩:=h
  refine ⟨_,(@zc _ _ _ _ _ (@zaR _ _ _ _ _ _ (@pvx _ 0 _ _ rfl) (@zas _ _ _ _ _ _ rfl (@zm _ _ _ _ _ (@zi _ _ (2) _ z9.nd rfl (Or.inl rfl) (by trivial)) (@zm _ _ _ _ _ (@zi _ _ (3) _ z9.nd rfl (Or.inl rfl) (by trivial)) (@zm _ _ _ _ _ (@zi _ _ (4) _ z9.nd rfl (Or.inl rfl) (by trivial)) (@zS _) (by rfl)) (by rfl)) (by rfl)) (by rfl) (by rfl)) (by rfl) (by rfl) (by rfl)) (by exact (@zp _ _ _ (@zG _ _ _ _ (@zan _ _ _ _ _ _ _ _ _ _ _ _ _ (CompSc.of (N':=["place","entry"]) (ix:=[none,none]) (zj z0) ["code","row","p","k","places"] rfl rfl (by decide +kernel)) rfl (@zcp _ _ _ _ (@z8 _ _ _ rfl (@z8 _ _ _ rfl (@zbI _)))) (@zf4 _ _ _ _ _ _ _ _ _ rfl T.zip_ (@za _ _ _ _ _ (@pvx _ 4 _ _ rfl) (@za _ _ _ _ _ (@pvx _ 1 _ _ rfl) (@zf _) (by rfl)) (by rfl)) (by rfl) (by rfl)) (fun _ _ _ _ => (@zbJ _ (K) _ _ _ (2) _ rfl rfl (@zm _ _ _ _ _ (@zi _ _ (0) _ (show (["place","entry"] : List Str).Nodup by decide +kernel) rfl (Or.inl rfl) (by trivial)) (@zm _ _ _ _ _ (@zi _ _ (1) _ (show (["place","entry"] : List Str).Nodup by decide +kernel) rfl (Or.inl rfl) (by trivial)) (@zS _) (by rfl)) (by rfl)) (by rfl) (by rfl))) (fun _ _ _ _ => (@zdH _ _ _ (@zV _ _ _ _ _ _ _ _ (@zgH _) (@pvx _ 1 _ _ rfl) (@zdh _ _ _) (zak _)))) (fun _ _ _ _ => (@zaJ _ _ _ _ _ (@za _ _ _ _ _ (@pvx _ 0 _ _ rfl) (@za _ _ _ _ _ (@pvx _ 1 _ _ rfl) (@zf _) (by rfl)) (by rfl)))) (by intro _; rfl)))))),?_⟩
  have hsl:=sizeLine_eq
  have hl:=hr'.len
  refine ⟨_,rfl,c,_,rfl,SqT.of hc.1,rfl,_,_,rfl,_,_,rfl,_,_,rfl,rfl,?_⟩
  refine ⟨_,rfl,_,rfl,tt,r,_,_,rfl,SqT.of hc.2,hr'.at',zY (n:=pl.length) (fun i ys H' => zB H H' ∧ ∃ us : List Addr,ys = us.map V.ref ∧ PtB H' us (hps (pl.take i) (rw.take i))) ⟨fun _ _ e => e,[],rfl,.nil⟩ ?_ ?_ ?_ ?_⟩
  ·rintro i ys H3 hi ⟨s3,_⟩
   obtain ⟨o,ho⟩ : ∃ o,rw[i]? = some o:=⟨rw[i]'(by omega),by simp⟩
   exact ⟨_,_,.int pl[i],enc o,SqT.of (s3 _ _ hc.2),s3.seq hr'.at',by rw [List.getElem?_map,List.getElem?_eq_getElem hi]; rfl,by rw [List.getElem?_map,ho]; rfl⟩
  ·rintro ys H3 ⟨s3,_⟩
   exact ⟨_,_,SqT.of (s3 _ _ hc.2),s3.seq hr'.at',.inl (by rw [List.length_map])⟩
  ·rintro i xx ys H3 H4 hi ⟨s3,us,rfl,hus⟩ ⟨T,u,v,hT,rfl,rfl,hu,hv⟩
   obtain ⟨x,rfl,hx⟩:=zT (hu _ (SqT.of (s3 _ _ hc.2)))
   obtain ⟨o,rfl,ho⟩:=zgR (hv _ (s3.seq hr'.at'))
   have v4:=zd (o:=.tup [.int x,enc o]) hT
   have s4:=s3.trans v4
   have hs:=zdY hx ho
   have hul:=hus.length
   have hb:=zcf (pl.take i) (rw.take i)
   rw [List.length_take] at hb
   refine ⟨T,_,rfl,SqT.of zb,rfl,_,_,rfl,_,_,rfl,rfl,?_⟩
   refine ⟨_,rfl,rfl,_,rfl,?_⟩
   cases o with
   | none =>
    refine zhI ⟨s4,us,rfl,?_⟩
    rw [hs,List.append_nil]
    exact hus.same v4
   | some z =>
    refine ziV ⟨_,rfl,_,rfl,by show 2 ≤ sizeLine; omega,fun T2 hT2 => ⟨by rw [List.length_map]; omega,s4.trans (zd hT2),us ++ [T2],by rw [List.map_append]; rfl,?_⟩⟩
    rw [hs]
    exact Paired.snoc (hus.same (v4.trans (zd hT2))) zb
  ·rintro ys H3 D ⟨s3,us,rfl,hus⟩ hD
   rw [List.take_length,List.take_of_length_le (by omega)] at hus
   exact q D us _ (s3.free hD) (s3.trans (zd hD)) zb (hus.same (zd hD))
end
end My
end
section
set_option maxHeartbeats 3999000
namespace My
open PySem L2 PyProof.Rows
section
variable {P : Program} {w : World} {K : PySem.W.Frag} {mg : Str → Option Value} {base : Heap} {t : Adr}
def zen (K : PySem.W.Frag) : Sp:=fun vs H Q _ => ∃ (p tm : Int) (a b : Addr) (as bs : List Int),vs = [.int p,.ref a,.int tm,.ref b] ∧ H a = some (.lst (as.map V.int)) ∧ H b = some (.lst (bs.map V.int)) ∧ as.length = bs.length ∧ as.length ≤ 1000 ∧ 0 < p ∧ 0 ≤ tm ∧ tm < 1000 ∧
 ∀ (l : Addr) (H' : Hp),H l = none → zB H H' → H' l = some (.lst ((List.zipWith (fun x y => (x - tm * y) % p) as bs).map V.int)) → Q (.ref l) H'
theorem zeo : FnScope ["p","vector","times","other"] ["p","vector","times","other"] (zj zaY):=⟨rfl,rfl,rfl,by decide +kernel,rfl,by decide +kernel,by decide +kernel⟩
theorem zep {fd : FuncData} (T : Txt K mg t) (F : Fun K "without" "without" zaY t.without fd) : FnOk P w K mg base CX0 1 t.without fd ["p","vector","times","other"] (zen K):=by
 refine F.ok zeo (fun vs H Q E h => ?_) (fun cdv A outer s H vs Q E hr h => ?_)
 ·obtain ⟨p,tm,a,b,as,bs,rfl,_⟩:=h
  rfl
 ·obtain ⟨p,tm,a,b,as,bs,rfl,ha,hb,hl,hn,p0,t0,t1,q⟩:=h
  refine ⟨_,(@zp _ _ _ (@zG _ _ _ _ (@zan _ _ _ _ _ _ _ _ _ _ _ _ _ (CompSc.of (N':=["number","less","times","p"]) (ix:=[none,none,some 2,some 0]) (zj zaY) ["p","vector","times","other"] rfl rfl (by decide +kernel)) rfl (@zcp _ _ _ _ (@z8 _ _ _ rfl (@z8 _ _ _ rfl (@zbI _)))) (@zdo _ _ _ _ _ _ _ _ _ rfl T.zip_ (@za _ _ _ _ _ (@pvx _ 1 _ _ rfl) (@za _ _ _ _ _ (@pvx _ 3 _ _ rfl) (@zf _) (by rfl)) (by rfl)) (by rfl) (by rfl)) (fun _ _ _ _ => (@zbJ _ (K) _ _ _ (2) _ rfl rfl (@zm _ _ _ _ _ (@zi _ _ (0) _ (show (["number","less","times","p"] : List Str).Nodup by decide +kernel) rfl (Or.inl rfl) (by trivial)) (@zm _ _ _ _ _ (@zi _ _ (1) _ (show (["number","less","times","p"] : List Str).Nodup by decide +kernel) rfl (Or.inl rfl) (by trivial)) (@zS _) (by rfl)) (by rfl)) (by rfl) (by rfl))) (fun _ _ _ _ => (@zL _)) (fun _ _ _ _ => (@zh _ _ _ _ _ _ _ _ (@zy _) (@zh _ _ _ _ _ _ _ _ (@zbD _) (@pvx _ 0 _ _ rfl) (@zh _ _ _ _ _ _ _ _ (@zI _) (@pvx _ 2 _ _ rfl) (@pvx _ 1 _ _ rfl))) (@pvx _ 3 _ _ rfl))) (by intro _; rfl)))),?_⟩
  have hsl:=sizeLine_eq
  refine ⟨_,rfl,_,rfl,a,b,_,_,rfl,SqL.of ha,SqL.of hb,zc8 (n:=as.length) (f:=fun x y => (x - tm * y) % p) ha hb (Nat.le_refl _) (by omega) (.inl (Nat.le_refl _)) (by omega) ?_ ?_⟩
  ·intro j u w H6 T R B hu hv s6 hT hR
   refine gY2 (SqT.of zb) ?_
   exact ⟨_,rfl,_,rfl,_,rfl,_,_,rfl,rfl,.inl ⟨by omega,by omega⟩,_,_,rfl,rfl,_,rfl,_,_,rfl,rfl,p0,hR⟩
  ·intro D H6 s6 hD
   exact q D _ (s6.free hD) (s6.trans (zd hD)) zb
def LsA (H : Hp) : List Addr → List (List Int) → Prop:=Paired fun b v => H b = some (.lst (v.map V.int))
theorem LsA.same {H H' : Hp} (s : zB H H') {bs : List Addr} {vv : List (List Int)} (h : LsA H bs vv) : LsA H' bs vv:=Paired.mono (fun _ _ z => s _ _ z) h
def ClA (ca : Addr) (H : Hp) : List Addr → List (Nat × List Int) → Prop:=Paired fun b a => ∃ wa,H b = some (.tup [.int (a.1 : Int),.ref wa]) ∧ H wa = some (.lst (a.2.map V.int)) ∧ wa ≠ ca
theorem ClA.same {ca : Addr} {H H' : Hp} (s : zB H H') {bs : List Addr} {cl : List (Nat × List Int)} (h : ClA ca H bs cl) : ClA ca H' bs cl:=Paired.mono (fun _ _ ⟨wa,z1,z2,z3⟩ => ⟨wa,s _ _ z1,s _ _ z2,z3⟩) h
theorem ClA.put {ca : Addr} {H : Hp} {bs : List Addr} {cl : List (Nat × List Int)} {xs : List V} {o : HO} (h : ClA ca H bs cl) (hf : H ca = some (.lst xs)) : ClA ca (upd H ca o) bs cl:=Paired.mono (fun b _ ⟨wa,z1,z2,z3⟩ => ⟨wa,by
 rw [zn (fun e => by rw [e,hf] at z1; cases z1)]; exact z1,by rw [zn z3]; exact z2,z3⟩) h
theorem zg2 {xs : List V} {a b : Nat} (h : b ≤ xs.length) : za9 xs (some (a : Int)) (some (b : Int)) = (xs.drop a).take (b - a):=by
 unfold za9
 rw [HT.sIx_nat,HT.sIx_nat]
 by_cases ha : a ≤ xs.length
 ·rw [Nat.min_eq_left ha,Nat.min_eq_left h]
 ·rw [show min a xs.length = xs.length by omega,Nat.min_eq_left h,List.drop_of_length_le (Nat.le_refl _),List.drop_of_length_le (show xs.length ≤ a by omega),List.take_nil,List.take_nil]
def zbO (K : PySem.W.Frag) : Sp:=fun vs H Q _ => ∃ (p : Int) (a : Addr) (ls : List Addr) (vv : List (List Int)) (L : Nat),vs = [.int p,.ref a] ∧ H a = some (.lst (ls.map V.ref)) ∧ LsA H ls vv ∧ vv ≠ [] ∧ vv.length ≤ 100 ∧ L ≤ 800 ∧ (∀ v ∈ vv,v.length = L ∧ ∀ c ∈ v,0 ≤ c ∧ c < p) ∧ p ∈ zl ∧
 (∀ H',zB H H' → Indep p L vv → Q .non H') ∧ (∀ (l : Addr) (c : List Int) (m : Nat) (H' : Hp),H l = none → zB H H' → H' l = some (.lst (c.map V.int)) → IsP p (m + 1) c → m < vv.length → gl c m = 1 → Dep p L vv c → Q (.ref l) H')
theorem zr : FnScope ["p","vectors","length","cleared","count","vector","whole","lead","other","leads","factor"] ["p","vectors"] (zj zO):=⟨rfl,rfl,rfl,by decide +kernel,rfl,by decide +kernel,by decide +kernel⟩
theorem zbP {fd : FuncData} (T : Txt K mg t) (F : Fun K "first_relation" "first_relation" zO t.first_relation fd) : FnOk P w K mg base CX0 2 t.first_relation fd ["p","vectors"] (zbO K):=by
 obtain ⟨fd_without,F_without,b_without⟩:=T.f_without
 have G_without:=zep (P:=P) (w:=w) (base:=base) T F_without
 obtain ⟨fd_inverse,F_inverse,b_inverse⟩:=T.f_inverse
 have G_inverse:=zcB (P:=P) (w:=w) (base:=base) T F_inverse
 refine F.ok zr (fun vs H Q E h => ?_) (fun cdv A outer s H vs Q E hr h => ?_)
 ·obtain ⟨p,a,ls,vv,L,rfl,_⟩:=h
  rfl
 ·obtain ⟨p,a,ls,vv,L,rfl,ha,hls,hne,hN,hL,hvv,hp,qn,qs⟩:=h
  refine ⟨_,(@zc _ _ _ _ _ (@zo _ _ (2) _ _ _ _ zr.nd rfl (Or.inl rfl) (@zK _ _ _ _ _ _ _ _ _ (@zz _) (by rfl) T.len_ boot_len (@za _ _ _ _ _ (@zJ _ _ _ _ _ _ _ (@zD _) (@pvx _ 1 _ _ rfl) (@zg _ _ _ _) (fun _ _ => rfl)) (@zf _) (by rfl)) (by decide) (by decide) (by rfl) (by rfl)) (by rfl) (by trivial)) (by exact (@zc _ _ _ _ _ (@zo _ _ (3) _ _ _ _ zr.nd rfl (Or.inl rfl) (@zav _ _ _ _ (@zf _)) (by rfl) (by trivial)) (by exact (@zc _ _ _ _ _ (@zaS _ _ _ _ _ _ _ _ PassesOwn.never rfl (@zfP _ _ _ _ _ _ _ _ rfl T.enumerate_ (@za _ _ _ _ _ (@pvx _ 1 _ _ rfl) (@zf _) (by rfl)) (by rfl)) (@zas _ _ _ _ _ _ rfl (@zm _ _ _ _ _ (@zi _ _ (4) _ zr.nd rfl (Or.inl rfl) (by trivial)) (@zm _ _ _ _ _ (@zi _ _ (5) _ zr.nd rfl (Or.inl rfl) (by trivial)) (@zS _) (by rfl)) (by rfl)) (by rfl) (by rfl)) (@zc _ _ _ _ _ (@zo _ _ (6) _ _ _ _ zr.nd rfl (Or.inr rfl) (@zh _ _ _ _ _ _ _ _ (@zdl _) (@pvx _ 5 _ _ rfl) (@zh _ _ _ _ _ _ _ _ (@zfL _) (@zav _ _ _ _ (@za _ _ _ _ _ (@zg _ _ _ _) (@zf _) (by rfl))) (@zK _ _ _ _ _ _ _ _ _ (@zz _) (by rfl) T.len_ boot_len (@za _ _ _ _ _ (@pvx _ 1 _ _ rfl) (@zf _) (by rfl)) (by decide) (by decide) (by rfl) (by rfl)))) (by rfl) (by trivial)) (by exact (@zc _ _ _ _ _ (@zaR _ _ _ _ _ _ (@zg _ _ _ _) (@zfw _ _ _ _ _ _ _ (@pvx _ 6 _ _ rfl) (@zh _ _ _ _ _ _ _ _ (@zE _) (@pvx _ 2 _ _ rfl) (@pvx _ 4 _ _ rfl)) set_list (by intro _; rfl)) (by rfl) (by rfl) (by rfl)) (by exact (@zc _ _ _ _ _ (@zaS _ _ _ _ _ _ _ _ PassesOwn.never rfl (@zaj _ _ _ _ (@pvx _ 3 _ _ rfl)) (@zas _ _ _ _ _ _ rfl (@zm _ _ _ _ _ (@zi _ _ (7) _ zr.nd rfl (Or.inl rfl) (by trivial)) (@zm _ _ _ _ _ (@zi _ _ (8) _ zr.nd rfl (Or.inl rfl) (by trivial)) (@zS _) (by rfl)) (by rfl)) (by rfl) (by rfl)) (@zp _ _ _ (@zo _ _ (6) _ _ _ _ zr.nd rfl (Or.inr rfl) (@zt _ _ _ _ _ _ _ _ _ _ _ _ _ _ _ _ G_without (hr.mono (by decide)) rfl T.m_without F_without.kp b_without .nil (@zP _) (@za _ _ _ _ _ (@pvx _ 0 _ _ rfl) (by exact (@za _ _ _ _ _ (@pvx _ 6 _ _ rfl) (@za _ _ _ _ _ (@zJ _ _ _ _ _ _ _ (@zD _) (@pvx _ 6 _ _ rfl) (@pvx _ 7 _ _ rfl) (fun _ _ => rfl)) (@za _ _ _ _ _ (@pvx _ 8 _ _ rfl) (@zf _) (by rfl)) (by rfl)) (by rfl))) (by rfl)) (by decide) (by rfl) (by rfl)) (by rfl) (by trivial))) (by intro _; rfl)) (by exact (@zc _ _ _ _ _ (@zaK _ _ _ _ _ _ _ _ _ _ _ _ _ (9) _ _ _ zr.nd rfl (Or.inl rfl) (CompSc.of (N':=["at","whole"]) (ix:=[none,some 6]) (zj zO) ["p","vectors","length","cleared","count","vector","whole","lead","other","leads","factor"] rfl rfl (by decide +kernel)) rfl (@zam _ _ rfl) (@zat _ _ _ _ _ _ rfl T.range_ (@za _ _ _ _ _ (@pvx _ 2 _ _ rfl) (@zf _) (by rfl)) (by rfl)) (fun _ _ _ _ => (@zi _ _ (0) _ (show (["at","whole"] : List Str).Nodup by decide +kernel) rfl (Or.inl rfl) (by trivial))) (fun _ _ _ _ => (@zdH _ _ _ (@zV _ _ _ _ _ _ _ _ (@zcT _) (@zJ _ _ _ _ _ _ _ (@zaL _ (K) rfl) (@pvx _ 1 _ _ rfl) (@pvx _ 0 _ _ rfl) (fun _ _ => rfl)) (@zg _ _ _ _) (zak _)))) (fun _ _ _ _ => (@pvx _ 0 _ _ rfl)) (by rfl) (by intro _; rfl) (by trivial)) (by exact (@zc _ _ _ _ _ (@zbc _ _ _ _ _ _ _ _ (@zfv _ _ _ _ (@zfG _ _ _ (@pvx _ 9 _ _ rfl) (fun _ => rfl))) (@zp _ _ _ (@zG _ _ _ _ (@zbe _ _ _ _ _ _ _ _ _ _ zdj (@pvx _ 6 _ _ rfl) (@zbq _ _ _ (@pvx _ 2 _ _ rfl)) (@zbq _ _ _ (@zh _ _ _ _ _ _ _ _ (@zE _) (@zh _ _ _ _ _ _ _ _ (@zE _) (@pvx _ 2 _ _ rfl) (@pvx _ 4 _ _ rfl)) (@zg _ _ _ _)))))) (@zai _)) (by exact (@zc _ _ _ _ _ (@zo _ _ (10) _ _ _ _ zr.nd rfl (Or.inr rfl) (@zt _ _ _ _ _ _ _ _ _ _ _ _ _ _ _ _ G_inverse (hr.mono (by decide)) rfl T.m_inverse F_inverse.kp b_inverse .nil (@zP _) (@za _ _ _ _ _ (@pvx _ 0 _ _ rfl) (@za _ _ _ _ _ (@zJ _ _ _ _ _ _ _ (@zD _) (@pvx _ 6 _ _ rfl) (@zJ _ _ _ _ _ _ _ (@zD _) (@pvx _ 9 _ _ rfl) (@zg _ _ _ _) (fun _ _ => rfl)) (fun _ _ => rfl)) (@zf _) (by rfl)) (by rfl)) (by decide) (by rfl) (by rfl)) (by rfl) (by trivial)) (by exact (@zp _ _ _ (@zbF _ _ _ _ (@zcZ _ _ _ _ _ _ _ _ _ _ _ _ PySem.F.plainAttrs_list PySem.F.slot_list_append PySem.F.type_list_append (@zaW _) (@pvx _ 3 _ _ rfl) (@za _ _ _ _ _ (@zaJ _ _ _ _ _ (@za _ _ _ _ _ (@zJ _ _ _ _ _ _ _ (@zD _) (@pvx _ 9 _ _ rfl) (@zg _ _ _ _) (fun _ _ => rfl)) (@za _ _ _ _ _ (@zan _ _ _ _ _ _ _ _ _ _ _ _ _ (CompSc.of (N':=["number","factor","p"]) (ix:=[none,some 10,some 0]) (zj zO) ["p","vectors","length","cleared","count","vector","whole","lead","other","leads","factor"] rfl rfl (by decide +kernel)) rfl (@zam _ _ rfl) (@zaj _ _ _ _ (@pvx _ 6 _ _ rfl)) (fun _ _ _ _ => (@zi _ _ (0) _ (show (["number","factor","p"] : List Str).Nodup by decide +kernel) rfl (Or.inl rfl) (by trivial))) (fun _ _ _ _ => (@zL _)) (fun _ _ _ _ => (@zh _ _ _ _ _ _ _ _ (@zy _) (@zh _ _ _ _ _ _ _ _ (@zI _) (@pvx _ 0 _ _ rfl) (@pvx _ 1 _ _ rfl)) (@pvx _ 2 _ _ rfl))) (by intro _; rfl)) (@zf _) (by rfl)) (by rfl))) (@zf _) (by rfl)) (by rfl) (by rfl) (by rfl) (by rfl) (by rfl)) (by rfl))))))))))))))) (by intro _; rfl)) (by exact (@zp _ _ _ (@zG _ _ _ _ (@zdh _ _ _))))))))),?_⟩
  have hsl:=sizeLine_eq
  have rp:=zk hp
  have p0 : 0 < p:=by omega
  have hll:=hls.length
  have hN0 : 0 < vv.length:=List.length_pos_iff.mpr hne
  obtain ⟨l0,hl0⟩ : ∃ l0,ls[0]? = some l0:=⟨ls[0]'(by omega),by simp⟩
  obtain ⟨v0,hv0,hv0a⟩:=Paired.get hls hl0
  have hv0L:=(hvv v0 (List.mem_of_getElem? hv0)).1
  refine ⟨_,rfl,a,_,_,.ref l0,rfl,rfl,SqL.of ha,zal (j:=0) (by rw [List.getElem?_map,hl0]; rfl),l0,_,rfl,.inl (SqL.of hv0a),?_⟩
  rw [List.length_map,hv0L]
  refine ⟨by show 0 ≤ sizeLine; omega,fun ca hca => ?_⟩
  have u1:=zd (o:=.lst []) hca
  refine ⟨_,rfl,a,_,rfl,SqL.of (u1 _ _ ha),zdn (n:=vv.length) (fun i σ H' => ∃ (cs : List Addr) (cl : List (Nat × List Int)) (e4 e5 e6 e7 e8 e9 e10 : Option V),σ = [some (.int p),some (.ref a),some (.int (L : Int)),some (.ref ca),e4,e5,e6,e7,e8,e9,e10] ∧ zB H H' ∧ H' ca = some (.lst (cs.map V.ref)) ∧ ClA ca H' cs cl ∧ Ech p L vv.length i vv cl)
   ⟨[],[],none,none,none,none,none,none,none,rfl,u1,zb,.nil,Ech.start p L vv.length vv⟩ ?_ ?_ ?_ ?_⟩
  ·rintro i σ H1 hi ⟨cs,cl,e4,e5,e6,e7,e8,e9,e10,rfl,s1,_⟩
   exact ⟨_,.ref (ls[i]'(by omega)),SqL.of (s1 _ _ ha),by rw [List.getElem?_map,List.getElem?_eq_getElem (by omega)]; rfl⟩
  ·rintro σ H1 ⟨cs,cl,e4,e5,e6,e7,e8,e9,e10,rfl,s1,_⟩
   exact ⟨_,SqL.of (s1 _ _ ha),by rw [List.length_map]; omega⟩
  ·rintro i x σ H1 H2 hi ⟨cs,cl,e4,e5,e6,e7,e8,e9,e10,rfl,s1,h1c,hcl,E⟩ ⟨T,v,hT,rfl,rfl,hv⟩
   obtain ⟨lv,rfl,hlv⟩:=zaG (hv _ (SqL.of (s1 _ _ ha)))
   obtain ⟨vec,hvec,hva⟩:=Paired.get hls hlv
   obtain ⟨hvl,hvr⟩:=hvv vec (List.mem_of_getElem? hvec)
   have t2:=zd (o:=.tup [.int (i : Int),.ref lv]) hT
   refine ⟨T,_,rfl,SqT.of zb,rfl,_,_,rfl,_,_,rfl,rfl,?_⟩
   have s2:=s1.trans t2
   have h2c:=t2 _ _ h1c
   have hcl2:=hcl.same t2
   generalize upd H1 T (.tup [.int (i : Int),.ref lv]) = H2 at t2 s2 h2c hcl2 ⊢
   refine ⟨_,rfl,by show 1 ≤ sizeLine; omega,fun z hz => ⟨_,rfl,a,_,rfl,.inl (SqL.of ((s2.trans (zd hz)) _ _ ha)),z,_,[.int 0],rfl,rfl,zb,by rw [List.length_map]; omega,by rw [List.length_map]; omega,by rw [List.length_map]; show 1 * _ ≤ sizeLine; omega,fun y hy => ?_⟩⟩
   rw [List.length_map,zbL,hll,Int.toNat_natCast]
   have t3:=(zd (o:=.lst [.int 0]) hz).trans (zd (o:=.lst ((List.replicate vv.length (0 : Int)).map V.int)) hy)
   have h3y : upd (upd H2 z (.lst [.int 0])) y (.lst ((List.replicate vv.length (0 : Int)).map V.int)) y = some (.lst ((List.replicate vv.length (0 : Int)).map V.int)):=zb
   generalize upd (upd H2 z (.lst [.int 0])) y (.lst ((List.replicate vv.length (0 : Int)).map V.int)) = H3 at t3 h3y ⊢
   refine ⟨lv,y,_,_,rfl,rfl,(s2.trans t3) _ _ hva,h3y,by rw [List.length_map,List.length_map,List.length_replicate]; omega,fun wl hwl => ?_⟩
   rw [← List.map_append]
   have t4:=zd (o:=.lst ((vec ++ List.replicate vv.length (0 : Int)).map V.int)) hwl
   refine ⟨_,rfl,_,rfl,_,rfl,_,_,rfl,rfl,wl,_,_,L + i,rfl,rfl,zb,?_,?_⟩
   ·rw [← Int.natCast_add]
    exact zeN (by rw [List.length_map,List.length_append,List.length_replicate]; omega)
   have ew : ((vec ++ List.replicate vv.length (0 : Int)).map V.int).set (L + i) (.int 1) = ((vec ++ List.replicate vv.length (0 : Int)).set (L + i) 1).map V.int:=by rw [List.map_set]
   rw [ew,zgA]
   have t4:=t3.trans (zd (o:=.lst (((vec ++ List.replicate vv.length (0 : Int)).set (L + i) 1).map V.int)) hwl)
   have h4w : upd H3 wl (.lst (((vec ++ List.replicate vv.length (0 : Int)).set (L + i) 1).map V.int)) wl = some (.lst (((vec ++ List.replicate vv.length (0 : Int)).set (L + i) 1).map V.int)):=zb
   have W0:=zgd hp (N:=vv.length) hi hvec hvl hvr
   have hwc : wl ≠ ca:=fun e => by
    have:=t3 _ _ h2c
    rw [← e,hwl] at this
    cases this
   generalize upd H3 wl (.lst (((vec ++ List.replicate vv.length (0 : Int)).set (L + i) 1).map V.int)) = H4 at t4 h4w ⊢
   generalize (vec ++ List.replicate vv.length (0 : Int)).set (L + i) 1 = w0 at W0 h4w ⊢
   have s4:=s2.trans t4
   have h4c:=t4 _ _ h2c
   have hcl4:=hcl2.same t4
   have hcll:=hcl4.length
   refine ⟨_,rfl,ca,rfl,⟨_,SqL.of h4c⟩,zbG (K:=K) (a:=ca) (xs:=cs.map V.ref) (fun j σ H' => ∃ (wa : Addr) (w : List Int) (e7 e8 : Option V),σ = [some (.int p),some (.ref a),some (.int (L : Int)),some (.ref ca),some (.int (i : Int)),some (.ref lv),some (.ref wa),e7,e8,e9,e10] ∧ zB H4 H' ∧ H' wa = some (.lst (w.map V.int)) ∧ wa ≠ ca ∧ Wh p L vv.length i vv (cl.take j) w)
    ⟨wl,w0,_,_,rfl,fun _ _ e => e,h4w,hwc,W0⟩ (fun j σ H' _ ⟨_,_,_,_,_,s5,_⟩ => SqL.of (s5 _ _ h4c)) ?_ ?_⟩
   ·rintro j y σ H5 hy ⟨wa,w,e7,e8,rfl,s5,h5w,hwa,W⟩
    obtain ⟨b,rfl,hb⟩:=zaG hy
    obtain ⟨aa,haa,oa,hb1,hb2,hb3⟩:=Paired.get hcl4 hb
    obtain ⟨o1,o2,o3,_⟩:=E.one j aa haa
    refine ⟨b,_,rfl,SqT.of (s5 _ _ hb1),rfl,_,_,rfl,_,_,rfl,rfl,?_⟩
    have hg:=zbU p0 W.rg aa.1
    refine ⟨_,rfl,_,rfl,_,rfl,_,rfl,wa,_,_,.int (gl w aa.1),rfl,rfl,SqL.of h5w,zal (by rw [List.getElem?_map,zad (by rw [W.ln]; omega)]; rfl),_,rfl,p,gl w aa.1,wa,oa,w,aa.2,rfl,h5w,s5 _ _ hb2,by rw [W.ln,o2],by rw [W.ln]; omega,p0,hg.1,by omega,fun l H6 hl s6 h6l => ?_⟩
    refine ⟨l,_,_,_,rfl,s5.trans s6,h6l,fun e => ?_,zgW hp E hi haa W⟩
    have:=s5 _ _ h4c
    rw [← e,hl] at this
    cases this
   ·rintro σ H5 ⟨wa,w,e7,e8,rfl,s5,h5w,hwa,W⟩
    rw [List.length_map,hcll,List.take_length] at W
    have h5c:=s5 _ _ h4c
    have hcl5:=hcl4.same s5
    have s15:=s4.trans s5
    refine ⟨_,rfl,_,rfl,by omega,by omega,?_⟩
    rw [Int.toNat_natCast]
    refine zY (n:=L) (fun j ys H' => H' = H5 ∧ ys = (((List.range j).filter fun m => decide (gl w m ≠ 0)).map fun m : Nat => (m : Int)).map V.int) ⟨rfl,rfl⟩ (fun j ys H' hj _ => hj) (fun ys H' _ => Nat.le_refl _) ?_ ?_
    ·rintro j xx ys H6 H7 hj ⟨rfl,rfl⟩ ⟨rfl,rfl⟩
     have hgj : (w.map V.int)[j]? = some (.int (gl w j)):=by rw [List.getElem?_map,zad (by rw [W.ln]; omega)]; rfl
     refine ⟨_,rfl,_,rfl,wa,_,_,.int (gl w j),rfl,rfl,SqL.of h5w,by rw [Int.zero_add]; exact zal hgj,rfl,_,rfl,?_⟩
     have hfl:=List.length_filter_le (fun m => decide (gl w m ≠ 0)) (List.range j)
     rw [List.length_range] at hfl
     rw [List.range_succ,List.filter_append,List.map_append,List.map_append]
     by_cases h0 : gl w j = 0
     ·refine za2 (fun h => absurd h (by rw [h0]; simp)) (fun _ => ⟨rfl,?_⟩)
      rw [List.filter_cons_of_neg (by simpa using h0),List.filter_nil,List.map_nil,List.map_nil,List.append_nil]
     ·refine za2 (fun _ => ⟨_,rfl,zab (by rw [List.length_map,List.length_map]; omega),rfl,?_⟩) (fun h => absurd (by simpa using h0) h)
      rw [List.filter_cons_of_pos (by simpa using h0),List.filter_nil,Int.zero_add]
      rfl
    ·rintro ys H6 D ⟨rfl,rfl⟩ hD
     have t7:=zd (o:=.lst ((((List.range L).filter fun m => decide (gl w m ≠ 0)).map fun m : Nat => (m : Int)).map V.int)) hD
     have h7D : upd H6 D (.lst ((((List.range L).filter fun m => decide (gl w m ≠ 0)).map fun m : Nat => (m : Int)).map V.int)) D = _:=zb
     generalize upd H6 D (.lst ((((List.range L).filter fun m => decide (gl w m ≠ 0)).map fun m : Nat => (m : Int)).map V.int)) = H7 at t7 h7D ⊢
     have s7:=s15.trans t7
     have h7w:=t7 _ _ h5w
     have h7c:=t7 _ _ h5c
     have hcl7:=hcl5.same t7
     refine ⟨_,rfl,_,.inl ⟨_,SqL.of h7D,rfl⟩,?_⟩
     cases hlds : (List.range L).filter fun m => decide (gl w m ≠ 0) with
     | nil =>
      refine za2 (fun _ => ?_) (fun h => absurd rfl h)
      have hz : ∀ x,x < L → gl w x = 0:=fun x hx => by
       have:=List.filter_eq_nil_iff.mp hlds x (List.mem_range.mpr hx)
       simpa using this
      refine ⟨_,rfl,_,rfl,_,rfl,_,rfl,_,rfl,_,_,rfl,rfl,_,_,rfl,rfl,_,rfl,wa,_,rfl,SqL.of h7w,fun l hl => ?_⟩
      have ec : za9 (w.map V.int) (some (L : Int)) (some ((L : Int) + (i : Int) + 1)) = ((w.drop L).take (i + 1)).map V.int:=by
       rw [show (L : Int) + (i : Int) + 1 = ((L + i + 1 : Nat) : Int) by omega,zg2 (by rw [List.length_map,W.ln]; omega),← List.map_drop,← List.map_take,show L + i + 1 - L = i + 1 by omega]
      rw [ec]
      obtain ⟨d1,d2,d3⟩:=zhY W hi hz
      exact qs l _ i _ (s7.free hl) (s7.trans (zd hl)) zb d1 hi d2 d3
     | cons ld lds =>
      refine za2 (fun h => absurd h (by simp)) (fun _ => ?_)
      have hm : ld ∈ (List.range L).filter fun m => decide (gl w m ≠ 0):=by rw [hlds]; exact List.mem_cons_self
      (obtain ⟨hm1,hm2⟩:=List.mem_filter.mp hm)
      have hld : ld < L:=List.mem_range.mp hm1
      have hg0 : gl w ld ≠ 0:=by simpa using hm2
      obtain ⟨g0,g1⟩:=zbU p0 W.rg ld
      rw [hlds] at h7D
      have hat0 : atI ((((ld :: lds).map fun m : Nat => (m : Int))).map V.int) 0 = some (.int (ld : Int)):=zal (j:=0) rfl
      refine ⟨_,rfl,_,rfl,_,rfl,D,_,_,.int (ld : Int),rfl,rfl,SqL.of h7D,hat0,wa,_,_,.int (gl w ld),rfl,rfl,SqL.of h7w,zal (by rw [List.getElem?_map,zad (by rw [W.ln]; omega)]; rfl),p,gl w ld,rfl,hp,g0,g1,?_⟩
      refine ⟨_,rfl,.inl ⟨rfl,_,SqL.of h7c⟩,_,rfl,D,_,_,.int (ld : Int),rfl,rfl,SqL.of h7D,hat0,_,rfl,wa,rfl,⟨_,SqL.of h7w⟩,zc9 (fs:=(w.map fun x => x * inv p (gl w ld) % p).map V.int) (SqL.of h7w) (by rw [List.length_map,List.length_map,List.length_map]) (by rw [List.length_map,W.ln]; omega) ?_ ?_⟩
      ·intro j x y R B hx hy hR
       obtain ⟨n,rfl,hn⟩:=zT hx
       obtain ⟨n',rfl,hn'⟩:=zT hy
       rw [List.getElem?_map,hn] at hn'
       cases hn'
       have hnr:=W.rg n (List.mem_of_getElem? hn)
       exact gY ⟨_,rfl,_,rfl,_,_,rfl,rfl,.inl ⟨by omega,by omega⟩,_,rfl,_,_,rfl,rfl,p0,hR⟩
      ·intro D2 hD2
       have t8:=zd (o:=.lst ((w.map fun x => x * inv p (gl w ld) % p).map V.int)) hD2
       have h8D : upd H7 D2 (.lst ((w.map fun x => x * inv p (gl w ld) % p).map V.int)) D2 = some (.lst ((w.map fun x => x * inv p (gl w ld) % p).map V.int)):=zb
       have hDc : D2 ≠ ca:=fun e => by rw [e,h7c] at hD2; cases hD2
       generalize upd H7 D2 (.lst ((w.map fun x => x * inv p (gl w ld) % p).map V.int)) = H8 at t8 h8D ⊢
       refine ⟨by show 2 ≤ sizeLine; omega,fun tb htb => ?_⟩
       have t9:=zd (o:=.tup [.int (ld : Int),.ref D2]) htb
       have h9t : upd H8 tb (.tup [.int (ld : Int),.ref D2]) tb = some (.tup [.int (ld : Int),.ref D2]):=zb
       have h9c:=t9 _ _ (t8 _ _ h7c)
       have s9:=(s7.trans t8).trans t9
       have hcl9:=(hcl7.same t8).same t9
       have h9D:=t9 _ _ h8D
       generalize upd H8 tb (.tup [.int (ld : Int),.ref D2]) = H9 at t9 h9t h9c s9 hcl9 h9D ⊢
       have hln:=E.ln
       refine ⟨ca,_,_,rfl,rfl,h9c,by rw [List.length_map,hcll,hln]; omega,cs ++ [tb],_,_,_,_,_,_,_,_,rfl,z6 s9 hca,by rw [zb,List.map_append]; rfl,Paired.snoc (hcl9.put h9c) ⟨D2,?_,?_,hDc⟩,zge hp E hi W hld hg0⟩
       ·rw [zn (fun e => by rw [e,h9c] at h9t; cases h9t)]
        exact h9t
       ·rw [zn hDc]
        exact h9D
  ·rintro σ H1 ⟨cs,cl,e4,e5,e6,e7,e8,e9,e10,rfl,s1,h1c,hcl,E⟩
   exact qn H1 s1 (zgf E)
end
end My
end
section
set_option maxHeartbeats 3999000
namespace My
open PySem L2 PyProof.Rows
end My
end
section
set_option maxHeartbeats 3999000
namespace My
open PySem L2 PyProof.Rows
theorem zh1 {X : Cx} {st : Stmt} {ts : TS} (h : PS X st ts) : PS X st (fun D σ H => ∃ Pv : L2.St → Hp → Prop,ts { D with nx:=Pv } σ H ∧ ∀ σ' H',Pv σ' H' → D.nx σ' H'):=by
 intro pins s σ H D I hq
 obtain ⟨Pv,h1,h2⟩:=hq
 refine thn (h pins s σ H _ I h1) fun f s1 q => ?_
 cases f with
 | next =>
  obtain ⟨σ',H',I',p⟩:=q
  exact ⟨σ',H',I',h2 _ _ p⟩
 | ret v => exact q
 | brk => exact q
 | cont => exact q
theorem PtB.pts {K : PySem.W.Frag} {H : Hp} {a : Addr} {bs : List Addr} {pts : List (Int × Int)} (ha : H a = some (.lst (bs.map V.ref))) (h : PtB H bs pts) : zhh K H a pts:=by
 refine ⟨bs,SqL.of ha,h.length,fun i b q h1 h2 => ?_⟩
 obtain ⟨q',h3,h4⟩:=Paired.get h h1
 rw [h2] at h3
 cases h3
 exact h4
end My
end
section
set_option maxHeartbeats 3999000
namespace My
open PySem L2 PyProof.Rows
section
variable {P : Program} {w : World} {K : PySem.W.Frag} {mg : Str → Option Value} {base : Heap} {t : Adr}
theorem zg3 {K : PySem.W.Frag} {H H' : Hp} {a : Addr} {xs : List V} (e : zB H H') (h : SqT K H a xs) : SqT K H' a xs:=by
 rcases h with (h | ⟨o,h⟩) | h
 ·exact .inl (.inl (e _ _ h))
 ·exact .inl (.inr ⟨o,e _ _ h⟩)
 ·exact .inr h
def tmP (p : Int) (l : List Int) (pts : List (Int × Int)) : List (Int × Int):=pts.map fun a => (a.1,ze p a.1 l * a.2 % p)
theorem zbz {p : Int} (p0 : 0 < p) {l : List Int} {pts : List (Int × Int)} (hP : Pts p pts) : Pts p (tmP p l pts):=by
 refine ⟨?_,fun q hq => ?_⟩
 ·unfold tmP
  rw [List.map_map]
  exact hP.nd
 ·obtain ⟨a,ha,rfl⟩:=List.mem_map.mp hq
  obtain ⟨h1,h2,_⟩:=hP.rg a ha
  exact ⟨h1,h2,Int.emod_nonneg _ (by omega),Int.emod_lt_of_pos _ p0⟩
theorem zgl (p : Int) (l : List Int) (pts : List (Int × Int)) : (pts.map fun a => (a.1,ze p a.1 l * a.2)).map (md p) = tmP p l pts:=by
 rw [List.map_map]
 rfl
def zbX (K : PySem.W.Frag) : Sp:=fun vs H Q _ => ∃ (p : Int) (la a : Addr) (l : List Int) (bs : List Addr) (pts : List (Int × Int)),vs = [.int p,.ref la,.ref a] ∧ SqT K H la (l.map V.int) ∧ SqL K H a (bs.map V.ref) ∧ PtB H bs pts ∧ pts.length ≤ 100 ∧ p ∈ zl ∧ Pts p pts ∧
 ∀ (z : Addr) (H' : Hp),H z = none → zB H H' → H' z = some (.tup ((thr p (tmP p l pts)).map V.int)) → Q (.ref z) H'
theorem zbY : FnScope ["p","left","points"] ["p","left","points"] (zj zW):=⟨rfl,rfl,rfl,by decide +kernel,rfl,by decide +kernel,by decide +kernel⟩
theorem zbZ {fd : FuncData} (T : Txt K mg t) (F : Fun K "times_entries" "times_entries" zW t.times_entries fd) : FnOk P w K mg base CX0 4 t.times_entries fd ["p","left","points"] (zbX K):=by
 obtain ⟨fd_through,F_through,b_through⟩:=T.f_through
 have G_through:=zem (P:=P) (w:=w) (base:=base) T F_through
 obtain ⟨fd_value_at,F_value_at,b_value_at⟩:=T.f_value_at
 have G_value_at:=zb9 (P:=P) (w:=w) (base:=base) T F_value_at
 refine F.ok zbY (fun vs H Q E h => ?_) (fun cdv A outer s H vs Q E hr h => ?_)
 ·obtain ⟨p,la,a,l,bs,pts,rfl,_⟩:=h
  rfl
 ·obtain ⟨p,la,a,l,bs,pts,rfl,hla,ha,hB,hn,hp,hP,q⟩:=h
  refine ⟨_,(@zp _ _ _ (@zG _ _ _ _ (@zt _ _ _ _ _ _ _ _ _ _ _ _ _ _ _ _ G_through (hr.mono (by decide)) rfl T.m_through F_through.kp b_through .nil (@zP _) (@za _ _ _ _ _ (@pvx _ 0 _ _ rfl) (@za _ _ _ _ _ (@zan _ _ _ _ _ _ _ _ _ _ _ _ _ (CompSc.of (N':=["x","y","p","left"]) (ix:=[none,none,some 0,some 1]) (zj zW) ["p","left","points"] rfl rfl (by decide +kernel)) rfl (@zcp _ _ _ _ (@z8 _ _ _ rfl (@z8 _ _ _ rfl (@zbI _)))) (@zaj _ _ _ _ (@pvx _ 2 _ _ rfl)) (fun _ _ _ _ => (@zbJ _ (K) _ _ _ (2) _ rfl rfl (@zm _ _ _ _ _ (@zi _ _ (0) _ (show (["x","y","p","left"] : List Str).Nodup by decide +kernel) rfl (Or.inl rfl) (by trivial)) (@zm _ _ _ _ _ (@zi _ _ (1) _ (show (["x","y","p","left"] : List Str).Nodup by decide +kernel) rfl (Or.inl rfl) (by trivial)) (@zS _) (by rfl)) (by rfl)) (by rfl) (by rfl))) (fun _ _ _ _ => (@zL _)) (fun _ _ _ _ => (@zaJ _ _ _ _ _ (@za _ _ _ _ _ (@pvx _ 0 _ _ rfl) (@za _ _ _ _ _ (@zh _ _ _ _ _ _ _ _ (@zI _) (@zt _ _ _ _ _ _ _ _ _ _ _ _ _ _ _ _ G_value_at (hr.mono (by decide)) rfl T.m_value_at F_value_at.kp b_value_at .nil (@zP _) (@za _ _ _ _ _ (@pvx _ 2 _ _ rfl) (@za _ _ _ _ _ (@pvx _ 3 _ _ rfl) (@za _ _ _ _ _ (@pvx _ 0 _ _ rfl) (@zf _) (by rfl)) (by rfl)) (by rfl)) (by decide) (by rfl) (by rfl)) (@pvx _ 1 _ _ rfl)) (@zf _) (by rfl)) (by rfl)))) (by intro _; rfl)) (@zf _) (by rfl)) (by rfl)) (by decide) (by rfl) (by rfl)))),?_⟩
  have hsl:=sizeLine_eq
  have rp:=zk hp
  have p0 : 0 < p:=by omega
  have hbl:=hB.length
  refine ⟨_,rfl,_,rfl,a,rfl,⟨_,ha⟩,zY (n:=bs.length) (fun i ys H' => zB H H' ∧ ∃ us : List Addr,ys = us.map V.ref ∧ PtB H' us ((pts.take i).map fun a => (a.1,ze p a.1 l * a.2))) ⟨fun _ _ e => e,[],rfl,.nil⟩ ?_ ?_ ?_ ?_⟩
  ·rintro i ys H1 hi ⟨s1,_⟩
   exact ⟨_,.ref bs[i],s1.seq ha,by rw [List.getElem?_map,List.getElem?_eq_getElem hi]; rfl⟩
  ·rintro ys H1 ⟨s1,_⟩
   exact ⟨_,s1.seq ha,by rw [List.length_map]; exact Nat.le_refl _⟩
  ·rintro i y ys H1 H2 hi ⟨s1,us,rfl,hus⟩ ⟨rfl,hy⟩
   obtain ⟨b,rfl,hb⟩:=zaG (hy _ (s1.seq ha))
   obtain ⟨pt,hpt,hat⟩:=Paired.get hB hb
   obtain ⟨x0,x1,y0,y1⟩:=hP.rg pt (List.mem_of_getElem? hpt)
   have hul:=hus.length
   rw [List.length_map,List.length_take] at hul
   have v0:=zM (x:=pt.1) p0 l
   have v1:=zN (x:=pt.1) p0 l
   refine gY2 (SqT.of (s1 _ _ hat)) ⟨_,rfl,_,rfl,_,rfl,_,rfl,p,pt.1,la,l,rfl,.inr (zg3 s1 hla),p0,by omega,x0,x1,_,rfl,_,_,rfl,rfl,.inl ⟨by omega,by omega⟩,by show 2 ≤ sizeLine; omega,fun z hz => ?_⟩
   refine ⟨by rw [List.length_map]; omega,s1.trans (zd hz),us ++ [z],by rw [List.map_append]; rfl,?_⟩
   rw [take_snoc hpt,List.map_append]
   exact Paired.snoc (hus.same (zd hz)) zb
  ·rintro ys H1 D ⟨s1,us,rfl,hus⟩ hD
   rw [hbl,List.take_length] at hus
   have t2:=zd (o:=.lst (us.map V.ref)) hD
   have h2D : upd H1 D (.lst (us.map V.ref)) D = some (.lst (us.map V.ref)):=zb
   have hus2:=hus.same t2
   generalize upd H1 D (.lst (us.map V.ref)) = H2 at t2 h2D hus2 ⊢
   refine ⟨p,D,_,rfl,hus2.pts h2D,by rw [List.length_map]; omega,hp,by rw [zgl]; exact zbz p0 hP,fun q hq => ?_,fun z H3 hz s3 h3 => q z H3 ((s1.trans t2).free hz) ((s1.trans t2).trans s3) (by rw [zgl] at h3; exact h3)⟩
   obtain ⟨b,hb,rfl⟩:=List.mem_map.mp hq
   obtain ⟨_,_,y0,y1⟩:=hP.rg b hb
   have v0:=zM (x:=b.1) p0 l
   have v1:=zN (x:=b.1) p0 l
   dsimp only
   have h1 : ze p b.1 l * b.2 ≤ 97 * 97:=Int.mul_le_mul (by omega) (by omega) y0 (by omega)
   have h2:=Int.mul_nonneg v0 y0
   omega
def bey (m : Nat) (rs : List (List Int)) : List Int:=rs.flatMap fun r => r.drop m
theorem zd1 (m : Nat) {rs : List (List Int)} {i : Nat} {r : List Int} (h : rs[i]? = some r) : bey m (rs.take (i + 1)) = bey m (rs.take i) ++ r.drop m:=by
 unfold bey
 rw [take_snoc h,List.flatMap_append]
 simp
def zfn (K : PySem.W.Frag) : Sp:=fun vs H Q _ => ∃ (a : Addr) (m : Nat) (bs : List Addr) (rs : List (List Int)),vs = [.ref a,.int (m : Int)] ∧ SqL K H a (bs.map V.ref) ∧ zbW H bs rs ∧ 1 ≤ m ∧ (∀ r ∈ rs,r ≠ []) ∧ (∀ i,(bey m (rs.take i)).length ≤ 10000) ∧
 ∀ (z : Addr) (H' : Hp),H z = none → zB H H' → H' z = some (.lst ((bey m rs).map V.int)) → Q (.ref z) H'
theorem zfo : FnScope ["rights","many"] ["rights","many"] (zj zbn):=⟨rfl,rfl,rfl,by decide +kernel,rfl,by decide +kernel,by decide +kernel⟩
theorem zfp {fd : FuncData} (T : Txt K mg t) (F : Fun K "beyond" "beyond" zbn t.beyond fd) : FnOk P w K mg base CX0 1 t.beyond fd ["rights","many"] (zfn K):=by
 refine F.ok zfo (fun vs H Q E h => ?_) (fun cdv A outer s H vs Q E hr h => ?_)
 ·obtain ⟨a,m,bs,rs,rfl,_⟩:=h
  rfl
 ·obtain ⟨a,m,bs,rs,rfl,ha,hT,m1,hne,hlen,q⟩:=h
  refine ⟨_,(@zp _ _ _ (@zG _ _ _ _ (@zgT _ _ _ _ _ _ _ _ _ _ _ _ _ _ _ _ _ _ _ _ _ (CompSc.of (N':=["right","number","many"]) (ix:=[none,none,some 1]) (zj zbn) ["rights","many"] rfl rfl (by decide +kernel)) rfl (zeQ (js:=[0]) (i:=0) (by decide)) (zeQ (js:=[1]) (i:=1) (by decide)) (by decide) (by decide) (@zaj _ _ _ _ (@pvx _ 0 _ _ rfl)) (fun _ _ _ _ => (@zi _ _ (0) _ (show (["right","number","many"] : List Str).Nodup by decide +kernel) rfl (Or.inl rfl) (by trivial))) (fun _ _ _ _ => (@zL _)) (fun _ _ _ _ => (@zgY _ (K) _ _ _ rfl (@zbe _ _ _ _ _ _ _ _ _ _ (zgX (K:=K) rfl) (@pvx _ 0 _ _ rfl) (@zbq _ _ _ (@pvx _ 2 _ _ rfl)) (@zce _)))) (fun _ _ _ _ => (@zi _ _ (1) _ (show (["right","number","many"] : List Str).Nodup by decide +kernel) rfl (Or.inl rfl) (by trivial))) (fun _ _ _ _ => (@zL _)) (fun _ _ _ _ => (@pvx _ 1 _ _ rfl)) (by intro _; rfl) (by intros; rfl)))),?_⟩
  have hsl:=sizeLine_eq
  have hbl:=hT.length
  refine ⟨_,rfl,a,rfl,⟨_,ha⟩,zhj (n:=bs.length) (fun i ys H' => ys = (bey m (rs.take i)).map V.int ∧ zB H H') ⟨rfl,fun _ _ e => e⟩ ?_ ?_ ?_ ?_⟩
  ·rintro i ys H1 hi ⟨_,s1⟩
   exact ⟨_,.ref bs[i],s1.seq ha,by rw [List.getElem?_map,List.getElem?_eq_getElem hi]; rfl⟩
  ·rintro ys H1 ⟨_,s1⟩
   exact ⟨_,s1.seq ha,by rw [List.length_map]; exact Nat.le_refl _⟩
  ·rintro i y ys H1 H2 hi ⟨rfl,s1⟩ ⟨rfl,hy⟩
   obtain ⟨b,rfl,hb⟩:=zaG (hy _ (s1.seq ha))
   obtain ⟨r,hr',hat⟩:=Paired.get hT hb
   have hr0:=List.length_pos_iff.mpr (hne r (List.mem_of_getElem? hr'))
   have hlen1:=hlen (i + 1)
   rw [zd1 m hr',List.length_append] at hlen1
   refine gY ⟨_,rfl,_,rfl,_,rfl,b,_,rfl,SqT.of (s1 _ _ hat),?_,fun z hz => ?_⟩
   ·rintro ⟨h1,_⟩
    rw [HT.sIx_nat,List.length_map] at h1
    omega
   have ec : za9 (r.map V.int) (some (m : Int)) none = (r.drop m).map V.int:=by
    unfold za9
    rw [HT.sIx_nat,HT.sIx_none,List.length_map,List.map_drop,List.take_of_length_le (by rw [List.length_drop,List.length_map]; exact Nat.le_refl _)]
    by_cases h : m ≤ r.length
    ·rw [Nat.min_eq_left h]
    ·rw [show min m r.length = r.length by omega,List.drop_of_length_le (by rw [List.length_map]; exact Nat.le_refl _),List.drop_of_length_le (by rw [List.length_map]; omega)]
   rw [ec]
   have t2:=zd (o:=.tup ((r.drop m).map V.int)) hz
   have h2z : upd H2 z (.tup ((r.drop m).map V.int)) z = some (.tup ((r.drop m).map V.int)):=zb
   generalize upd H2 z (.tup ((r.drop m).map V.int)) = H3 at t2 h2z ⊢
   refine ⟨z,rfl,⟨_,SqT.of h2z⟩,zhj (n:=(r.drop m).length) (fun j ys H' => ys = (bey m (rs.take i) ++ (r.drop m).take j).map V.int ∧ H' = H3) ⟨by rw [List.take_zero,List.append_nil],rfl⟩ ?_ ?_ ?_ ?_⟩
   ·rintro j ys H4 hj ⟨_,rfl⟩
    exact ⟨_,.int (r.drop m)[j],SqT.of h2z,by rw [List.getElem?_map,List.getElem?_eq_getElem hj]; rfl⟩
   ·rintro ys H4 ⟨_,rfl⟩
    exact ⟨_,SqT.of h2z,by rw [List.length_map]; exact Nat.le_refl _⟩
   ·rintro j y ys H4 H5 hj ⟨rfl,rfl⟩ ⟨rfl,hy⟩
    obtain ⟨n,rfl,hn⟩:=zT (hy _ (SqT.of h2z))
    refine gY ⟨_,rfl,?_,?_,rfl⟩
    ·rw [List.length_map,List.length_append,List.length_take]
     omega
    ·rw [take_snoc hn,← List.append_assoc,List.map_append (l₂:=[n])]
     rfl
   ·rintro ys H4 ⟨rfl,rfl⟩
    exact ⟨by rw [List.take_length,zd1 m hr'],s1.trans t2⟩
  ·rintro ys H1 ⟨rfl,s1⟩ D hD
   rw [hbl,List.take_length] at *
   exact q D _ (s1.free hD) (s1.trans (zd hD)) zb
def szd (q : List Int) (m : Nat) : List Int:=(q ++ List.replicate m 0).take m
def zgm (K : PySem.W.Frag) : Sp:=fun vs H Q _ => ∃ (a : Addr) (m : Nat) (q : List Int),vs = [.ref a,.int (m : Int)] ∧ SqT K H a (q.map V.int) ∧ q ≠ [] ∧ 1 ≤ m ∧ q.length + m ≤ 10000 ∧
 ∀ (z : Addr) (H' : Hp),H z = none → zB H H' → H' z = some (.tup ((szd q m).map V.int)) → Q (.ref z) H'
theorem zgn : FnScope ["polynomial","many"] ["polynomial","many"] (zj zcg):=⟨rfl,rfl,rfl,by decide +kernel,rfl,by decide +kernel,by decide +kernel⟩
theorem zgo {fd : FuncData} (T : Txt K mg t) (F : Fun K "sized" "sized" zcg t.sized fd) : FnOk P w K mg base CX0 1 t.sized fd ["polynomial","many"] (zgm K):=by
 refine F.ok zgn (fun vs H Q E h => ?_) (fun cdv A outer s H vs Q E hr h => ?_)
 ·obtain ⟨a,m,q,rfl,_⟩:=h
  rfl
 ·obtain ⟨a,m,cs,rfl,ha,hne,m1,hlen,q⟩:=h
  refine ⟨_,(@zp _ _ _ (@zG _ _ _ _ (@zbe _ _ _ _ _ _ _ _ _ _ zfI (@zh _ _ _ _ _ _ _ _ (@zeB _) (@pvx _ 0 _ _ rfl) (@zh _ _ _ _ _ _ _ _ (@zeX _) (@zaJ _ _ _ _ _ (@za _ _ _ _ _ (@zg _ _ _ _) (@zf _) (by rfl))) (@pvx _ 1 _ _ rfl))) (@zce _) (@zbq _ _ _ (@pvx _ 1 _ _ rfl))))),?_⟩
  have hsl:=sizeLine_eq
  have h0:=List.length_pos_iff.mpr hne
  refine ⟨_,rfl,by show 1 ≤ sizeLine; omega,fun t1 ht1 => ⟨_,rfl,t1,_,[.int 0],rfl,rfl,SqT.of zb,by simp,by omega,by omega,by show 1 * _ ≤ sizeLine; omega,fun z H1 s1 h1z => ?_⟩⟩
  rw [Int.toNat_natCast,zbL] at h1z
  have s01:=(zd (o:=.tup [.int 0]) ht1).trans s1
  refine ⟨a,z,_,_,rfl,rfl,zg3 s01 ha,h1z,by simpa using hne,by rw [List.length_map,List.length_map,List.length_replicate]; omega,fun e => ?_,fun _ y hy => ?_⟩
  ·have:=congrArg List.length e
   rw [List.length_map,List.length_replicate] at this
   exact absurd this (by show ¬ m = 0; omega)
  rw [← List.map_append]
  have t2:=zd (o:=.tup ((cs ++ List.replicate m 0).map V.int)) hy
  refine ⟨_,rfl,_,rfl,y,_,rfl,SqT.of zb,?_,fun x hx => ?_⟩
  ·rintro ⟨_,h2⟩
   rw [HT.sIx_nat,List.length_map,List.length_append,List.length_replicate] at h2
   omega
  have ec : za9 ((cs ++ List.replicate m 0).map V.int) none (some (m : Int)) = (szd cs m).map V.int:=by
   unfold za9 szd
   rw [HT.sIx_nat,HT.sIx_none,List.drop_zero,Nat.sub_zero,List.length_map,List.length_append,List.length_replicate,Nat.min_eq_left (by omega),List.map_take]
  rw [ec]
  exact q x _ ((s01.trans t2).free hx) ((s01.trans t2).trans (zd hx)) zb
end
end My
end
section
set_option maxHeartbeats 3999000
namespace My
open PySem L2 PyProof.Rows
def unit (i : Nat) : List Int:=List.replicate i 0 ++ [1]
theorem zeZ (i j : Nat) : gl (unit i) j = if j = i then 1 else 0:=by
 unfold unit
 by_cases h : j < i
 ·rw [if_neg (by omega)]
  exact zaO (by rw [List.getElem?_append_left (by rw [List.length_replicate]; exact h),List.getElem?_replicate,if_pos h])
 ·by_cases e : j = i
  ·rw [if_pos e]
   exact zaO (by rw [List.getElem?_append_right (by rw [List.length_replicate]; omega),List.length_replicate,e,Nat.sub_self]; rfl)
  ·rw [if_neg e]
   exact zac (by rw [List.length_append,List.length_replicate]; show i + 1 ≤ j; omega)
theorem zfq {p x : Int} (i : Nat) : Cg p (ze p x (unit i)) (x ^ i):=by
 refine (zao (n:=i + 1) (by unfold unit; rw [List.length_append,List.length_replicate]; exact Nat.le_refl _)).trans ?_
 rw [zel (j:=i) (by omega) fun j _ hne => by rw [zeZ,if_neg hne,Int.zero_mul],zeZ,if_pos rfl,Int.one_mul]
 exact Cg.refl _ _
def Tp (p : Int) (pts : List (Int × Int)) (i : Nat) : List Int:=thr p (tmP p (unit i) pts)
theorem za8 {p : Int} (hp : p ∈ zl) {pts : List (Int × Int)} (hP : Pts p pts) (l : List Int) : (thr p (tmP p l pts)).length = pts.length:=by
 have rp:=zk hp
 rw [(zds hp (zbz (l:=l) (by omega) hP)).1]
 unfold tmP
 rw [List.length_map]
theorem zgp {p : Int} (hp : p ∈ zl) {pts : List (Int × Int)} (hP : Pts p pts) (l : List Int) : ∀ c ∈ thr p (tmP p l pts),0 ≤ c ∧ c < p:=by
 have rp:=zk hp
 exact (zds hp (zbz (l:=l) (by omega) hP)).2.1
theorem zhk {p : Int} (hp : p ∈ zl) {pts : List (Int × Int)} (hP : Pts p pts) (l : List Int) {a : Int × Int} (ha : a ∈ pts) : ze p a.1 (thr p (tmP p l pts)) = ze p a.1 l * a.2 % p:=by
 have rp:=zk hp
 exact (zds hp (zbz (l:=l) (by omega) hP)).2.2 _ (List.mem_map.mpr ⟨a,ha,rfl⟩)
theorem ze0 {p : Int} (hp : p ∈ zl) {pts : List (Int × Int)} (hP : Pts p pts) {l : List Int} {N : Nat} (hl : l.length ≤ N) (x : Nat) : Cg p (gl (thr p (tmP p l pts)) x) (sm N fun i => gl l i * gl (Tp p pts i) x):=by
 have rp:=zk hp
 have p0 : 0 < p:=by omega
 obtain ⟨C,hC⟩ : ∃ C,C = (List.range pts.length).map fun x => (sm N fun i => gl l i * gl (Tp p pts i) x) % p:=⟨_,rfl⟩
 have hCl : C.length = pts.length:=by rw [hC,List.length_map,List.length_range]
 have hCg : ∀ x,x < pts.length → gl C x = (sm N fun i => gl l i * gl (Tp p pts i) x) % p:=fun x hx => zaO (by rw [hC,List.getElem?_map,List.getElem?_range hx]; rfl)
 have hCr : ∀ c ∈ C,0 ≤ c ∧ c < p:=fun c hc => by
  rw [hC] at hc
  obtain ⟨x,_,rfl⟩:=List.mem_map.mp hc
  exact ⟨Int.emod_nonneg _ (by omega),Int.emod_lt_of_pos _ p0⟩
 have hev : ∀ a ∈ pts,ze p a.1 C = ze p a.1 l * a.2 % p:=fun a ha => by
  refine Cg.eq ?_ (zM p0 _) (zN p0 _) (Int.emod_nonneg _ (by omega)) (Int.emod_lt_of_pos _ p0)
  refine (zao (n:=pts.length) (by omega)).trans ?_
  have h1 : Cg p (sm pts.length fun x => gl C x * a.1 ^ x) (sm pts.length fun x => sm N fun i => gl l i * (gl (Tp p pts i) x * a.1 ^ x)):=zdb fun x hx => by
   rw [hCg x hx]
   refine ((Cg.emod _ _).mul (Cg.refl p _)).trans (Cg.of_eq ?_)
   rw [Int.mul_comm,← za6]
   exact zU fun i _ => by grind
  refine h1.trans ?_
  rw [zdy]
  have h2 : Cg p (sm N fun i => sm pts.length fun x => gl l i * (gl (Tp p pts i) x * a.1 ^ x)) (sm N fun i => a.2 * (gl l i * a.1 ^ i)):=zdb fun i _ => by
   rw [za6]
   have e1 : Cg p (sm pts.length fun x => gl (Tp p pts i) x * a.1 ^ x) (ze p a.1 (Tp p pts i)):=(zao (by unfold Tp; rw [za8 hp hP]; exact Nat.le_refl _)).symm
   have e2 : Cg p (ze p a.1 (Tp p pts i)) (a.1 ^ i * a.2):=by
    unfold Tp
    rw [zhk hp hP (unit i) ha]
    exact (Cg.emod _ _).trans ((zfq i).mul (Cg.refl p _))
   exact ((Cg.refl p (gl l i)).mul (e1.trans e2)).trans (Cg.of_eq (by grind))
  refine h2.trans ?_
  rw [za6]
  refine ((Cg.refl p a.2).mul (zao hl).symm).trans ((Cg.of_eq (Int.mul_comm _ _)).trans (Cg.emod _ _).symm)
 have hthr : C = thr p (tmP p l pts):=zgb hp (zbz p0 hP) (by unfold tmP; rw [List.length_map]; exact hCl) hCr fun a ha => by
  obtain ⟨b,hb,rfl⟩:=List.mem_map.mp ha
  exact hev b hb
 rw [← hthr]
 by_cases hx : x < pts.length
 ·rw [hCg x hx]
  exact Cg.emod _ _
 ·rw [zac (by omega)]
  refine Cg.of_eq (zaH fun i _ => ?_).symm
  rw [zac (w:=Tp p pts i) (by unfold Tp; rw [za8 hp hP]; omega),Int.mul_zero]
theorem zeq {a b : List Int} (x : Nat) : gl (a ++ b) x = if x < a.length then gl a x else gl b (x - a.length):=by
 unfold gl
 rw [List.getD_eq_getElem?_getD,List.getD_eq_getElem?_getD,List.getD_eq_getElem?_getD]
 by_cases h : x < a.length
 ·rw [if_pos h,List.getElem?_append_left h]
 ·rw [if_neg h,List.getElem?_append_right (by omega)]
theorem zg4 {a : List Int} (m x : Nat) : gl (a.drop m) x = gl a (m + x):=by
 unfold gl
 rw [List.getD_eq_getElem?_getD,List.getD_eq_getElem?_getD,List.getElem?_drop]
theorem ze1 {p : Int} (hp : p ∈ zl) {c : Nat → Int} {N m : Nat} : ∀ {ptss : List (List (Int × Int))},(∀ pts ∈ ptss,Pts p pts) →
  ((∀ x,Cg p (sm N fun i => c i * gl (bey m (ptss.map fun pts => Tp p pts i)) x) 0) ↔ ∀ pts ∈ ptss,∀ y,m ≤ y → Cg p (sm N fun i => c i * gl (Tp p pts i) y) 0)
 | [],_ => by
  refine ⟨fun _ pts h => by (cases h),fun _ x => Cg.of_eq (zaH fun i _ => ?_)⟩
  show c i * gl [] x = 0
  rw [zac (Nat.zero_le _),Int.mul_zero]
 | pts :: ptss,hP => by
  have ih:=ze1 hp (c:=c) (N:=N) (m:=m) (ptss:=ptss) fun q hq => hP q (List.mem_cons_of_mem _ hq)
  have hl : ∀ i,((Tp p pts i).drop m).length = pts.length - m:=fun i => by
   rw [List.length_drop]
   unfold Tp
   rw [za8 hp (hP pts List.mem_cons_self)]
  have hb : ∀ i x,gl (bey m ((pts :: ptss).map fun pts => Tp p pts i)) x = if x < pts.length - m then gl (Tp p pts i) (m + x) else gl (bey m (ptss.map fun pts => Tp p pts i)) (x - (pts.length - m)):=fun i x => by
   have : bey m ((pts :: ptss).map fun pts => Tp p pts i) = (Tp p pts i).drop m ++ bey m (ptss.map fun pts => Tp p pts i):=rfl
   rw [this,zeq,hl,zg4]
  constructor
  ·intro h q hq y hy
   rcases (List.mem_cons.mp hq) with rfl | hq
   ·by_cases hyl : y < q.length
    ·have:=h (y - m)
     refine Cg.trans (Cg.of_eq (zU fun i _ => ?_)) this
     rw [hb,if_pos (by omega),show m + (y - m) = y by omega]
    ·refine Cg.of_eq (zaH fun i _ => ?_)
     rw [zac (by unfold Tp; rw [za8 hp (hP q List.mem_cons_self)]; omega),Int.mul_zero]
   ·refine ih.mp (fun x => ?_) q hq y hy
    have:=h (pts.length - m + x)
    refine Cg.trans (Cg.of_eq (zU fun i _ => ?_)) this
    rw [hb,if_neg (by omega),show pts.length - m + x - (pts.length - m) = x by omega]
  ·intro h x
   by_cases hx : x < pts.length - m
   ·have:=h pts List.mem_cons_self (m + x) (by omega)
    refine Cg.trans (Cg.of_eq (zU fun i _ => ?_)) this
    rw [hb,if_pos hx]
   ·have:=ih.mpr (fun q hq => h q (List.mem_cons_of_mem _ hq)) (x - (pts.length - m))
    refine Cg.trans (Cg.of_eq (zU fun i _ => ?_)) this
    rw [hb,if_neg hx]
def Good (p : Int) (k e : Nat) (ptss : List (List (Int × Int))) (l : List Int) : Prop:=∀ pts ∈ ptss,∃ right,IsP p (k + e) right ∧ ∀ a ∈ pts,ze p a.1 right = ze p a.1 l * a.2 % p
theorem zgq (q : List Int) (m x : Nat) : gl (szd q m) x = if x < m then gl q x else 0:=by
 unfold szd
 by_cases h : x < m
 ·rw [if_pos h]
  unfold gl
  rw [List.getD_eq_getElem?_getD,List.getElem?_take_of_lt h,← List.getD_eq_getElem?_getD]
  show gl (q ++ List.replicate m 0) x = _
  rw [zeq]
  split
  ·rfl
  ·show gl (List.replicate m 0) _ = q.getD x 0
   rw [show q.getD x 0 = gl q x from rfl,zac (w:=q) (by omega)]
   unfold gl
   rw [List.getD_eq_getElem?_getD,List.getElem?_replicate]
   split <;> rfl
 ·rw [if_neg h]
  exact zac (by rw [List.length_take]; omega)
theorem ze2 {p : Int} (p0 : 0 < p) {q : List Int} (hq : ∀ c ∈ q,0 ≤ c ∧ c < p) (m : Nat) : IsP p m (szd q m):=by
 unfold szd
 refine ⟨by rw [List.length_take,List.length_append,List.length_replicate]; omega,fun c hc => ?_⟩
 rcases List.mem_append.mp (List.mem_of_mem_take hc) with h | h
 ·exact hq c h
 ·rw [List.eq_of_mem_replicate h]; omega
theorem zd2 {p : Int} (p0 : 0 < p) {q : List Int} {m : Nat} (hz : ∀ y,m ≤ y → gl q y = 0) (x : Int) : ze p x (szd q m) = ze p x q:=by
 refine Cg.eq ?_ (zM p0 _) (zN p0 _) (zM p0 _) (zN p0 _)
 refine (zao (n:=q.length + m) (by unfold szd; rw [List.length_take,List.length_append,List.length_replicate]; omega)).trans (Cg.trans (Cg.of_eq (zU fun i _ => ?_)) (zao (n:=q.length + m) (by omega)).symm)
 rw [zgq]
 by_cases h : i < m
 ·rw [if_pos h]
 ·rw [if_neg h,hz i (by omega)]
theorem zgr {p : Int} (hp : p ∈ zl) {k e : Nat} {pts : List (Int × Int)} (hP : Pts p pts) {l : List Int} (hz : ∀ y,k + e ≤ y → gl (thr p (tmP p l pts)) y = 0) :
  IsP p (k + e) (szd (thr p (tmP p l pts)) (k + e)) ∧ ∀ a ∈ pts,ze p a.1 (szd (thr p (tmP p l pts)) (k + e)) = ze p a.1 l * a.2 % p:=by
 have rp:=zk hp
 refine ⟨ze2 (by omega) (zgp hp hP l) _,fun a ha => ?_⟩
 rw [zd2 (by omega) hz]
 exact zhk hp hP l ha
theorem zfr {p : Int} (hp : p ∈ zl) {k e : Nat} {pts : List (Int × Int)} (hP : Pts p pts) {l right : List Int} (hr : IsP p (k + e) right) (hev : ∀ a ∈ pts,ze p a.1 right = ze p a.1 l * a.2 % p) (y : Nat) (hy : k + e ≤ y) : gl (thr p (tmP p l pts)) y = 0:=by
 have rp:=zk hp
 by_cases hyl : y < pts.length
 ·have e1 : right ++ List.replicate (pts.length - (k + e)) 0 = thr p (tmP p l pts):=zgb hp (zbz (by omega) hP) (by unfold tmP; rw [List.length_map,List.length_append,List.length_replicate,hr.1]; omega) (fun c hc => by
   rcases List.mem_append.mp hc with h | h
   ·exact hr.2 c h
   ·rw [List.eq_of_mem_replicate h]; omega) fun a ha => by
    obtain ⟨b,hb,rfl⟩:=List.mem_map.mp ha
    rw [zdN]
    exact hev b hb
  rw [← e1,zeq,hr.1,if_neg (by omega)]
  unfold gl
  rw [List.getD_eq_getElem?_getD,List.getElem?_replicate]
  split <;> rfl
 ·exact zac (by rw [za8 hp hP]; omega)
def zaq (p : Int) (k e : Nat) (ptss : List (List (Int × Int))) : List (List Int):=(List.range (e + 1)).map fun i => bey (k + e) (ptss.map fun pts => Tp p pts i)
theorem zg5 {p : Int} {k e : Nat} {ptss : List (List (Int × Int))} {i : Nat} (hi : i < e + 1) (x : Nat) : vx (zaq p k e ptss) i x = gl (bey (k + e) (ptss.map fun pts => Tp p pts i)) x:=by
 unfold vx zaq
 rw [List.getD_eq_getElem?_getD,List.getElem?_map,List.getElem?_range hi]
 rfl
theorem zch {p : Int} (hp : p ∈ zl) {m i : Nat} : ∀ {ptss : List (List (Int × Int))},(∀ pts ∈ ptss,Pts p pts) → (bey m (ptss.map fun pts => Tp p pts i)).length = (ptss.map fun pts => pts.length - m).sum
 | [],_ => rfl
 | pts :: ptss,hP => by
  have : bey m ((pts :: ptss).map fun pts => Tp p pts i) = (Tp p pts i).drop m ++ bey m (ptss.map fun pts => Tp p pts i):=rfl
  rw [this,List.length_append,zch hp fun q hq => hP q (List.mem_cons_of_mem _ hq),List.length_drop,List.map_cons,List.sum_cons]
  unfold Tp
  rw [za8 hp (hP pts List.mem_cons_self)]
def zbp (k e : Nat) (ptss : List (List (Int × Int))) : Nat:=(ptss.map fun pts => pts.length - (k + e)).sum
theorem zg6 {p : Int} (hp : p ∈ zl) {k e : Nat} {ptss : List (List (Int × Int))} (hP : ∀ pts ∈ ptss,Pts p pts) : ∀ v ∈ zaq p k e ptss,v.length = zbp k e ptss ∧ ∀ c ∈ v,0 ≤ c ∧ c < p:=fun v hv => by
 obtain ⟨i,_,rfl⟩:=List.mem_map.mp hv
 refine ⟨zch hp hP,fun c hc => ?_⟩
 obtain ⟨r,hr,hcr⟩:=List.mem_flatMap.mp hc
 obtain ⟨pts,hpts,rfl⟩:=List.mem_map.mp hr
 exact zgp hp (hP pts hpts) _ c (List.mem_of_mem_drop hcr)
theorem zhl {p : Int} (hp : p ∈ zl) {k e : Nat} {ptss : List (List (Int × Int))} (hP : ∀ pts ∈ ptss,Pts p pts) {c : Nat → Int} :
  (∀ x,x < zbp k e ptss → Cg p (sm (zaq p k e ptss).length fun i => c i * vx (zaq p k e ptss) i x) 0) ↔ ∀ pts ∈ ptss,∀ y,k + e ≤ y → Cg p (sm (e + 1) fun i => c i * gl (Tp p pts i) y) 0:=by
 have hn : (zaq p k e ptss).length = e + 1:=by unfold zaq; rw [List.length_map,List.length_range]
 rw [hn,← ze1 hp hP]
 have hs : ∀ x,sm (e + 1) (fun i => c i * vx (zaq p k e ptss) i x) = sm (e + 1) fun i => c i * gl (bey (k + e) (ptss.map fun pts => Tp p pts i)) x:=fun x => zU fun i hi => by rw [zg5 hi]
 constructor
 ·intro h x
  by_cases hx : x < zbp k e ptss
  ·rw [← hs]; exact h x hx
  ·refine Cg.of_eq (zaH fun i _ => ?_)
   rw [zac (by rw [zch hp hP]; exact Nat.le_of_not_lt hx),Int.mul_zero]
 ·intro h x _
  rw [hs]
  exact h x
theorem zgs {p : Int} (hp : p ∈ zl) {k e : Nat} {ptss : List (List (Int × Int))} (hP : ∀ pts ∈ ptss,Pts p pts) (hI : Indep p (zbp k e ptss) (zaq p k e ptss)) {l : List Int} (hl : IsP p (e + 1) l) (hg : Good p k e ptss l) : ∀ i,gl l i = 0:=by
 have rp:=zk hp
 have hn : (zaq p k e ptss).length = e + 1:=by unfold zaq; rw [List.length_map,List.length_range]
 intro i
 by_cases hi : i < e + 1
 ·have h:=hI (gl l) ((zhl hp hP).mpr fun pts hpts y hy => ?_) i (by omega)
  ·obtain ⟨g0,g1⟩:=zbU (show 0 < p by omega) hl.2 i
   exact h.eq g0 g1 (Int.le_refl _) (by omega)
  ·obtain ⟨right,h1,h2⟩:=hg pts hpts
   refine (ze0 hp (hP pts hpts) (by rw [hl.1]; exact Nat.le_refl _) y).symm.trans (Cg.of_eq ?_)
   exact zfr hp (hP pts hpts) h1 h2 y hy
 ·exact zac (by rw [hl.1]; omega)
theorem zgt {p : Int} (hp : p ∈ zl) {k e : Nat} {ptss : List (List (Int × Int))} (hP : ∀ pts ∈ ptss,Pts p pts) {c : List Int} (hc : c.length ≤ e + 1) (hD : Dep p (zbp k e ptss) (zaq p k e ptss) c) : ∀ pts ∈ ptss,∀ y,k + e ≤ y → gl (thr p (tmP p c pts)) y = 0:=fun pts hpts y hy => by
 have rp:=zk hp
 have h:=(zhl hp hP).mp hD pts hpts y hy
 obtain ⟨g0,g1⟩:=zbU (show 0 < p by omega) (zgp hp (hP pts hpts) c) y
 exact ((ze0 hp (hP pts hpts) hc y).trans h).eq g0 g1 (Int.le_refl _) (by omega)
theorem zgu {p : Int} (hp : p ∈ zl) {k e n : Nat} {ptss : List (List (Int × Int))} (hn : ∀ pts ∈ ptss,pts.length ≤ n) (hI : Indep p (zbp k e ptss) (zaq p k e ptss)) : k + e < n:=by
 have rp:=zk hp
 refine Nat.lt_of_not_le fun h => ?_
 have h0 : zbp k e ptss = 0:=by
  unfold zbp
  refine List.sum_eq_zero_iff_forall_eq_nat.mpr fun x hx => ?_
  obtain ⟨pts,hpts,rfl⟩:=List.mem_map.mp hx
  have:=hn pts hpts
  omega
 have hl : (zaq p k e ptss).length = e + 1:=by unfold zaq; rw [List.length_map,List.length_range]
 have:=hI (fun _ => 1) (fun x hx => by omega) 0 (by omega)
 have:=this.eq (by omega) (by omega) (Int.le_refl _) (by omega)
 omega
structure LocOk (p : Int) (k : Nat) (ptss : List (List (Int × Int))) (e : Nat) (left : List Int) (rights : List (List Int)) : Prop where
 lf : IsP p (e + 1) left
 nz : ∃ i,gl left i ≠ 0
 rt : rights = ptss.map fun pts => szd (thr p (tmP p left pts)) (k + e)
 ok : ∀ pts ∈ ptss,IsP p (k + e) (szd (thr p (tmP p left pts)) (k + e)) ∧ ∀ a ∈ pts,ze p a.1 (szd (thr p (tmP p left pts)) (k + e)) = ze p a.1 left * a.2 % p
 mn : ∀ e',e' < e → ∀ l,IsP p (e' + 1) l → Good p k e' ptss l → ∀ i,gl l i = 0
theorem zg7 {p : Int} (p0 : 0 < p) {c : List Int} {m : Nat} (hc : c.length ≤ m) (pts : List (Int × Int)) : tmP p (szd c m) pts = tmP p c pts:=by
 unfold tmP
 refine List.map_congr_left fun a _ => ?_
 rw [zd2 p0 fun y hy => zac (by omega)]
theorem zh2 {p : Int} (hp : p ∈ zl) {k e : Nat} {ptss : List (List (Int × Int))} (hP : ∀ pts ∈ ptss,Pts p pts) {c : List Int} {m : Nat} (hc : IsP p (m + 1) c) (hm : m < e + 1) (h1 : gl c m = 1) (hD : Dep p (zbp k e ptss) (zaq p k e ptss) c)
  (hmin : ∀ e',e' < e → Indep p (zbp k e' ptss) (zaq p k e' ptss)) : LocOk p k ptss e (szd c (e + 1)) (ptss.map fun pts => szd (thr p (tmP p (szd c (e + 1)) pts)) (k + e)):=by
 have rp:=zk hp
 have hcl : c.length ≤ e + 1:=by rw [hc.1]; omega
 refine ⟨ze2 (by omega) hc.2 _,⟨m,by rw [zgq,if_pos hm,h1]; decide⟩,rfl,fun pts hpts => ?_,fun e' he' l hl hg => zgs hp hP (hmin e' he') hl hg⟩
 refine zgr hp (hP pts hpts) fun y hy => ?_
 rw [zg7 (by omega) hcl]
 exact zgt hp hP hcl hD pts hpts y hy
end My
end
section
set_option maxHeartbeats 3999000
namespace My
open PySem L2 PyProof.Rows
section
variable {P : Program} {w : World} {K : PySem.W.Frag} {mg : Str → Option Value} {base : Heap} {t : Adr}
theorem zbW.put {H : Hp} {rs : List Addr} {qs : List (List Int)} {f : Addr} {xs : List V} {o : HO} (h : zbW H rs qs) (hf : H f = some (.lst xs)) : zbW (upd H f o) rs qs:=Paired.mono (fun a q z => by
 have : a ≠ f:=fun e => by rw [e,hf] at z; cases z
 show upd H f o a = _
 rw [zn this]
 exact z) h
def ziD (n : Nat) (H : Hp) : List Addr → List (List (Option Int)) → Prop:=Paired fun b rw => H b = some (.lst (rw.map enc)) ∧ rw.length = n
def zdA (H : Hp) : List Addr → List (List (Int × Int)) → Prop:=Paired fun b pts => ∃ bs,H b = some (.lst (bs.map V.ref)) ∧ PtB H bs pts
theorem zdA.same {H H' : Hp} (s : zB H H') {bs : List Addr} {ptss : List (List (Int × Int))} (h : zdA H bs ptss) : zdA H' bs ptss:=Paired.mono (fun _ _ ⟨bs,z,z'⟩ => ⟨bs,s _ _ z,z'.same s⟩) h
def NdA (p : Int) (ptss : List (List (Int × Int))) (na : Addr) (H : Hp) : List Addr → List Nat → Prop:=Paired fun b i => ∃ us,H b = some (.lst (us.map V.ref)) ∧ b ≠ na ∧ zbW H us (ptss.map fun pts => Tp p pts i)
theorem NdA.same {p : Int} {ptss : List (List (Int × Int))} {na : Addr} {H H' : Hp} (s : zB H H') {bs : List Addr} {is : List Nat} (h : NdA p ptss na H bs is) : NdA p ptss na H' bs is:=Paired.mono (fun _ _ ⟨us,z,z',z2⟩ => ⟨us,s _ _ z,z',z2.same s⟩) h
theorem NdA.put {p : Int} {ptss : List (List (Int × Int))} {na : Addr} {H : Hp} {bs : List Addr} {is : List Nat} {xs : List V} {o : HO} (h : NdA p ptss na H bs is) (hf : H na = some (.lst xs)) : NdA p ptss na (upd H na o) bs is:=Paired.mono (fun _ _ ⟨us,z,z',z2⟩ => ⟨us,by rw [zn z']; exact z,z',z2.put hf⟩) h
theorem zer {α : Type} {f : α → Nat} {b : Nat} : ∀ {l : List α},(∀ x ∈ l,f x ≤ b) → (l.map f).sum ≤ l.length * b
 | [],_ => by simp
 | x :: l,h => by
  have ih:=zer (f:=f) (b:=b) (l:=l) fun y hy => h y (List.mem_cons_of_mem _ hy)
  have:=h x List.mem_cons_self
  rw [List.map_cons,List.sum_cons,List.length_cons,Nat.succ_mul]
  omega
def zb0 (K : PySem.W.Frag) : Sp:=fun vs H Q _ => ∃ (c tt ra : Addr) (p : Int) (k : Nat) (pl : List Int) (rbs : List Addr) (rws : List (List (Option Int))),vs = [.ref c,.ref ra] ∧ zbm H c tt p k pl ∧ SqL K H ra (rbs.map V.ref) ∧ ziD pl.length H rbs rws ∧ rws.length ≤ 10 ∧ pl.length ≤ 16 ∧ p ∈ zl ∧ pl.Nodup ∧ (∀ x ∈ pl,0 ≤ x ∧ x < p) ∧ (∀ rw ∈ rws,(∀ z,some z ∈ rw → 0 ≤ z ∧ z < p) ∧ hps pl rw ≠ []) ∧ 1 ≤ k ∧ k ≤ 100 ∧
 ∀ (z la l3 : Addr) (us : List Addr) (e : Nat) (left : List Int) (rights : List (List Int)) (H' : Hp),H z = none → zB H H' → H' z = some (.tup [.int (e : Int),.ref la,.ref l3]) → H' la = some (.tup (left.map V.int)) → H' l3 = some (.lst (us.map V.ref)) → zbW H' us rights → e ≤ 16 → LocOk p k (rws.map (hps pl)) e left rights → Q (.ref z) H'
theorem zq : FnScope ["code","rows","p","k","places","parts","e","needed","relation","power","left"] ["code","rows"] (zj zF):=⟨rfl,rfl,rfl,by decide +kernel,rfl,by decide +kernel,by decide +kernel⟩
theorem za0 {fd : FuncData} (T : Txt K mg t) (F : Fun K "joint_locator" "joint_locator" zF t.joint_locator fd) : FnOk P w K mg base CX0 5 t.joint_locator fd ["code","rows"] (zb0 K):=by
 obtain ⟨fd_heard_points,F_heard_points,b_heard_points⟩:=T.f_heard_points
 have G_heard_points:=zcd (P:=P) (w:=w) (base:=base) T F_heard_points
 obtain ⟨fd_times_entries,F_times_entries,b_times_entries⟩:=T.f_times_entries
 have G_times_entries:=zbZ (P:=P) (w:=w) (base:=base) T F_times_entries
 obtain ⟨fd_first_relation,F_first_relation,b_first_relation⟩:=T.f_first_relation
 have G_first_relation:=zbP (P:=P) (w:=w) (base:=base) T F_first_relation
 obtain ⟨fd_beyond,F_beyond,b_beyond⟩:=T.f_beyond
 have G_beyond:=zfp (P:=P) (w:=w) (base:=base) T F_beyond
 obtain ⟨fd_sized,F_sized,b_sized⟩:=T.f_sized
 have G_sized:=zgo (P:=P) (w:=w) (base:=base) T F_sized
 refine F.ok zq (fun vs H Q E h => ?_) (fun cdv A outer s H vs Q E hr h => ?_)
 ·obtain ⟨c,tt,ra,p,k,pl,rbs,rws,rfl,_⟩:=h
  rfl
 ·obtain ⟨c,tt,ra,p,k,pl,rbs,rws,rfl,hc,hra,hrw,hrn,hn,hp,hnd,hpl,hok,k0,k1,q⟩:=h
  refine ⟨_,(@zc _ _ _ _ _ (@zaR _ _ _ _ _ _ (@pvx _ 0 _ _ rfl) (@zas _ _ _ _ _ _ rfl (@zm _ _ _ _ _ (@zi _ _ (2) _ zq.nd rfl (Or.inr rfl) (by trivial)) (@zm _ _ _ _ _ (@zi _ _ (3) _ zq.nd rfl (Or.inr rfl) (by trivial)) (@zm _ _ _ _ _ (@zi _ _ (4) _ zq.nd rfl (Or.inl rfl) (by trivial)) (@zS _) (by rfl)) (by rfl)) (by rfl)) (by rfl) (by rfl)) (by rfl) (by rfl) (by rfl)) (by exact (@zc _ _ _ _ _ (@zaK _ _ _ _ _ _ _ _ _ _ _ _ _ (5) _ _ _ zq.nd rfl (Or.inl rfl) (CompSc.of (N':=["row","code"]) (ix:=[none,some 0]) (zj zF) ["code","rows","p","k","places","parts","e","needed","relation","power","left"] rfl rfl (by decide +kernel)) rfl (@zam _ _ rfl) (@zaj _ _ _ _ (@pvx _ 1 _ _ rfl)) (fun _ _ _ _ => (@zi _ _ (0) _ (show (["row","code"] : List Str).Nodup by decide +kernel) rfl (Or.inl rfl) (by trivial))) (fun _ _ _ _ => (@zL _)) (fun _ _ _ _ => (@zt _ _ _ _ _ _ _ _ _ _ _ _ _ _ _ _ G_heard_points (hr.mono (by decide)) rfl T.m_heard_points F_heard_points.kp b_heard_points .nil (@zP _) (@za _ _ _ _ _ (@pvx _ 1 _ _ rfl) (@za _ _ _ _ _ (@pvx _ 0 _ _ rfl) (@zf _) (by rfl)) (by rfl)) (by decide) (by rfl) (by rfl))) (by rfl) (by intro _; rfl) (by trivial)) (by exact (@zc _ _ _ _ _ (@zo _ _ (6) _ _ _ _ zq.nd rfl (Or.inr rfl) (@zha _ _ _ _ _ _ zfE (@zg _ _ _ _)) (by rfl) (by trivial)) (by exact (@zc _ _ _ _ _ (@zo _ _ (7) _ _ _ _ zq.nd rfl (Or.inl rfl) (@zav _ _ _ _ (@zf _)) (by rfl) (by trivial)) (by exact (@zc _ _ _ _ _ (@zo _ _ (8) _ _ _ _ zq.nd rfl (Or.inl rfl) (@zdh _ _ _) (by rfl) (by trivial)) (by exact (@zc _ _ _ _ _ (@zdD _ _ _ _ _ _ PassesOwn.never (@zV _ _ _ _ _ _ _ _ (@zhA _) (@pvx _ 8 _ _ rfl) (@zdh _ _ _) (zak _)) (@zc _ _ _ _ _ (@zfy _ _ (6) _ _ _ _ _ _ zq.nd rfl (Or.inr rfl) (@zg _ _ _ _) zgG (by trivial)) (by exact (@zc _ _ _ _ _ (zh1 (@zo _ _ (9) _ _ _ _ zq.nd rfl (Or.inr rfl) (@zh _ _ _ _ _ _ _ _ (@zfj _ (K) rfl) (@zh _ _ _ _ _ _ _ _ (@zeX _) (@zaJ _ _ _ _ _ (@za _ _ _ _ _ (@zg _ _ _ _) (@zf _) (by rfl))) (@pvx _ 6 _ _ rfl)) (@zaJ _ _ _ _ _ (@za _ _ _ _ _ (@zg _ _ _ _) (@zf _) (by rfl)))) (by rfl) (by trivial))) (by exact (@zc _ _ _ _ _ (@zbF _ _ _ _ (@zcZ _ _ _ _ _ _ _ _ _ _ _ _ PySem.F.plainAttrs_list PySem.F.slot_list_append PySem.F.type_list_append (@zaW _) (@pvx _ 7 _ _ rfl) (@za _ _ _ _ _ (@zan _ _ _ _ _ _ _ _ _ _ _ _ _ (CompSc.of (N':=["points","p","power"]) (ix:=[none,some 2,some 9]) (zj zF) ["code","rows","p","k","places","parts","e","needed","relation","power","left"] rfl rfl (by decide +kernel)) rfl (@zam _ _ rfl) (@zaj _ _ _ _ (@pvx _ 5 _ _ rfl)) (fun _ _ _ _ => (@zi _ _ (0) _ (show (["points","p","power"] : List Str).Nodup by decide +kernel) rfl (Or.inl rfl) (by trivial))) (fun _ _ _ _ => (@zL _)) (fun _ _ _ _ => (@zt _ _ _ _ _ _ _ _ _ _ _ _ _ _ _ _ G_times_entries (hr.mono (by decide)) rfl T.m_times_entries F_times_entries.kp b_times_entries .nil (@zP _) (@za _ _ _ _ _ (@pvx _ 1 _ _ rfl) (@za _ _ _ _ _ (@pvx _ 2 _ _ rfl) (@za _ _ _ _ _ (@pvx _ 0 _ _ rfl) (@zf _) (by rfl)) (by rfl)) (by rfl)) (by decide) (by rfl) (by rfl))) (by intro _; rfl)) (@zf _) (by rfl)) (by rfl) (by rfl) (by rfl) (by rfl) (by rfl)) (by rfl)) (by exact (@zp _ _ _ (@zo _ _ (8) _ _ _ _ zq.nd rfl (Or.inl rfl) (@zt _ _ _ _ _ _ _ _ _ _ _ _ _ _ _ _ G_first_relation (hr.mono (by decide)) rfl T.m_first_relation F_first_relation.kp b_first_relation .nil (@zP _) (@za _ _ _ _ _ (@pvx _ 2 _ _ rfl) (@za _ _ _ _ _ (@zan _ _ _ _ _ _ _ _ _ _ _ _ _ (CompSc.of (N':=["rights","k","e"]) (ix:=[none,some 3,some 6]) (zj zF) ["code","rows","p","k","places","parts","e","needed","relation","power","left"] rfl rfl (by decide +kernel)) rfl (@zam _ _ rfl) (@zaj _ _ _ _ (@pvx _ 7 _ _ rfl)) (fun _ _ _ _ => (@zi _ _ (0) _ (show (["rights","k","e"] : List Str).Nodup by decide +kernel) rfl (Or.inl rfl) (by trivial))) (fun _ _ _ _ => (@zL _)) (fun _ _ _ _ => (@zt _ _ _ _ _ _ _ _ _ _ _ _ _ _ _ _ G_beyond (hr.mono (by decide)) rfl T.m_beyond F_beyond.kp b_beyond .nil (@zP _) (@za _ _ _ _ _ (@pvx _ 0 _ _ rfl) (@za _ _ _ _ _ (@zh _ _ _ _ _ _ _ _ (@zE _) (@pvx _ 1 _ _ rfl) (@pvx _ 2 _ _ rfl)) (@zf _) (by rfl)) (by rfl)) (by decide) (by rfl) (by rfl))) (by intro _; rfl)) (@zf _) (by rfl)) (by rfl)) (by decide) (by rfl) (by rfl)) (by rfl) (by trivial)))))))))) (by exact (@zc _ _ _ _ _ (@zo _ _ (10) _ _ _ _ zq.nd rfl (Or.inr rfl) (@zt _ _ _ _ _ _ _ _ _ _ _ _ _ _ _ _ G_sized (hr.mono (by decide)) rfl T.m_sized F_sized.kp b_sized .nil (@zP _) (@za _ _ _ _ _ (@zah _ _ _ _ _ _ _ _ _ (@zaz _) (by rfl) T.tuple_ boot_tuple (@za _ _ _ _ _ (@pvx _ 8 _ _ rfl) (@zf _) (by rfl)) (by decide) (by decide) (by rfl) (by rfl)) (@za _ _ _ _ _ (@zh _ _ _ _ _ _ _ _ (@zE _) (@pvx _ 6 _ _ rfl) (@zg _ _ _ _)) (@zf _) (by rfl)) (by rfl)) (by decide) (by rfl) (by rfl)) (by rfl) (by trivial)) (by exact (@zp _ _ _ (@zG _ _ _ _ (@zaJ _ _ _ _ _ (@za _ _ _ _ _ (@pvx _ 6 _ _ rfl) (@za _ _ _ _ _ (@pvx _ 10 _ _ rfl) (@za _ _ _ _ _ (@zan _ _ _ _ _ _ _ _ _ _ _ _ _ (CompSc.of (N':=["points","p","left","k","e"]) (ix:=[none,some 2,some 10,some 3,some 6]) (zj zF) ["code","rows","p","k","places","parts","e","needed","relation","power","left"] rfl rfl (by decide +kernel)) rfl (@zam _ _ rfl) (@zaj _ _ _ _ (@pvx _ 5 _ _ rfl)) (fun _ _ _ _ => (@zi _ _ (0) _ (show (["points","p","left","k","e"] : List Str).Nodup by decide +kernel) rfl (Or.inl rfl) (by trivial))) (fun _ _ _ _ => (@zL _)) (fun _ _ _ _ => (@zt _ _ _ _ _ _ _ _ _ _ _ _ _ _ _ _ G_sized (hr.mono (by decide)) rfl T.m_sized F_sized.kp b_sized .nil (@zP _) (@za _ _ _ _ _ (@zt _ _ _ _ _ _ _ _ _ _ _ _ _ _ _ _ G_times_entries (hr.mono (by decide)) rfl T.m_times_entries F_times_entries.kp b_times_entries .nil (@zP _) (@za _ _ _ _ _ (@pvx _ 1 _ _ rfl) (@za _ _ _ _ _ (@pvx _ 2 _ _ rfl) (@za _ _ _ _ _ (@pvx _ 0 _ _ rfl) (@zf _) (by rfl)) (by rfl)) (by rfl)) (by decide) (by rfl) (by rfl)) (@za _ _ _ _ _ (@zh _ _ _ _ _ _ _ _ (@zE _) (@pvx _ 3 _ _ rfl) (@pvx _ 4 _ _ rfl)) (@zf _) (by rfl)) (by rfl)) (by decide) (by rfl) (by rfl))) (by intro _; rfl)) (@zf _) (by rfl)) (by rfl)) (by rfl))))))))))))))))))),?_⟩
  have hsl:=sizeLine_eq
  have rp:=zk hp
  have p0 : 0 < p:=by omega
  have hrl:=hrw.length
  obtain ⟨ptss,hptss⟩ : ∃ ptss,ptss = rws.map (hps pl):=⟨_,rfl⟩
  have hP : ∀ pts ∈ ptss,Pts p pts:=fun pts h => by
   rw [hptss] at h
   obtain ⟨rw,h1,rfl⟩:=List.mem_map.mp h
   exact zgV hnd hpl (hok rw h1).1
  have hPl : ∀ pts ∈ ptss,pts.length ≤ 16:=fun pts h => by
   rw [hptss] at h
   obtain ⟨rw,h1,rfl⟩:=List.mem_map.mp h
   exact Nat.le_trans (zcf pl rw) hn
  have hPn : ∀ pts ∈ ptss,pts ≠ []:=fun pts h => by
   rw [hptss] at h
   obtain ⟨rw,h1,rfl⟩:=List.mem_map.mp h
   exact (hok rw h1).2
  have hpt : ptss.length = rws.length:=by rw [hptss,List.length_map]
  refine ⟨_,rfl,c,_,rfl,SqT.of hc.1,rfl,_,_,rfl,_,_,rfl,_,_,rfl,rfl,?_⟩
  refine ⟨_,rfl,ra,rfl,⟨_,hra⟩,zY (n:=rbs.length) (fun i ys H' => zB H H' ∧ ∃ us : List Addr,ys = us.map V.ref ∧ zdA H' us (ptss.take i)) ⟨fun _ _ e => e,[],rfl,.nil⟩ ?_ ?_ ?_ ?_⟩
  ·rintro i ys H1 hi ⟨s1,_⟩
   exact ⟨_,.ref rbs[i],s1.seq hra,by rw [List.getElem?_map,List.getElem?_eq_getElem hi]; rfl⟩
  ·rintro ys H1 ⟨s1,_⟩
   exact ⟨_,s1.seq hra,by rw [List.length_map]; exact Nat.le_refl _⟩
  ·rintro i y ys H1 H2 hi ⟨s1,us,rfl,hus⟩ ⟨rfl,hy⟩
   obtain ⟨b,rfl,hb⟩:=zaG (hy _ (s1.seq hra))
   obtain ⟨rw,hrwi,hat,hrwl⟩:=Paired.get hrw hb
   have hul:=hus.length
   rw [List.length_take] at hul
   refine gY ⟨_,rfl,_,rfl,c,tt,b,p,k,pl,rw,rfl,hc.same s1,⟨SqL.of (s1 _ _ hat),hrwl⟩,by omega,fun l bs H3 hl3 s3 h3l hB => ?_⟩
   refine ⟨by rw [List.length_map]; omega,s1.trans s3,us ++ [l],by rw [List.map_append]; rfl,?_⟩
   have hpi : ptss[i]? = some (hps pl rw):=by rw [hptss,List.getElem?_map,hrwi]; rfl
   rw [take_snoc hpi]
   exact Paired.snoc (hus.same s3) ⟨bs,h3l,hB⟩
  ·rintro ys H1 pa ⟨s1,us,rfl,hus⟩ hpa
   rw [hrl,← hpt,List.take_length] at hus
   have t2:=zd (o:=.lst (us.map V.ref)) hpa
   have h2p : upd H1 pa (.lst (us.map V.ref)) pa = some (.lst (us.map V.ref)):=zb
   have hus2:=hus.same t2
   have s2:=s1.trans t2
   generalize upd H1 pa (.lst (us.map V.ref)) = H2 at t2 h2p hus2 s2 ⊢
   have hul:=hus2.length
   refine ⟨_,rfl,Nat.zero_le _,fun na hna => ?_⟩
   have t3:=zd (o:=.lst []) hna
   refine ⟨fun m σ H' => ∃ (n : Nat) (ns : List Addr) (ev : Int) (rel : V) (e9 e10 : Option V),σ = [some (.ref c),some (.ref ra),some (.int p),some (.int (k : Int)),some (.ref tt),some (.ref pa),some (.int ev),some (.ref na),some rel,e9,e10] ∧ zB H2 H' ∧ H' na = some (.lst (ns.map V.ref)) ∧ NdA p ptss na H' ns (List.range n) ∧
    ((rel = .non ∧ ev = (n : Int) - 1 ∧ m = 20 - n ∧ n ≤ 16 ∧ ∀ e',e' < n → Indep p (zbp k e' ptss) (zaq p k e' ptss)) ∨ (∃ (rl : Addr) (cc : List Int) (mm e : Nat),rel = .ref rl ∧ ev = (e : Int) ∧ e ≤ 16 ∧ H' rl = some (.lst (cc.map V.int)) ∧ IsP p (mm + 1) cc ∧ mm < e + 1 ∧ gl cc mm = 1 ∧ Dep p (zbp k e ptss) (zaq p k e ptss) cc ∧ ∀ e',e' < e → Indep p (zbp k e' ptss) (zaq p k e' ptss))),
    ⟨20,0,[],_,_,_,_,rfl,t3,zb,.nil,.inl ⟨rfl,rfl,rfl,by omega,fun _ h => by omega⟩⟩,?_⟩
   rintro m σ H3 ⟨n,ns,ev,rel,e9,e10,rfl,s3,h3n,hnd3,hst⟩
   have hnl:=hnd3.length
   rw [List.length_range] at hnl
   rcases hst with ⟨rfl,rfl,rfl,hn16,hind⟩ | ⟨rl,cc,mm,e,rfl,rfl,he16,h3r,hcc,hmm,hc1,hdep,hind⟩
   ·refine ⟨_,rfl,rfl,_,rfl,?_⟩
    refine za2 (fun _ => ?_) (fun h => absurd rfl h)
    refine ⟨fun σ' H' => ∃ m',m' < 20 - n ∧ ∃ (n : Nat) (ns : List Addr) (ev : Int) (rel : V) (e9 e10 : Option V),σ' = [some (.ref c),some (.ref ra),some (.int p),some (.int (k : Int)),some (.ref tt),some (.ref pa),some (.int ev),some (.ref na),some rel,e9,e10] ∧ zB H2 H' ∧ H' na = some (.lst (ns.map V.ref)) ∧ NdA p ptss na H' ns (List.range n) ∧
     ((rel = .non ∧ ev = (n : Int) - 1 ∧ m' = 20 - n ∧ n ≤ 16 ∧ ∀ e',e' < n → Indep p (zbp k e' ptss) (zaq p k e' ptss)) ∨ (∃ (rl : Addr) (cc : List Int) (mm e : Nat),rel = .ref rl ∧ ev = (e : Int) ∧ e ≤ 16 ∧ H' rl = some (.lst (cc.map V.int)) ∧ IsP p (mm + 1) cc ∧ mm < e + 1 ∧ gl cc mm = 1 ∧ Dep p (zbp k e ptss) (zaq p k e ptss) cc ∧ ∀ e',e' < e → Indep p (zbp k e' ptss) (zaq p k e' ptss))),fun _ _ z => z,?_⟩
    refine ⟨_,rfl,_,_,rfl,rfl,?_⟩
    have e1 : (n : Int) - 1 + 1 = (n : Int):=by omega
    refine ⟨fun σ' H' => ∃ pw : Addr,σ' = [some (.ref c),some (.ref ra),some (.int p),some (.int (k : Int)),some (.ref tt),some (.ref pa),some (.int (n : Int)),some (.ref na),some .non,some (.ref pw),e10] ∧ zB H3 H' ∧ SqT K H' pw ((unit n).map V.int),?_,?_⟩
    ·refine ⟨by show 1 ≤ sizeLine; omega,fun t1 ht1 => ⟨_,rfl,t1,_,[.int 0],rfl,rfl,SqT.of zb,by simp,by omega,by omega,by show 1 * _ ≤ sizeLine; omega,fun z H4 s4 h4z => ?_⟩⟩
     rw [e1,Int.toNat_natCast,zbL] at h4z
     have s34:=(zd (o:=.tup [.int 0]) ht1).trans s4
     refine ⟨by show 1 ≤ sizeLine; omega,fun t2 ht2 => ⟨z,t2,_,_,rfl,rfl,zg3 (zd ht2) h4z,SqT.of zb,by simp,by rw [List.length_map,List.length_replicate]; show n + 1 ≤ sizeLine; omega,fun e0 => ?_,fun _ pw hpw => ?_⟩⟩
     ·have hn0 : n = 0:=by
       have:=congrArg List.length e0
       rw [List.length_map,List.length_replicate] at this
       exact this
      subst hn0
      exact ⟨t2,congrArg (fun v : Int => [some (V.ref c),some (.ref ra),some (.int p),some (.int (k : Int)),some (.ref tt),some (.ref pa),some (.int v),some (.ref na),some .non,some (.ref t2),e10]) e1,s34.trans (zd ht2),SqT.of zb⟩
     ·refine ⟨pw,congrArg (fun v : Int => [some (V.ref c),some (.ref ra),some (.int p),some (.int (k : Int)),some (.ref tt),some (.ref pa),some (.int v),some (.ref na),some .non,some (.ref pw),e10]) e1,(s34.trans (zd ht2)).trans (zd hpw),?_⟩
      have : (unit n).map V.int = (List.replicate n (0 : Int)).map V.int ++ [.int 1]:=by unfold unit; rw [List.map_append]; rfl
      rw [this]
      exact SqT.of zb
    ·rintro σ' H4 ⟨pw,rfl,s4,h4p⟩
     have s24:=s3.trans s4
     have h4a:=s24 _ _ h2p
     have hus4:=hus2.same s24
     have h4n:=s4 _ _ h3n
     have hnd4:=hnd3.same s4
     refine ⟨_,rfl,.inl ⟨rfl,_,SqL.of h4n⟩,_,rfl,pa,rfl,⟨_,SqL.of h4a⟩,zY (n:=us.length) (fun i ys H' => zB H4 H' ∧ ∃ ws : List Addr,ys = ws.map V.ref ∧ zbW H' ws ((ptss.take i).map fun pts => Tp p pts n)) ⟨fun _ _ e => e,[],rfl,.nil⟩ ?_ ?_ ?_ ?_⟩
     ·rintro i ys H5 hi ⟨s5,_⟩
      exact ⟨_,.ref us[i],SqL.of (s5 _ _ h4a),by rw [List.getElem?_map,List.getElem?_eq_getElem hi]; rfl⟩
     ·rintro ys H5 ⟨s5,_⟩
      exact ⟨_,SqL.of (s5 _ _ h4a),by rw [List.length_map]; exact Nat.le_refl _⟩
     ·rintro i y ys H5 H6 hi ⟨s5,ws,rfl,hws⟩ ⟨rfl,hy⟩
      obtain ⟨b,rfl,hb⟩:=zaG (hy _ (SqL.of (s5 _ _ h4a)))
      obtain ⟨pts,hpts,bs,hat,hB⟩:=Paired.get hus4 hb
      have hwl:=hws.length
      rw [List.length_map,List.length_take] at hwl
      have hm:=List.mem_of_getElem? hpts
      refine gY ⟨_,rfl,_,rfl,_,rfl,p,pw,b,unit n,bs,pts,rfl,zg3 s5 h4p,SqL.of (s5 _ _ hat),hB.same s5,Nat.le_trans (hPl pts hm) (by decide),hp,hP pts hm,fun z H7 hz s7 h7z => ?_⟩
      refine ⟨by rw [List.length_map]; omega,s5.trans s7,ws ++ [z],by rw [List.map_append]; rfl,?_⟩
      rw [take_snoc hpts,List.map_append]
      exact Paired.snoc (hws.same s7) h7z
     ·rintro ys H5 D2 ⟨s5,ws,rfl,hws⟩ hD2
      rw [hul,List.take_length] at hws
      have t6:=zd (o:=.lst (ws.map V.ref)) hD2
      have h6D : upd H5 D2 (.lst (ws.map V.ref)) D2 = some (.lst (ws.map V.ref)):=zb
      have hDn : D2 ≠ na:=fun e => by
       have:=s5 _ _ h4n
       rw [← e,hD2] at this
       cases this
      have s46:=s5.trans t6
      have hws6:=hws.same t6
      generalize upd H5 D2 (.lst (ws.map V.ref)) = H6 at t6 h6D s46 hws6 ⊢
      have h6n:=s46 _ _ h4n
      have hnd6:=hnd4.same s46
      refine ⟨na,_,_,rfl,rfl,h6n,by rw [List.length_map]; omega,?_⟩
      have s27 : zB H2 (upd H6 na (.lst (ns.map V.ref ++ [.ref D2]))):=z6 (s24.trans s46) hna
      have h7n : upd H6 na (.lst (ns.map V.ref ++ [.ref D2])) na = some (.lst ((ns ++ [D2]).map V.ref)):=by rw [zb,List.map_append]; rfl
      have hnd7 : NdA p ptss na (upd H6 na (.lst (ns.map V.ref ++ [.ref D2]))) (ns ++ [D2]) (List.range (n + 1)):=by
       rw [List.range_succ]
       exact Paired.snoc (hnd6.put h6n) ⟨ws,by rw [zn hDn]; exact h6D,hDn,hws6.put h6n⟩
      generalize upd H6 na (.lst (ns.map V.ref ++ [.ref D2])) = H7 at s27 h7n hnd7 ⊢
      have hn7:=hnd7.length
      rw [List.length_range] at hn7
      refine ⟨_,rfl,_,rfl,na,rfl,⟨_,SqL.of h7n⟩,zY (n:=(ns ++ [D2]).length) (fun i ys H' => zB H7 H' ∧ ∃ vs : List Addr,ys = vs.map V.ref ∧ LsA H' vs ((zaq p k n ptss).take i)) ⟨fun _ _ e => e,[],rfl,.nil⟩ ?_ ?_ ?_ ?_⟩
      ·rintro i ys H8 hi ⟨s8,_⟩
       exact ⟨_,.ref (ns ++ [D2])[i],SqL.of (s8 _ _ h7n),by rw [List.getElem?_map,List.getElem?_eq_getElem hi]; rfl⟩
      ·rintro ys H8 ⟨s8,_⟩
       exact ⟨_,SqL.of (s8 _ _ h7n),by rw [List.length_map]; exact Nat.le_refl _⟩
      ·rintro i y ys H8 H9 hi ⟨s8,vs,rfl,hvs⟩ ⟨rfl,hy⟩
       obtain ⟨b,rfl,hb⟩:=zaG (hy _ (SqL.of (s8 _ _ h7n)))
       obtain ⟨i',hi',us',hat,_,hT⟩:=Paired.get hnd7 hb
       have hin : i < n + 1:=by omega
       rw [List.getElem?_range hin] at hi'
       cases hi'
       have hvl:=hvs.length
       rw [List.length_take] at hvl
       refine gY ⟨_,rfl,_,rfl,_,rfl,_,_,rfl,rfl,b,k + n,us',_,(by show [V.ref b,V.int ((k : Int) + (n : Int))] = _; rw [Int.natCast_add]),SqL.of (s8 _ _ hat),hT.same s8,by omega,fun r hr => ?_,fun j => ?_,fun z Ha hz sa haz => ?_⟩
       ·obtain ⟨pts,h1,rfl⟩:=List.mem_map.mp hr
        intro e0
        have h2:=congrArg List.length e0
        unfold Tp at h2
        rw [za8 hp (hP pts h1)] at h2
        exact hPn pts h1 (List.length_eq_zero_iff.mp h2)
       ·rw [← List.map_take,zch hp fun q hq => hP q (List.mem_of_mem_take hq)]
        refine Nat.le_trans (zer (b:=16) fun q hq => ?_) ?_
        ·have:=hPl q (List.mem_of_mem_take hq)
         omega
        ·rw [List.length_take]
         omega
       ·refine ⟨by rw [List.length_map]; omega,s8.trans sa,vs ++ [z],by rw [List.map_append]; rfl,?_⟩
        have hvi : (zaq p k n ptss)[i]? = some (bey (k + n) (ptss.map fun pts => Tp p pts i)):=by
         unfold zaq
         rw [List.getElem?_map,List.getElem?_range hin]
         rfl
        rw [take_snoc hvi]
        exact Paired.snoc (hvs.same sa) haz
      ·rintro ys H8 D3 ⟨s8,vs,rfl,hvs⟩ hD3
       have hvn : (zaq p k n ptss).length = n + 1:=by unfold zaq; rw [List.length_map,List.length_range]
       rw [hn7,← hvn,List.take_length] at hvs
       have t9:=zd (o:=.lst (vs.map V.ref)) hD3
       have h9D : upd H8 D3 (.lst (vs.map V.ref)) D3 = some (.lst (vs.map V.ref)):=zb
       have hvs9:=hvs.same t9
       have s79:=s8.trans t9
       generalize upd H8 D3 (.lst (vs.map V.ref)) = H9 at t9 h9D hvs9 s79 ⊢
       refine ⟨p,D3,vs,zaq p k n ptss,zbp k n ptss,rfl,h9D,hvs9,(fun e => by (rw [e] at hvn; cases hvn)),by omega,?_,zg6 hp hP,hp,fun Ha sa hI => ?_,fun l cc mm Ha hl sa hal hcc hmm hc1 hD => ?_⟩
       ·refine Nat.le_trans (zer (b:=16) fun q hq => ?_) (by omega)
        have:=hPl q hq
        omega
       ·have hlt:=zgu hp hPl hI
        refine ⟨20 - (n + 1),by omega,n + 1,ns ++ [D2],_,_,_,_,rfl,s27.trans (s79.trans sa),(s79.trans sa) _ _ h7n,hnd7.same (s79.trans sa),.inl ⟨rfl,by omega,rfl,by omega,fun e' he' => ?_⟩⟩
        by_cases e : e' = n
        ·subst e; exact hI
        ·exact hind e' (by omega)
       ·exact ⟨0,by omega,n + 1,ns ++ [D2],_,_,_,_,rfl,s27.trans (s79.trans sa),(s79.trans sa) _ _ h7n,hnd7.same (s79.trans sa),.inr ⟨l,cc,mm,n,rfl,rfl,hn16,hal,hcc,by omega,hc1,hD,hind⟩⟩
   ·refine ⟨_,rfl,rfl,_,rfl,?_⟩
    refine za2 (fun h => absurd h (by simp)) (fun _ => ?_)
    have h3a:=s3 _ _ h2p
    have hus3:=hus2.same s3
    have hcl : cc.length = mm + 1:=hcc.1
    refine ⟨_,rfl,rl,_,rfl,.inl ⟨SqL.of h3r,fun tl htl => ?_⟩⟩
    have t4:=zd (o:=.tup (cc.map V.int)) htl
    have h4t : upd H3 tl (.tup (cc.map V.int)) tl = some (.tup (cc.map V.int)):=zb
    generalize upd H3 tl (.tup (cc.map V.int)) = H4 at t4 h4t ⊢
    refine ⟨_,rfl,_,_,rfl,rfl,tl,e + 1,cc,rfl,SqT.of h4t,(fun e0 => by (rw [e0] at hcl; cases hcl)),by omega,by omega,fun lf H5 hlf s5 h5f => ?_⟩
    have L:=zh2 hp (k:=k) hP hcc hmm hc1 hdep hind
    generalize szd cc (e + 1) = left at h5f L ⊢
    have s35:=t4.trans s5
    have h5a:=s35 _ _ h3a
    have hus5:=hus3.same s35
    refine ⟨_,rfl,_,rfl,_,rfl,pa,rfl,⟨_,SqL.of h5a⟩,zY (n:=us.length) (fun i ys H' => zB H5 H' ∧ ∃ ws : List Addr,ys = ws.map V.ref ∧ zbW H' ws ((ptss.take i).map fun pts => szd (thr p (tmP p left pts)) (k + e))) ⟨fun _ _ e => e,[],rfl,.nil⟩ ?_ ?_ ?_ ?_⟩
    ·rintro i ys H6 hi ⟨s6,_⟩
     exact ⟨_,.ref us[i],SqL.of (s6 _ _ h5a),by rw [List.getElem?_map,List.getElem?_eq_getElem hi]; rfl⟩
    ·rintro ys H6 ⟨s6,_⟩
     exact ⟨_,SqL.of (s6 _ _ h5a),by rw [List.length_map]; exact Nat.le_refl _⟩
    ·rintro i y ys H6 H7 hi ⟨s6,ws,rfl,hws⟩ ⟨rfl,hy⟩
     obtain ⟨b,rfl,hb⟩:=zaG (hy _ (SqL.of (s6 _ _ h5a)))
     obtain ⟨pts,hpts,bs,hat,hB⟩:=Paired.get hus5 hb
     have hwl:=hws.length
     rw [List.length_map,List.length_take] at hwl
     have hm:=List.mem_of_getElem? hpts
     have hl16:=hPl pts hm
     refine gY ⟨_,rfl,_,rfl,_,rfl,p,lf,b,left,bs,pts,rfl,SqT.of (s6 _ _ h5f),SqL.of (s6 _ _ hat),hB.same s6,Nat.le_trans hl16 (by decide),hp,hP pts hm,fun z H8 hz s8 h8z => ?_⟩
     refine ⟨_,rfl,_,rfl,_,_,rfl,rfl,z,k + e,_,(by show [V.ref z,V.int ((k : Int) + (e : Int))] = _; rw [Int.natCast_add]),SqT.of h8z,fun e0 => ?_,by omega,by rw [za8 hp (hP pts hm)]; omega,fun x H9 hx s9 h9x => ?_⟩
     ·have h2:=congrArg List.length e0
      rw [za8 hp (hP pts hm)] at h2
      exact hPn pts hm (List.length_eq_zero_iff.mp h2)
     refine ⟨by rw [List.length_map]; omega,s6.trans (s8.trans s9),ws ++ [x],by rw [List.map_append]; rfl,?_⟩
     rw [take_snoc hpts,List.map_append]
     exact Paired.snoc (hws.same (s8.trans s9)) h9x
    ·rintro ys H6 D2 ⟨s6,ws,rfl,hws⟩ hD2
     rw [hul,List.take_length] at hws
     have t7:=zd (o:=.lst (ws.map V.ref)) hD2
     have h7D : upd H6 D2 (.lst (ws.map V.ref)) D2 = some (.lst (ws.map V.ref)):=zb
     have hws7:=hws.same t7
     have s57:=s6.trans t7
     generalize upd H6 D2 (.lst (ws.map V.ref)) = H7 at t7 h7D hws7 s57 ⊢
     refine ⟨by show 3 ≤ sizeLine; omega,fun z hz => ?_⟩
     have t8:=zd (o:=.tup [.int (e : Int),.ref lf,.ref D2]) hz
     have s27:=(s2.trans s3).trans (s35.trans s57)
     exact q z lf D2 ws e left _ _ (s27.free hz) (s27.trans t8) zb ((s57.trans t8) _ _ h5f) (t8 _ _ h7D) (hws7.same t8) he16 (by rw [← hptss]; exact L)
end
end My
end
section
set_option maxHeartbeats 3999000
namespace My
open PySem L2 PyProof.Rows
theorem zcC {p z : Int} (f : List Int) : ∀ i,Cg p (ze p z (List.replicate i 0 ++ f)) (z ^ i * ze p z f)
 | 0 => Cg.of_eq (by rw [Int.pow_zero,Int.one_mul]; rfl)
 | i + 1 => by
  have h : Cg p (ze p z (List.replicate (i + 1) 0 ++ f)) (0 + z * ze p z (List.replicate i 0 ++ f)):=zw p z 0 _
  refine h.trans (((Cg.refl p 0).add ((Cg.refl p z).mul (zcC f i))).trans (Cg.of_eq ?_))
  rw [Int.pow_succ]
  grind
def zb1 (f left : List Int) (n N : Nat) : List Int:=(List.range n).map fun t => sm N fun i => gl left i * gl (List.replicate i 0 ++ f) t
theorem zgv {p z : Int} {f left : List Int} {k e : Nat} (hf : f.length ≤ k) (hl : left.length ≤ e + 1) : Cg p (ze p z (zb1 f left (k + e) (e + 1))) (ze p z left * ze p z f):=by
 have hC : (zb1 f left (k + e) (e + 1)).length = k + e:=by unfold zb1; rw [List.length_map,List.length_range]
 have hg : ∀ t,t < k + e → gl (zb1 f left (k + e) (e + 1)) t = sm (e + 1) fun i => gl left i * gl (List.replicate i 0 ++ f) t:=fun t ht => zaO (by unfold zb1; rw [List.getElem?_map,List.getElem?_range ht]; rfl)
 refine (zao (n:=k + e) (by omega)).trans ?_
 have h1 : sm (k + e) (fun t => gl (zb1 f left (k + e) (e + 1)) t * z ^ t) = sm (k + e) fun t => sm (e + 1) fun i => gl left i * (gl (List.replicate i 0 ++ f) t * z ^ t):=zU fun t ht => by
  rw [hg t ht,Int.mul_comm,← za6]
  exact zU fun i _ => by grind
 rw [h1,zdy]
 have h2 : Cg p (sm (e + 1) fun i => sm (k + e) fun t => gl left i * (gl (List.replicate i 0 ++ f) t * z ^ t)) (sm (e + 1) fun i => ze p z f * (gl left i * z ^ i)):=zdb fun i hi => by
  rw [za6]
  have e1 : Cg p (sm (k + e) fun t => gl (List.replicate i 0 ++ f) t * z ^ t) (ze p z (List.replicate i 0 ++ f)):=(zao (by rw [List.length_append,List.length_replicate]; omega)).symm
  exact ((Cg.refl p (gl left i)).mul (e1.trans (zcC f i))).trans (Cg.of_eq (by grind))
 refine h2.trans ?_
 rw [za6]
 exact ((Cg.refl p _).mul (zao hl).symm).trans (Cg.of_eq (Int.mul_comm _ _))
theorem zdc {p z : Int} : ∀ q : List Int,Cg p (ze p z (q.map (· % p))) (ze p z q)
 | [] => Cg.refl _ _
 | c :: q => (zw p z (c % p) _).trans (((Cg.emod p c).add ((Cg.refl p z).mul (zdc q))).trans (zw p z c q).symm)
theorem zcD {p z : Int} : ∀ {q : List Int},(∀ c ∈ q,Cg p c 0) → Cg p (ze p z q) 0
 | [],_ => Cg.refl _ _
 | c :: q,h => (zw p z c q).trans (((h c List.mem_cons_self).add ((Cg.refl p z).mul (zcD fun d hd => h d (List.mem_cons_of_mem _ hd)))).trans (Cg.of_eq (by omega)))
def zd3 (z : Int) : List Int → Int
 | [] => 1
 | x :: xs => (z - x) * zd3 z xs
theorem zcE {z : Int} : ∀ {xs : List Int},z ∈ xs → zd3 z xs = 0
 | [],h => by cases h
 | x :: xs,h => by
  show (z - x) * zd3 z xs = 0
  rcases (List.mem_cons.mp h) with rfl | h
  ·rw [Int.sub_self,Int.zero_mul]
  ·rw [zcE h,Int.mul_zero]
theorem zd4 {p z : Int} (hp : p ∈ zl) (hz : 0 ≤ z ∧ z < p) : ∀ {xs : List Int},(∀ x ∈ xs,0 ≤ x ∧ x < p ∧ x ≠ z) → ¬ Cg p (zd3 z xs) 0
 | [],_,h => by
  have rp:=zk hp
  have:=Cg.eq (a:=1) (b:=0) h (by omega) (by omega) (by omega) (by omega)
  omega
 | x :: xs,hx,h => by
  have rp:=zk hp
  obtain ⟨x0,x1,xz⟩:=hx x List.mem_cons_self
  rcases zbi hp h with h | h
  ·have h2 : Cg p z x:=by
    have:=h.add (Cg.refl p x)
    exact (Cg.of_eq (by omega)).trans (this.trans (Cg.of_eq (by omega)))
   exact xz (h2.eq hz.1 hz.2 x0 x1).symm
  ·exact zd4 hp hz (fun y hy => hx y (List.mem_cons_of_mem _ hy)) h
def zbC (p : Int) : List Int → List Int
 | [] => [1]
 | x :: xs => zbj p x (zbC p xs)
theorem zdB {p z : Int} : ∀ xs : List Int,Cg p (ze p z (zbC p xs)) (zd3 z xs)
 | [] => by
  have h : Cg p (ze p z [1]) (1 + z * 0):=zw p z 1 []
  exact h.trans (Cg.of_eq (by show 1 + z * 0 = 1; omega))
 | x :: xs => (zeG _).trans ((Cg.refl p _).mul (zdB xs))
theorem zcF {p : Int} (hp : p ∈ zl) : ∀ xs : List Int,IsP p (xs.length + 1) (zbC p xs)
 | [] => ⟨rfl,fun c hc => by
  have rp:=zk hp
  obtain rfl : c = 1:=by simpa [zbC] using hc
  omega⟩
 | x :: xs => by
  have rp:=zk hp
  exact ⟨by show (zbj p x (zbC p xs)).length = _; rw [zbS,(zcF hp xs).1]; rfl,zfW (by omega) _⟩
theorem zcG {S : List Nat} : ∀ {l : List Nat},l.Nodup → l.length ≤ (l.filter fun i => decide (i ∉ S)).length + S.length:=by
 induction S with
 | nil =>
  intro l _
  rw [List.filter_eq_self.mpr (by simp)]
  exact Nat.le_refl _
 | cons a S ih =>
  intro l hl
  have h1:=ih hl
  have h2 : l.filter (fun i => decide (i ∉ a :: S)) = (l.filter fun i => decide (i ∉ S)).filter (fun i => i != a):=by
   rw [List.filter_filter]
   refine List.filter_congr fun i _ => ?_
   by_cases e : i = a <;> by_cases e2 : i ∈ S <;> simp [e,e2]
  have h3:=List.Nodup.erase_eq_filter (hl.filter fun i => decide (i ∉ S)) a
  have h4 : (l.filter fun i => decide (i ∉ S)).length ≤ ((l.filter fun i => decide (i ∉ S)).erase a).length + 1:=by
   rw [List.length_erase]
   split <;> omega
  rw [h2,← h3,List.length_cons]
  omega
structure Slip (p : Int) (k : Nat) (pl : List Int) (S : List Nat) (f ys : List Int) : Prop where
 hf : IsP p k f
 ln : ys.length = pl.length
 rg : ∀ y ∈ ys,0 ≤ y ∧ y < p
 off : ∀ i,i ∈ S → gl ys i ≠ ze p (gl pl i) f
 on : ∀ i,i < pl.length → i ∉ S → gl ys i = ze p (gl pl i) f
structure Pl (p : Int) (k : Nat) (pl : List Int) (S : List Nat) : Prop where
 pr : p ∈ zl
 nd : pl.Nodup
 rg : ∀ x ∈ pl,0 ≤ x ∧ x < p
 sn : S.Nodup
 sl : ∀ i ∈ S,i < pl.length
 hk : 1 ≤ k
 half : 2 * S.length + k ≤ pl.length
theorem zci : ∀ {pl ys : List Int},ys.length = pl.length → ∀ {i : Nat},i < pl.length → (gl pl i,gl ys i) ∈ hps pl (ys.map some)
 | [],_,_,i,h => by simp at h
 | x :: pl,[],h,_,_ => by simp at h
 | x :: pl,y :: ys,h,0,_ => List.mem_cons_self
 | x :: pl,y :: ys,h,i + 1,hi => List.mem_cons_of_mem _ (zci (pl:=pl) (ys:=ys) (by simpa using h) (i:=i) (by simpa using hi))
theorem ze3 : ∀ {pl ys : List Int} {a : Int × Int},a ∈ hps pl (ys.map some) → ∃ i,i < pl.length ∧ i < ys.length ∧ a = (gl pl i,gl ys i)
 | [],_,a,h => by unfold hps at h; cases h
 | x :: pl,[],a,h => by unfold hps at h; cases h
 | x :: pl,y :: ys,a,h => by
  rcases (List.mem_cons.mp h) with rfl | h
  ·exact ⟨0,by simp,by simp,rfl⟩
  ·obtain ⟨i,h1,h2,h3⟩:=ze3 (pl:=pl) (ys:=ys) h
   exact ⟨i + 1,by simpa using h1,by simpa using h2,h3⟩
theorem zgw {pl : List Int} (hn : pl.Nodup) {i j : Nat} (hi : i < pl.length) (hj : j < pl.length) (h : gl pl i = gl pl j) : i = j:=by
 have h1:=zad hi
 have h2:=zad hj
 rw [h,← h2] at h1
 exact (List.getElem?_inj hi hn).mp h1
theorem zb2 {pl : List Int} (hn : pl.Nodup) : ∀ {S : List Nat},S.Nodup → (∀ i ∈ S,i < pl.length) → (S.map (gl pl)).Nodup
 | [],_,_ => List.nodup_nil
 | a :: S,hs,hl => by
  (rw [List.map_cons,List.nodup_cons])
  refine ⟨fun h => ?_,zb2 hn (List.nodup_cons.mp hs).2 fun i hi => hl i (List.mem_cons_of_mem _ hi)⟩
  obtain ⟨j,hj,e⟩:=List.mem_map.mp h
  have:=zgw hn (hl j (List.mem_cons_of_mem _ hj)) (hl a List.mem_cons_self) e
  exact (List.nodup_cons.mp hs).1 (this ▸ hj)
section
variable {p : Int} {k : Nat} {pl : List Int} {S : List Nat} {fs yss : List (List Int)}
theorem Pl.at (P : Pl p k pl S) {i : Nat} (hi : i < pl.length) : 0 ≤ gl pl i ∧ gl pl i < p:=P.rg _ (List.mem_of_getElem? (zad hi))
theorem zfs (P : Pl p k pl S) (h : ∀ ys ∈ yss,∃ f,Slip p k pl S f ys) : Good p k S.length (yss.map fun ys => hps pl (ys.map some)) (zbC p (S.map (gl pl))):=by
 have rp:=zk P.pr
 intro pts hpts
 obtain ⟨ys,hys,rfl⟩:=List.mem_map.mp hpts
 obtain ⟨f,Sf⟩:=h ys hys
 have hw:=zcF P.pr (S.map (gl pl))
 rw [List.length_map] at hw
 refine ⟨(zb1 f (zbC p (S.map (gl pl))) (k + S.length) (S.length + 1)).map (· % p),⟨by rw [List.length_map]; unfold zb1; rw [List.length_map,List.length_range],fun c hc => ?_⟩,fun a ha => ?_⟩
 ·obtain ⟨d,_,rfl⟩:=List.mem_map.mp hc
  exact ⟨Int.emod_nonneg _ (by omega),Int.emod_lt_of_pos _ (by omega)⟩
 ·obtain ⟨i,h1,h2,rfl⟩:=ze3 ha
  refine Cg.eq ?_ (zM (by omega) _) (zN (by omega) _) (Int.emod_nonneg _ (by omega)) (Int.emod_lt_of_pos _ (by omega))
  dsimp only
  refine (zdc _).trans ((zgv (by rw [Sf.hf.1]; exact Nat.le_refl _) (by rw [hw.1]; exact Nat.le_refl _)).trans (Cg.trans ?_ (Cg.emod _ _).symm))
  by_cases hi : i ∈ S
  ·have hz : Cg p (ze p (gl pl i) (zbC p (S.map (gl pl)))) 0:=(zdB _).trans (Cg.of_eq (zcE (List.mem_map.mpr ⟨i,hi,rfl⟩)))
   exact (hz.mul (Cg.refl p _)).trans ((Cg.of_eq (by omega)).trans (hz.mul (Cg.refl p (gl ys i))).symm)
  ·rw [Sf.on i h1 hi]
   exact Cg.refl _ _
theorem zg8 (P : Pl p k pl S) : ∃ i,gl (zbC p (S.map (gl pl))) i ≠ 0:=by
 have rp:=zk P.pr
 refine Classical.byContradiction fun hno => ?_
 have hall : ∀ i,gl (zbC p (S.map (gl pl))) i = 0:=fun i => Classical.byContradiction fun h => hno ⟨i,h⟩
 have hc:=zcG (S:=S) (List.nodup_range (n:=pl.length))
 rw [List.length_range] at hc
 have hh:=P.half
 have hk:=P.hk
 have hlen : 0 < ((List.range pl.length).filter fun i => decide (i ∉ S)).length:=by omega
 obtain ⟨i,hi⟩:=List.exists_mem_of_length_pos hlen
 obtain ⟨h1,h2⟩:=List.mem_filter.mp hi
 have h1:=List.mem_range.mp h1
 have h2 : i ∉ S:=by simpa using h2
 refine zd4 P.pr (P.at h1) (fun x hx => ?_) ((zdB (S.map (gl pl))).symm.trans (zcD fun c hc => ?_))
 ·obtain ⟨j,hj,rfl⟩:=List.mem_map.mp hx
  obtain ⟨a0,a1⟩:=P.at (P.sl j hj)
  exact ⟨a0,a1,fun e => h2 (zgw P.nd (P.sl j hj) h1 e ▸ hj)⟩
 ·obtain ⟨j,hj⟩:=List.getElem?_of_mem hc
  have:=hall j
  rw [zaO hj] at this
  exact Cg.of_eq this
theorem zh3 (P : Pl p k pl S) (h : ∀ ys ∈ yss,∃ f,Slip p k pl S f ys) {e : Nat} {left : List Int} {rights : List (List Int)} (L : LocOk p k (yss.map fun ys => hps pl (ys.map some)) e left rights) : e ≤ S.length:=by
 refine Nat.le_of_not_lt fun hlt => ?_
 obtain ⟨i,hi⟩:=zg8 P
 have hw:=zcF P.pr (S.map (gl pl))
 rw [List.length_map] at hw
 exact hi (L.mn S.length hlt _ hw (zfs P h) i)
theorem zdd (P : Pl p k pl S) {e : Nat} (he : e ≤ S.length) {f ys left right : List Int} (Sf : Slip p k pl S f ys) (hl : IsP p (e + 1) left) (hr : IsP p (k + e) right) (hev : ∀ a ∈ hps pl (ys.map some),ze p a.1 right = ze p a.1 left * a.2 % p) (z : Int) : ze p z right = ze p z left * ze p z f % p:=by
 have rp:=zk P.pr
 have hh:=P.half
 have hC : (zb1 f left (k + e) (e + 1)).length = k + e:=by unfold zb1; rw [List.length_map,List.length_range]
 have hme : ∀ z,Cg p (ze p z (zb1 f left (k + e) (e + 1))) (ze p z left * ze p z f):=fun z => zgv (by rw [Sf.hf.1]; exact Nat.le_refl _) (by rw [hl.1]; exact Nat.le_refl _)
 have hc:=zcG (S:=S) (List.nodup_range (n:=pl.length))
 rw [List.length_range] at hc
 have hxs : ∀ i ∈ (List.range pl.length).filter (fun i => decide (i ∉ S)),i < pl.length ∧ i ∉ S:=fun i hi => by
  obtain ⟨h1,h2⟩:=List.mem_filter.mp hi
  exact ⟨List.mem_range.mp h1,by simpa using h2⟩
 have hD:=za5 P.pr (k + e) (List.zipWith (· - ·) right (zb1 f left (k + e) (e + 1))) (((List.range pl.length).filter fun i => decide (i ∉ S)).map (gl pl)) (by rw [List.length_zipWith,hC,hr.1,Nat.min_self]) (by rw [List.length_map]; omega)
  (zb2 P.nd (List.nodup_range.filter _) fun i hi => (hxs i hi).1) (fun x hx => by
   obtain ⟨i,hi,rfl⟩:=List.mem_map.mp hx
   exact P.at (hxs i hi).1) fun x hx => by
   obtain ⟨i,hi,rfl⟩:=List.mem_map.mp hx
   obtain ⟨h1,h2⟩:=hxs i hi
   have h3:=hev _ (zci Sf.ln h1)
   dsimp only at h3
   rw [Sf.on i h1 h2] at h3
   refine (zbM (by rw [hr.1,hC])).trans ?_
   rw [h3]
   exact ((Cg.emod _ _).sub (hme _)).trans (Cg.of_eq (by omega))
 have hz:=zcD (z:=z) hD
 have h4:=(zbM (p:=p) (x:=z) (a:=right) (b:=zb1 f left (k + e) (e + 1)) (by rw [hr.1,hC])).symm.trans hz
 refine Cg.eq ?_ (zM (by omega) _) (zN (by omega) _) (Int.emod_nonneg _ (by omega)) (Int.emod_lt_of_pos _ (by omega))
 have h5:=h4.add (hme z)
 exact (Cg.of_eq (by omega)).trans (h5.trans ((Cg.of_eq (by omega)).trans (Cg.emod _ _).symm))
theorem zgx (P : Pl p k pl S) {e : Nat} (he : e ≤ S.length) {f ys left right : List Int} (Sf : Slip p k pl S f ys) (hl : IsP p (e + 1) left) (hr : IsP p (k + e) right) (hev : ∀ a ∈ hps pl (ys.map some),ze p a.1 right = ze p a.1 left * a.2 % p) {i : Nat} (hi : i ∈ S) : ze p (gl pl i) left = 0:=by
 have rp:=zk P.pr
 have hin:=P.sl i hi
 have h1:=hev _ (zci Sf.ln hin)
 dsimp only at h1
 rw [zdd P he Sf hl hr hev] at h1
 have h2 : Cg p (ze p (gl pl i) left * ze p (gl pl i) f) (ze p (gl pl i) left * gl ys i):=Cg.of_mod h1
 have h3 : Cg p (ze p (gl pl i) left * (gl ys i - ze p (gl pl i) f)) 0:=by
  have:=h2.symm.sub h2
  have h4 : Cg p (ze p (gl pl i) left * gl ys i - ze p (gl pl i) left * ze p (gl pl i) f) 0:=by
   have:=h2.symm.sub (Cg.refl p (ze p (gl pl i) left * ze p (gl pl i) f))
   exact this.trans (Cg.of_eq (by omega))
  exact (Cg.of_eq (by rw [Int.mul_sub])).trans h4
 rcases zbi P.pr h3 with h | h
 ·exact h.eq (zM (by omega) _) (zN (by omega) _) (Int.le_refl _) (by omega)
 ·exfalso
  have h5 : Cg p (gl ys i) (ze p (gl pl i) f):=by
   have:=h.add (Cg.refl p (ze p (gl pl i) f))
   exact (Cg.of_eq (by omega)).trans (this.trans (Cg.of_eq (by omega)))
  obtain ⟨y0,y1⟩:=zbU (show 0 < p by omega) Sf.rg i
  exact Sf.off i hi (h5.eq y0 y1 (zM (by omega) _) (zN (by omega) _))
theorem zh4 (P : Pl p k pl S) {e : Nat} (he : e ≤ S.length) {left : List Int} (hl : IsP p (e + 1) left) (hnz : ∃ i,gl left i ≠ 0) (hz : ∀ i ∈ S,ze p (gl pl i) left = 0) : e = S.length:=by
 have rp:=zk P.pr
 refine Nat.le_antisymm he (Nat.le_of_not_lt fun hlt => ?_)
 have h:=za5 P.pr (e + 1) left (S.map (gl pl)) hl.1 (by rw [List.length_map]; exact hlt) (zb2 P.nd P.sn P.sl) (fun x hx => by
  obtain ⟨i,hi,rfl⟩:=List.mem_map.mp hx
  exact P.at (P.sl i hi)) fun x hx => by
  obtain ⟨i,hi,rfl⟩:=List.mem_map.mp hx
  exact Cg.of_eq (hz i hi)
 obtain ⟨i,hi⟩:=hnz
 refine hi ?_
 by_cases hil : i < left.length
 ·have hm:=List.mem_of_getElem? (zad hil)
  obtain ⟨c0,c1⟩:=hl.2 _ hm
  exact (h _ hm).eq c0 c1 (Int.le_refl _) (by omega)
 ·exact zac (by omega)
theorem zde (P : Pl p k pl S) (hne : yss ≠ []) (h : ∀ ys ∈ yss,∃ f,Slip p k pl S f ys) {e : Nat} {left : List Int} {rights : List (List Int)} (L : LocOk p k (yss.map fun ys => hps pl (ys.map some)) e left rights) :
  e = S.length ∧ (∀ i ∈ S,ze p (gl pl i) left = 0) ∧ ∀ (j : Nat) (ys right f : List Int),yss[j]? = some ys → rights[j]? = some right → Slip p k pl S f ys → ∀ z,ze p z right = ze p z left * ze p z f % p:=by
 have he:=zh3 P h L
 have hok : ∀ ys ∈ yss,_:=fun ys hys => L.ok _ (List.mem_map.mpr ⟨ys,hys,rfl⟩)
 have hz : ∀ i ∈ S,ze p (gl pl i) left = 0:=fun i hi => by
  obtain ⟨ys,hys⟩:=List.exists_mem_of_ne_nil _ hne
  obtain ⟨f,Sf⟩:=h ys hys
  exact zgx P he Sf L.lf (hok ys hys).1 (hok ys hys).2 hi
 refine ⟨zh4 P he L.lf L.nz hz,hz,fun j ys right f h1 h2 Sf z => ?_⟩
 have hys:=List.mem_of_getElem? h1
 rw [L.rt,List.getElem?_map,List.getElem?_map,h1] at h2
 cases h2
 exact zdd P he Sf L.lf (hok ys hys).1 (hok ys hys).2 z
end
end My
end
section
set_option maxHeartbeats 3999000
namespace My
open PySem L2 PyProof.Rows
section
variable {P : Program} {w : World} {K : PySem.W.Frag} {mg : Str → Option Value} {base : Heap} {t : Adr}
def zcO (K : PySem.W.Frag) : Sp:=fun vs H Q _ => ∃ (c tt r : Addr) (p : Int) (k : Nat) (pl : List Int) (rw : List (Option Int)),vs = [.ref c,.ref r] ∧ zbm H c tt p k pl ∧ H r = some (.lst (rw.map enc)) ∧ rw.length = pl.length ∧ pl.length ≤ 16 ∧ p ∈ zl ∧ pl.Nodup ∧ (∀ x ∈ pl,0 ≤ x ∧ x < p) ∧ (∀ z,some z ∈ rw → 0 ≤ z ∧ z < p) ∧ hps pl rw ≠ [] ∧ 1 ≤ k ∧ k ≤ 100 ∧
 ∀ (z la rb : Addr) (e : Nat) (left right : List Int) (H' : Hp),H z = none → zB H H' → H' z = some (.tup [.int (e : Int),.ref la,.ref rb]) → H' la = some (.tup (left.map V.int)) → H' rb = some (.tup (right.map V.int)) → e ≤ 16 → LocOk p k [hps pl rw] e left [right] → Q (.ref z) H'
theorem zaB : FnScope ["code","row","e","left","rights"] ["code","row"] (zj zaI):=⟨rfl,rfl,rfl,by decide +kernel,rfl,by decide +kernel,by decide +kernel⟩
theorem zcP {fd : FuncData} (T : Txt K mg t) (F : Fun K "locator_of" "locator_of" zaI t.locator_of fd) : FnOk P w K mg base CX0 6 t.locator_of fd ["code","row"] (zcO K):=by
 obtain ⟨fd_joint_locator,F_joint_locator,b_joint_locator⟩:=T.f_joint_locator
 have G_joint_locator:=za0 (P:=P) (w:=w) (base:=base) T F_joint_locator
 refine F.ok zaB (fun vs H Q E h => ?_) (fun cdv A outer s H vs Q E hr h => ?_)
 ·obtain ⟨c,tt,r,p,k,pl,rw,rfl,_⟩:=h
  rfl
 ·obtain ⟨c,tt,r,p,k,pl,rw,rfl,hc,hra,hrl,hn,hp,hnd,hpl,hrg,hne,k0,k1,q⟩:=h
  refine ⟨_,(@zc _ _ _ _ _ (@zaR _ _ _ _ _ _ (@zt _ _ _ _ _ _ _ _ _ _ _ _ _ _ _ _ G_joint_locator (hr.mono (by decide)) rfl T.m_joint_locator F_joint_locator.kp b_joint_locator .nil (@zP _) (@za _ _ _ _ _ (@pvx _ 0 _ _ rfl) (@za _ _ _ _ _ (@zav _ _ _ _ (@za _ _ _ _ _ (@pvx _ 1 _ _ rfl) (@zf _) (by rfl))) (@zf _) (by rfl)) (by rfl)) (by decide) (by rfl) (by rfl)) (@zas _ _ _ _ _ _ rfl (@zm _ _ _ _ _ (@zi _ _ (2) _ zaB.nd rfl (Or.inl rfl) (by trivial)) (@zm _ _ _ _ _ (@zi _ _ (3) _ zaB.nd rfl (Or.inl rfl) (by trivial)) (@zm _ _ _ _ _ (@zi _ _ (4) _ zaB.nd rfl (Or.inl rfl) (by trivial)) (@zS _) (by rfl)) (by rfl)) (by rfl)) (by rfl) (by rfl)) (by rfl) (by rfl) (by rfl)) (by exact (@zp _ _ _ (@zG _ _ _ _ (@zaJ _ _ _ _ _ (@za _ _ _ _ _ (@pvx _ 2 _ _ rfl) (@za _ _ _ _ _ (@pvx _ 3 _ _ rfl) (@za _ _ _ _ _ (@zJ _ _ _ _ _ _ _ (@zD _) (@pvx _ 4 _ _ rfl) (@zg _ _ _ _) (fun _ _ => rfl)) (@zf _) (by rfl)) (by rfl)) (by rfl))))))),?_⟩
  have hsl:=sizeLine_eq
  refine ⟨_,rfl,_,rfl,by show 1 ≤ sizeLine; omega,fun ra hrA => ?_⟩
  have t1:=zd (o:=.lst [.ref r]) hrA
  refine ⟨c,tt,ra,p,k,pl,[r],[rw],rfl,hc.same t1,SqL.of zb,.cons ⟨t1 _ _ hra,hrl⟩ .nil,(by show 1 ≤ 10; decide),hn,hp,hnd,hpl,fun rw' h => ?_,k0,k1,fun z la l3 us e left rights H2 hz s2 h2z h2l h2r hT he L => ?_⟩
  ·obtain rfl : rw' = rw:=by simpa using h
   exact ⟨hrg,hne⟩
  have hl:=hT.length
  have hr1 : rights.length = 1:=by rw [L.rt]; rfl
  obtain ⟨u0,rfl⟩ : ∃ u0,us = [u0]:=List.length_eq_one_iff.mp (by omega)
  obtain ⟨right,rfl⟩ : ∃ r0,rights = [r0]:=List.length_eq_one_iff.mp hr1
  obtain ⟨r',hr',hu⟩:=Paired.get hT (i:=0) (a:=u0) rfl
  cases hr'
  refine ⟨z,_,rfl,SqT.of h2z,rfl,_,_,rfl,_,_,rfl,_,_,rfl,rfl,?_⟩
  refine ⟨_,rfl,_,rfl,_,rfl,l3,_,_,_,rfl,rfl,SqL.of h2r,rfl,by show 3 ≤ sizeLine; omega,fun y hy => ?_⟩
  have s12:=t1.trans s2
  exact q y la u0 e left right _ (s12.free hy) (s12.trans (zd hy)) zb ((zd hy) _ _ h2l) ((zd hy) _ _ hu) he L
def zes (K : PySem.W.Frag) : Sp:=fun vs H Q _ => ∃ (c tt o r lf rg : Addr) (p : Int) (k : Nat) (pl f ys left right : List Int),vs = [.ref c,.ref o,.ref r,.ref lf,.ref rg] ∧ zbm H c tt p k pl ∧ H o = some (.tup (f.map V.int)) ∧ H r = some (.lst (ys.map V.int)) ∧ H lf = some (.tup (left.map V.int)) ∧ H rg = some (.tup (right.map V.int)) ∧ ys.length = pl.length ∧ pl.length ≤ 16 ∧ 0 < p ∧ p ≤ 97 ∧ (∀ x ∈ pl,0 ≤ x ∧ x < p) ∧
 (∀ i,i < pl.length → (gl ys i ≠ ze p (gl pl i) f → ze p (gl pl i) left = 0) ∧ ze p (gl pl i) right = ze p (gl pl i) left * ze p (gl pl i) f % p) ∧ ∀ H',zB H H' → Q (.bl true) H'
theorem zag : FnScope ["code","one","row","left","right","p","k","places","number","x","value"] ["code","one","row","left","right"] (zj zbx):=⟨rfl,rfl,rfl,by decide +kernel,rfl,by decide +kernel,by decide +kernel⟩
theorem zet {fd : FuncData} (T : Txt K mg t) (F : Fun K "_law_shows" "_law_shows" zbx t.l_shows fd) : FnOk P w K mg base CX0 2 t.l_shows fd ["code","one","row","left","right"] (zes K):=by
 obtain ⟨fd_l_value,F_l_value,b_l_value⟩:=T.f_l_value
 have G_l_value:=zcA (P:=P) (w:=w) (base:=base) T F_l_value
 refine F.ok zag (fun vs H Q E h => ?_) (fun cdv A outer s H vs Q E hr h => ?_)
 ·obtain ⟨c,tt,o,r,lf,rg,p,k,pl,f,ys,left,right,rfl,_⟩:=h
  rfl
 ·obtain ⟨c,tt,o,r,lf,rg,p,k,pl,f,ys,left,right,rfl,hc,ho,hra,hlf,hrg,hyl,hn,p0,p1,hpl,hsh,q⟩:=h
  refine ⟨_,(@zc _ _ _ _ _ (@zaR _ _ _ _ _ _ (@pvx _ 0 _ _ rfl) (@zas _ _ _ _ _ _ rfl (@zm _ _ _ _ _ (@zi _ _ (5) _ zag.nd rfl (Or.inl rfl) (by trivial)) (@zm _ _ _ _ _ (@zi _ _ (6) _ zag.nd rfl (Or.inl rfl) (by trivial)) (@zm _ _ _ _ _ (@zi _ _ (7) _ zag.nd rfl (Or.inl rfl) (by trivial)) (@zS _) (by rfl)) (by rfl)) (by rfl)) (by rfl) (by rfl)) (by rfl) (by rfl) (by rfl)) (by exact (@zc _ _ _ _ _ (@zaS _ _ _ _ _ _ _ _ PassesOwn.never rfl (@zfR _ _ _ _ _ _ _ _ rfl T.enumerate_ (@za _ _ _ _ _ (@pvx _ 7 _ _ rfl) (@zf _) (by rfl)) (by rfl)) (@zas _ _ _ _ _ _ rfl (@zm _ _ _ _ _ (@zi _ _ (8) _ zag.nd rfl (Or.inl rfl) (by trivial)) (@zm _ _ _ _ _ (@zi _ _ (9) _ zag.nd rfl (Or.inl rfl) (by trivial)) (@zS _) (by rfl)) (by rfl)) (by rfl) (by rfl)) (@zc _ _ _ _ _ (@zo _ _ (10) _ _ _ _ zag.nd rfl (Or.inl rfl) (@zt _ _ _ _ _ _ _ _ _ _ _ _ _ _ _ _ G_l_value (hr.mono (by decide)) rfl T.m_l_value F_l_value.kp b_l_value .nil (@zP _) (@za _ _ _ _ _ (@pvx _ 5 _ _ rfl) (@za _ _ _ _ _ (@pvx _ 1 _ _ rfl) (@za _ _ _ _ _ (@pvx _ 9 _ _ rfl) (@zf _) (by rfl)) (by rfl)) (by rfl)) (by decide) (by rfl) (by rfl)) (by rfl) (by trivial)) (by exact (@zc _ _ _ _ _ (@zbc _ _ _ _ _ _ _ _ (@PW.pt _ _ _ (@zht _ _ _ _ _ _ _ (@zV _ _ _ _ _ _ _ _ (@zcT _) (@zJ _ _ _ _ _ _ _ (@zD _) (@pvx _ 2 _ _ rfl) (@pvx _ 8 _ _ rfl) (fun _ _ => rfl)) (@pvx _ 10 _ _ rfl) (zak _)) (@zgD _ _ _ _ (@zV _ _ _ _ _ _ _ _ (@zcT _) (@zt _ _ _ _ _ _ _ _ _ _ _ _ _ _ _ _ G_l_value (hr.mono (by decide)) rfl T.m_l_value F_l_value.kp b_l_value .nil (@zP _) (@za _ _ _ _ _ (@pvx _ 5 _ _ rfl) (@za _ _ _ _ _ (@pvx _ 3 _ _ rfl) (@za _ _ _ _ _ (@pvx _ 9 _ _ rfl) (@zf _) (by rfl)) (by rfl)) (by rfl)) (by decide) (by rfl) (by rfl)) (@zg _ _ _ _) (zak _))))) (@zp _ _ _ (@zG _ _ _ _ (@zb3 _ _ _ _))) (@zai _)) (by exact (@zp _ _ _ (@zbc _ _ _ _ _ _ _ _ (@zV _ _ _ _ _ _ _ _ (@zcT _) (@zt _ _ _ _ _ _ _ _ _ _ _ _ _ _ _ _ G_l_value (hr.mono (by decide)) rfl T.m_l_value F_l_value.kp b_l_value .nil (@zP _) (@za _ _ _ _ _ (@pvx _ 5 _ _ rfl) (@za _ _ _ _ _ (@pvx _ 4 _ _ rfl) (@za _ _ _ _ _ (@pvx _ 9 _ _ rfl) (@zf _) (by rfl)) (by rfl)) (by rfl)) (by decide) (by rfl) (by rfl)) (@zh _ _ _ _ _ _ _ _ (@zy _) (@zh _ _ _ _ _ _ _ _ (@zI _) (@zt _ _ _ _ _ _ _ _ _ _ _ _ _ _ _ _ G_l_value (hr.mono (by decide)) rfl T.m_l_value F_l_value.kp b_l_value .nil (@zP _) (@za _ _ _ _ _ (@pvx _ 5 _ _ rfl) (@za _ _ _ _ _ (@pvx _ 3 _ _ rfl) (@za _ _ _ _ _ (@pvx _ 9 _ _ rfl) (@zf _) (by rfl)) (by rfl)) (by rfl)) (by decide) (by rfl) (by rfl)) (@pvx _ 10 _ _ rfl)) (@pvx _ 5 _ _ rfl)) (zak _)) (@zp _ _ _ (@zG _ _ _ _ (@zb3 _ _ _ _))) (@zai _))))))) (by intro _; rfl)) (by exact (@zp _ _ _ (@zG _ _ _ _ (@zb3 _ _ _ _))))))),?_⟩
  have hsl:=sizeLine_eq
  refine ⟨_,rfl,c,_,rfl,SqT.of hc.1,rfl,_,_,rfl,_,_,rfl,_,_,rfl,rfl,?_⟩
  refine ⟨_,rfl,tt,_,rfl,SqT.of hc.2,zdn (n:=pl.length) (fun i σ H' => ∃ (e8 e9 e10 : Option V),σ = [some (.ref c),some (.ref o),some (.ref r),some (.ref lf),some (.ref rg),some (.int p),some (.int (k : Int)),some (.ref tt),e8,e9,e10] ∧ zB H H') ⟨none,none,none,rfl,fun _ _ e => e⟩ ?_ ?_ ?_ ?_⟩
  ·rintro i σ H1 hi ⟨e8,e9,e10,rfl,s1⟩
   exact ⟨_,.int pl[i],SqT.of (s1 _ _ hc.2),by rw [List.getElem?_map,List.getElem?_eq_getElem hi]; rfl⟩
  ·rintro σ H1 ⟨e8,e9,e10,rfl,s1⟩
   exact ⟨_,SqT.of (s1 _ _ hc.2),by rw [List.length_map]; exact Nat.le_refl _⟩
  ·rintro i x σ H1 H2 hi ⟨e8,e9,e10,rfl,s1⟩ ⟨T,v,hT,rfl,rfl,hv⟩
   obtain ⟨x,rfl,hx⟩:=zT (hv _ (SqT.of (s1 _ _ hc.2)))
   have t2:=zd (o:=.tup [.int (i : Int),.int x]) hT
   refine ⟨T,_,rfl,SqT.of zb,rfl,_,_,rfl,_,_,rfl,rfl,?_⟩
   have s2:=s1.trans t2
   generalize upd H1 T (.tup [.int (i : Int),.int x]) = H2 at t2 s2 ⊢
   obtain rfl : gl pl i = x:=zaO hx
   obtain ⟨x0,x1⟩:=hpl _ (List.mem_of_getElem? hx)
   obtain ⟨h1,h2⟩:=hsh i hi
   have v0:=zM (x:=gl pl i) p0 left
   have v1:=zN (x:=gl pl i) p0 left
   refine ⟨_,rfl,_,rfl,_,rfl,p,gl pl i,o,f,rfl,.inr (SqT.of (s2 _ _ ho)),p0,p1,x0,x1,?_⟩
   refine ⟨_,rfl,_,rfl,r,_,_,.int (gl ys i),rfl,rfl,SqL.of (s2 _ _ hra),zal (by rw [List.getElem?_map,zad (by omega)]; rfl),_,rfl,rfl,_,rfl,?_⟩
   have tail : ∀ D : Prop,D → D:=fun _ d => d
   refine za2 (fun hne => ?_) (fun _ => ?_)
   ·have hl0:=h1 (fun e => by rw [e] at hne; simp at hne)
    refine ⟨_,rfl,_,rfl,_,rfl,p,gl pl i,lf,left,rfl,.inr (SqT.of (s2 _ _ hlf)),p0,p1,x0,x1,rfl,_,rfl,?_⟩
    rw [hl0]
    refine za2 (fun h => absurd h (by simp)) (fun _ => ?_)
    refine ⟨_,rfl,_,rfl,_,rfl,p,gl pl i,rg,right,rfl,.inr (SqT.of (s2 _ _ hrg)),p0,p1,x0,x1,_,rfl,_,rfl,_,rfl,p,gl pl i,lf,left,rfl,.inr (SqT.of (s2 _ _ hlf)),p0,p1,x0,x1,_,rfl,_,_,rfl,rfl,.inl ⟨by omega,by omega⟩,_,rfl,_,_,rfl,rfl,p0,rfl,_,rfl,?_⟩
    rw [h2]
    refine za2 (fun h => absurd h (by simp)) (fun _ => ?_)
    exact ⟨_,_,_,rfl,s2⟩
   ·refine zhI ?_
    refine ⟨_,rfl,_,rfl,_,rfl,p,gl pl i,rg,right,rfl,.inr (SqT.of (s2 _ _ hrg)),p0,p1,x0,x1,_,rfl,_,rfl,_,rfl,p,gl pl i,lf,left,rfl,.inr (SqT.of (s2 _ _ hlf)),p0,p1,x0,x1,_,rfl,_,_,rfl,rfl,.inl ⟨by omega,by omega⟩,_,rfl,_,_,rfl,rfl,p0,rfl,_,rfl,?_⟩
    rw [h2]
    refine za2 (fun h => absurd h (by simp)) (fun _ => ?_)
    exact ⟨_,_,_,rfl,s2⟩
  ·rintro σ H1 ⟨e8,e9,e10,rfl,s1⟩
   exact q H1 s1
end
end My
end
section
set_option maxHeartbeats 3999000
namespace My
open PySem L2 PyProof.Rows
section
variable {P : Program} {w : World} {K : PySem.W.Frag} {mg : Str → Option Value} {base : Heap} {t : Adr}
def zaQ (oa ra : Addr) (H : Hp) : List Addr → List (List Int) → Prop:=Paired fun b ys => H b = some (.lst (ys.map V.int)) ∧ b ≠ oa ∧ b ≠ ra
theorem zaQ.same {oa ra : Addr} {H H' : Hp} (s : zB H H') {bs : List Addr} {yss : List (List Int)} (h : zaQ oa ra H bs yss) : zaQ oa ra H' bs yss:=Paired.mono (fun _ _ ⟨z,z'⟩ => ⟨s _ _ z,z'⟩) h
theorem zaQ.putO {oa ra : Addr} {H : Hp} {bs : List Addr} {yss : List (List Int)} {o : HO} (h : zaQ oa ra H bs yss) : zaQ oa ra (upd H oa o) bs yss:=Paired.mono (fun _ _ ⟨z,z1,z2⟩ => ⟨by rw [zn z1]; exact z,z1,z2⟩) h
theorem zaQ.putR {oa ra : Addr} {H : Hp} {bs : List Addr} {yss : List (List Int)} {o : HO} (h : zaQ oa ra H bs yss) : zaQ oa ra (upd H ra o) bs yss:=Paired.mono (fun _ _ ⟨z,z1,z2⟩ => ⟨by rw [zn z2]; exact z,z1,z2⟩) h
theorem zgy {xs : List V} {v : V} : atI (xs ++ [v]) (-1) = some v:=by
 unfold atI ixN
 rw [if_neg (by decide),if_pos (by rw [List.length_append]; show -((xs.length + 1 : Nat) : Int) ≤ -1; omega)]
 show (xs ++ [v])[(-1 + ((xs ++ [v]).length : Int)).toNat]? = some v
 rw [List.length_append,show (-1 + ((xs.length + [v].length : Nat) : Int)).toNat = xs.length by show (-1 + ((xs.length + 1 : Nat) : Int)).toNat = _; omega,List.getElem?_append_right (Nat.le_refl _),Nat.sub_self]
 rfl
structure MidR (p : Int) (pl f : List Int) (S : List Nat) (ys : List Int) : Prop where
 ln : ys.length = pl.length
 rg : ∀ y ∈ ys,0 ≤ y ∧ y < p
 off : ∀ i,i ∈ S → gl ys i ≠ ze p (gl pl i) f
 on : ∀ i,i < pl.length → i ∉ S → gl ys i = ze p (gl pl i) f
theorem zft {p : Int} (p0 : 0 < p) (pl f : List Int) : MidR p pl f [] (pl.map fun x => ze p x f):=by
 refine ⟨by rw [List.length_map],fun y hy => ?_,fun i hi => (by cases hi),fun i hi _ => zgc (f:=fun x => ze p x f) hi⟩
 obtain ⟨x,_,rfl⟩:=List.mem_map.mp hy
 exact ⟨zM p0 _,zN p0 _⟩
theorem zgz {p : Int} (p0 : 0 < p) {pl f : List Int} {S : List Nat} {ys : List Int} (M : MidR p pl f S ys) {i : Nat} (hi : i < pl.length) (hS : i ∉ S) {d : Int} (d0 : 1 ≤ d) (d1 : d < p) : MidR p pl f (S ++ [i]) (ys.set i ((gl ys i + d) % p)):=by
 have hset : ∀ j,gl (ys.set i ((gl ys i + d) % p)) j = if j = i then (gl ys i + d) % p else gl ys j:=fun j => by
  by_cases e : j = i
  ·subst e
   rw [if_pos rfl]
   exact zaO (List.getElem?_set_self (by rw [M.ln]; exact hi))
  ·rw [if_neg e]
   unfold gl
   rw [List.getD_eq_getElem?_getD,List.getD_eq_getElem?_getD,List.getElem?_set_ne (Ne.symm e)]
   rfl
 have hv:=M.on i hi hS
 have v0:=zM (x:=gl pl i) p0 f
 have v1:=zN (x:=gl pl i) p0 f
 refine ⟨by rw [List.length_set]; exact M.ln,fun y hy => ?_,fun j hj => ?_,fun j hj hn => ?_⟩
 ·rcases List.mem_or_eq_of_mem_set hy with h | rfl
  ·exact M.rg y h
  ·exact ⟨Int.emod_nonneg _ (by omega),Int.emod_lt_of_pos _ p0⟩
 ·rw [hset]
  rcases List.mem_append.mp hj with h | h
  ·by_cases e : j = i
   ·subst e; exact absurd h hS
   ·rw [if_neg e]; exact M.off j h
  ·obtain rfl : j = i:=by simpa using h
   rw [if_pos rfl,hv]
   intro e
   by_cases hlt : ze p (gl pl j) f + d < p
   ·rw [Int.emod_eq_of_lt (by omega) hlt] at e
    omega
   ·have h2 : (ze p (gl pl j) f + d) % p = ze p (gl pl j) f + d - p:=by
     rw [← Int.sub_emod_right,Int.emod_eq_of_lt (by omega) (by omega)]
    omega
 ·rw [List.mem_append,not_or] at hn
  rw [hset,if_neg (by simpa using hn.2)]
  exact M.on j hj hn.1
theorem zd5 : ∀ {xs : List Int},(∀ y ∈ xs,0 ≤ y) → ∃ S : List Nat,xs = S.map fun i : Nat => (i : Int)
 | [],_ => ⟨[],rfl⟩
 | x :: xs,h => by
  obtain ⟨S,e⟩:=zd5 (xs:=xs) fun y hy => h y (List.mem_cons_of_mem _ hy)
  have:=h x List.mem_cons_self
  refine ⟨x.toNat :: S,?_⟩
  rw [List.map_cons,← e,Int.toNat_of_nonneg this]
theorem zh5 (xs : List V) (j : Nat) : za9 xs none (some (j : Int)) = xs.take j:=by
 unfold za9
 rw [HT.sIx_nat,HT.sIx_none,Nat.sub_zero,List.drop_zero]
 by_cases h : j ≤ xs.length
 ·rw [Nat.min_eq_left h]
 ·rw [show min j xs.length = xs.length by omega,List.take_of_length_le (Nat.le_refl _),List.take_of_length_le (show xs.length ≤ j by omega)]
theorem zaQ.rws {oa ra : Addr} {H : Hp} {n : Nat} : ∀ {bs : List Addr} {yss : List (List Int)},zaQ oa ra H bs yss → (∀ ys ∈ yss,ys.length = n) → ziD n H bs (yss.map fun ys => ys.map some)
 | _,_,.nil,_ => .nil
 | _,_,.cons (b:=ys) r t,hl => .cons ⟨by rw [List.map_map]; exact r.1,by rw [List.length_map]; exact hl ys List.mem_cons_self⟩ (zaQ.rws t fun z hz => hl z (List.mem_cons_of_mem _ hz))
theorem zQ : FnScope ["script","at","code","p","k","places","plan","left","slips","ones","rows","j","draws","row","number","more","e","wall","right","rights"] ["script"] (zj zaZ):=⟨rfl,rfl,rfl,by decide +kernel,rfl,by decide +kernel,by decide +kernel⟩
theorem zh6 {fd : FuncData} (T : Txt K mg t) (F : Fun K "law" "law" zaZ t.law fd) : FnOk P w K mg base CX0 7 t.law fd ["script"] (zdu K):=by
 obtain ⟨fd_l_code,F_l_code,b_l_code⟩:=T.f_l_code
 have G_l_code:=zfm (P:=P) (w:=w) (base:=base) T F_l_code
 obtain ⟨fd_l_draws,F_l_draws,b_l_draws⟩:=T.f_l_draws
 have G_l_draws:=zcz (P:=P) (w:=w) (base:=base) T F_l_draws
 obtain ⟨fd_l_value,F_l_value,b_l_value⟩:=T.f_l_value
 have G_l_value:=zcA (P:=P) (w:=w) (base:=base) T F_l_value
 obtain ⟨fd_locator_of,F_locator_of,b_locator_of⟩:=T.f_locator_of
 have G_locator_of:=zcP (P:=P) (w:=w) (base:=base) T F_locator_of
 obtain ⟨fd_l_shows,F_l_shows,b_l_shows⟩:=T.f_l_shows
 have G_l_shows:=zet (P:=P) (w:=w) (base:=base) T F_l_shows
 obtain ⟨fd_joint_locator,F_joint_locator,b_joint_locator⟩:=T.f_joint_locator
 have G_joint_locator:=za0 (P:=P) (w:=w) (base:=base) T F_joint_locator
 refine F.ok zQ (fun vs H Q E h => ?_) (fun cdv A outer s H vs Q E hr h => ?_)
 ·obtain ⟨a,ns,rfl,_⟩:=h
  rfl
 ·obtain ⟨a,ns,rfl,hS,hlen,q⟩:=h
  refine ⟨_,(@zc _ _ _ _ _ (@zaS _ _ _ _ _ _ _ _ PassesOwn.never rfl (@zat _ _ _ _ _ _ rfl T.range_ (@za _ _ _ _ _ (@zg _ _ _ _) (@zf _) (by rfl)) (by rfl)) (@zi _ _ (1) _ zQ.nd rfl (Or.inl rfl) (by trivial)) (@zc _ _ _ _ _ (@zo _ _ (2) _ _ _ _ zQ.nd rfl (Or.inr rfl) (@zt _ _ _ _ _ _ _ _ _ _ _ _ _ _ _ _ G_l_code (hr.mono (by decide)) rfl T.m_l_code F_l_code.kp b_l_code .nil (@zP _) (@za _ _ _ _ _ (@pvx _ 0 _ _ rfl) (by exact (@za _ _ _ _ _ (@zh _ _ _ _ _ _ _ _ (@zI _) (@zg _ _ _ _) (@pvx _ 1 _ _ rfl)) (@za _ _ _ _ _ (@zg _ _ _ _) (@za _ _ _ _ _ (@zg _ _ _ _) (@zf _) (by rfl)) (by rfl)) (by rfl))) (by rfl)) (by decide) (by rfl) (by rfl)) (by rfl) (by trivial)) (by exact (@zc _ _ _ _ _ (@zaR _ _ _ _ _ _ (@pvx _ 2 _ _ rfl) (@zas _ _ _ _ _ _ rfl (@zm _ _ _ _ _ (@zi _ _ (3) _ zQ.nd rfl (Or.inr rfl) (by trivial)) (@zm _ _ _ _ _ (@zi _ _ (4) _ zQ.nd rfl (Or.inl rfl) (by trivial)) (@zm _ _ _ _ _ (@zi _ _ (5) _ zQ.nd rfl (Or.inl rfl) (by trivial)) (@zS _) (by rfl)) (by rfl)) (by rfl)) (by rfl) (by rfl)) (by rfl) (by rfl) (by rfl)) (by exact (@zc _ _ _ _ _ (@zo _ _ (6) _ _ _ _ zQ.nd rfl (Or.inr rfl) (@zt _ _ _ _ _ _ _ _ _ _ _ _ _ _ _ _ G_l_draws (hr.mono (by decide)) rfl T.m_l_draws F_l_draws.kp b_l_draws .nil (@zP _) (@za _ _ _ _ _ (@pvx _ 0 _ _ rfl) (by exact (@za _ _ _ _ _ (@zh _ _ _ _ _ _ _ _ (@zE _) (@zh _ _ _ _ _ _ _ _ (@zI _) (@zg _ _ _ _) (@pvx _ 1 _ _ rfl)) (@zg _ _ _ _)) (@za _ _ _ _ _ (@zg _ _ _ _) (@za _ _ _ _ _ (@zg _ _ _ _) (@zf _) (by rfl)) (by rfl)) (by rfl))) (by rfl)) (by decide) (by rfl) (by rfl)) (by rfl) (by trivial)) (by exact (@zc _ _ _ _ _ (@zo _ _ (7) _ _ _ _ zQ.nd rfl (Or.inr rfl) (@zah _ _ _ _ _ _ _ _ _ (@zbA _ rfl) (by rfl) T.list_ boot_list (@za _ _ _ _ _ (@zah _ _ _ _ _ _ _ _ _ (@zb7 _) (by rfl) T.range_ boot_range (@za _ _ _ _ _ (@zK _ _ _ _ _ _ _ _ _ (@zz _) (by rfl) T.len_ boot_len (@za _ _ _ _ _ (@pvx _ 5 _ _ rfl) (@zf _) (by rfl)) (by decide) (by decide) (by rfl) (by rfl)) (@zf _) (by rfl)) (by decide) (by decide) (by rfl) (by rfl)) (@zf _) (by rfl)) (by decide) (by decide) (by rfl) (by rfl)) (by rfl) (by trivial)) (by exact (@zc _ _ _ _ _ (@zaK _ _ _ _ _ _ _ _ _ _ _ _ _ (8) _ _ _ zQ.nd rfl (Or.inl rfl) (CompSc.of (N':=["j","left","plan"]) (ix:=[none,some 7,some 6]) (zj zaZ) ["script","at","code","p","k","places","plan","left","slips","ones","rows","j","draws","row","number","more","e","wall","right","rights"] rfl rfl (by decide +kernel)) rfl (@zam _ _ rfl) (@zat _ _ _ _ _ _ rfl T.range_ (@za _ _ _ _ _ (@zh _ _ _ _ _ _ _ _ (@zy _) (@zJ _ _ _ _ _ _ _ (@zD _) (@pvx _ 6 _ _ rfl) (@zg _ _ _ _) (fun _ _ => rfl)) (@zh _ _ _ _ _ _ _ _ (@zE _) (@zh _ _ _ _ _ _ _ _ (@zew _) (@zh _ _ _ _ _ _ _ _ (@zbD _) (@zK _ _ _ _ _ _ _ _ _ (@zz _) (by rfl) T.len_ boot_len (@za _ _ _ _ _ (@pvx _ 5 _ _ rfl) (@zf _) (by rfl)) (by decide) (by decide) (by rfl) (by rfl)) (@pvx _ 4 _ _ rfl)) (@zg _ _ _ _)) (@zg _ _ _ _))) (@zf _) (by rfl)) (by rfl)) (fun _ _ _ _ => (@zi _ _ (0) _ (show (["j","left","plan"] : List Str).Nodup by decide +kernel) rfl (Or.inl rfl) (by trivial))) (fun _ _ _ _ => (@zL _)) (fun _ _ _ _ => (@zfU _ (K) _ _ _ _ _ _ _ _ _ _ _ rfl PySem.F.plainAttrs_list PySem.F.slot_list_pop PySem.F.type_list_pop (@zdG _) (@pvx _ 1 _ _ rfl) (@za _ _ _ _ _ (@zh _ _ _ _ _ _ _ _ (@zy _) (@zJ _ _ _ _ _ _ _ (@zaL _ (K) rfl) (@pvx _ 2 _ _ rfl) (@pvx _ 0 _ _ rfl) (fun _ _ => rfl)) (@zK _ _ _ _ _ _ _ _ _ (@zbB _ (K) rfl) (by rfl) T.len_ boot_len (@za _ _ _ _ _ (@pvx _ 1 _ _ rfl) (@zf _) (by rfl)) (by decide) (by decide) (by rfl) (by rfl))) (@zf _) (by rfl)) (by rfl) (by rfl) (by rfl) (by rfl) (by rfl))) (by rfl) (by intro _; rfl) (by trivial)) (by exact (@zc _ _ _ _ _ (@zo _ _ (9) _ _ _ _ zQ.nd rfl (Or.inr rfl) (@zav _ _ _ _ (@zf _)) (by rfl) (by trivial)) (by exact (@zc _ _ _ _ _ (@zo _ _ (10) _ _ _ _ zQ.nd rfl (Or.inr rfl) (@zav _ _ _ _ (@zf _)) (by rfl) (by trivial)) (by exact (@zc _ _ _ _ _ (@zaS _ _ _ _ _ _ _ _ PassesOwn.never rfl (@zat _ _ _ _ _ _ rfl T.range_ (@za _ _ _ _ _ (@zh _ _ _ _ _ _ _ _ (@zE _) (@zg _ _ _ _) (@zh _ _ _ _ _ _ _ _ (@zy _) (@zJ _ _ _ _ _ _ _ (@zD _) (@pvx _ 6 _ _ rfl) (@zg _ _ _ _) (fun _ _ => rfl)) (@zg _ _ _ _))) (@zf _) (by rfl)) (by rfl)) (@zi _ _ (11) _ zQ.nd rfl (Or.inl rfl) (by trivial)) (@zc _ _ _ _ _ (@zo _ _ (12) _ _ _ _ zQ.nd rfl (Or.inl rfl) (@zt _ _ _ _ _ _ _ _ _ _ _ _ _ _ _ _ G_l_draws (hr.mono (by decide)) rfl T.m_l_draws F_l_draws.kp b_l_draws .nil (@zP _) (@za _ _ _ _ _ (@pvx _ 0 _ _ rfl) (by exact (@za _ _ _ _ _ (@zh _ _ _ _ _ _ _ _ (@zE _) (@zh _ _ _ _ _ _ _ _ (@zE _) (@zh _ _ _ _ _ _ _ _ (@zI _) (@zg _ _ _ _) (@pvx _ 1 _ _ rfl)) (@zg _ _ _ _)) (@pvx _ 11 _ _ rfl)) (@za _ _ _ _ _ (@zg _ _ _ _) (@za _ _ _ _ _ (@zg _ _ _ _) (@zf _) (by rfl)) (by rfl)) (by rfl))) (by rfl)) (by decide) (by rfl) (by rfl)) (by rfl) (by trivial)) (by exact (@zc _ _ _ _ _ (@zbF _ _ _ _ (@zcZ _ _ _ _ _ _ _ _ _ _ _ _ PySem.F.plainAttrs_list PySem.F.slot_list_append PySem.F.type_list_append (@zaW _) (@pvx _ 9 _ _ rfl) (@za _ _ _ _ _ (@zah _ _ _ _ _ _ _ _ _ (@zaz _) (by rfl) T.tuple_ boot_tuple (@za _ _ _ _ _ (@zan _ _ _ _ _ _ _ _ _ _ _ _ _ (CompSc.of (N':=["draw","p"]) (ix:=[none,some 3]) (zj zaZ) ["script","at","code","p","k","places","plan","left","slips","ones","rows","j","draws","row","number","more","e","wall","right","rights"] rfl rfl (by decide +kernel)) rfl (@zam _ _ rfl) (@zaj _ _ _ _ (@zbe _ _ _ _ _ _ _ _ _ _ zdj (@pvx _ 12 _ _ rfl) (@zce _) (@zbq _ _ _ (@pvx _ 4 _ _ rfl)))) (fun _ _ _ _ => (@zi _ _ (0) _ (show (["draw","p"] : List Str).Nodup by decide +kernel) rfl (Or.inl rfl) (by trivial))) (fun _ _ _ _ => (@zL _)) (fun _ _ _ _ => (@zh _ _ _ _ _ _ _ _ (@zy _) (@pvx _ 0 _ _ rfl) (@pvx _ 1 _ _ rfl))) (by intro _; rfl)) (@zf _) (by rfl)) (by decide) (by decide) (by rfl) (by rfl)) (@zf _) (by rfl)) (by rfl) (by rfl) (by rfl) (by rfl) (by rfl)) (by rfl)) (by exact (@zc _ _ _ _ _ (@zaK _ _ _ _ _ _ _ _ _ _ _ _ _ (13) _ _ _ zQ.nd rfl (Or.inl rfl) (CompSc.of (N':=["x","p","ones"]) (ix:=[none,some 3,some 9]) (zj zaZ) ["script","at","code","p","k","places","plan","left","slips","ones","rows","j","draws","row","number","more","e","wall","right","rights"] rfl rfl (by decide +kernel)) rfl (@zam _ _ rfl) (@zfA _ _ _ _ (@pvx _ 5 _ _ rfl)) (fun _ _ _ _ => (@zi _ _ (0) _ (show (["x","p","ones"] : List Str).Nodup by decide +kernel) rfl (Or.inl rfl) (by trivial))) (fun _ _ _ _ => (@zL _)) (fun _ _ _ _ => (@zt _ _ _ _ _ _ _ _ _ _ _ _ _ _ _ _ G_l_value (hr.mono (by decide)) rfl T.m_l_value F_l_value.kp b_l_value .nil (@zP _) (@za _ _ _ _ _ (@pvx _ 1 _ _ rfl) (@za _ _ _ _ _ (@zJ _ _ _ _ _ _ _ (@zaL _ (K) rfl) (@pvx _ 2 _ _ rfl) (@zha _ _ _ _ _ _ zfE (@zg _ _ _ _)) (fun _ _ => rfl)) (@za _ _ _ _ _ (@pvx _ 0 _ _ rfl) (@zf _) (by rfl)) (by rfl)) (by rfl)) (by decide) (by rfl) (by rfl))) (by rfl) (by intro _; rfl) (by trivial)) (by exact (@zc _ _ _ _ _ (@zaS _ _ _ _ _ _ _ _ PassesOwn.never rfl (@zaj _ _ _ _ (@pvx _ 8 _ _ rfl)) (@zi _ _ (14) _ zQ.nd rfl (Or.inl rfl) (by trivial)) (@zc _ _ _ _ _ (@zo _ _ (15) _ _ _ _ zQ.nd rfl (Or.inl rfl) (@zh _ _ _ _ _ _ _ _ (@zE _) (@zg _ _ _ _) (@zh _ _ _ _ _ _ _ _ (@zy _) (@zJ _ _ _ _ _ _ _ (@zD _) (@pvx _ 12 _ _ rfl) (@zh _ _ _ _ _ _ _ _ (@zE _) (@zg _ _ _ _) (@pvx _ 14 _ _ rfl)) (fun _ _ => rfl)) (@zh _ _ _ _ _ _ _ _ (@zbD _) (@pvx _ 3 _ _ rfl) (@zg _ _ _ _)))) (by rfl) (by trivial)) (by exact (@zp _ _ _ (@zaR _ _ _ _ _ _ (@zh _ _ _ _ _ _ _ _ (@zy _) (@zh _ _ _ _ _ _ _ _ (@zE _) (@zJ _ _ _ _ _ _ _ (@zD _) (@pvx _ 13 _ _ rfl) (@pvx _ 14 _ _ rfl) (fun _ _ => rfl)) (@pvx _ 15 _ _ rfl)) (@pvx _ 3 _ _ rfl)) (@zfw _ _ _ _ _ _ _ (@pvx _ 13 _ _ rfl) (@pvx _ 14 _ _ rfl) set_list (by intro _; rfl)) (by rfl) (by rfl) (by rfl))))) (by intro _; rfl)) (by exact (@zp _ _ _ (@zbF _ _ _ _ (@zcZ _ _ _ _ _ _ _ _ _ _ _ _ PySem.F.plainAttrs_list PySem.F.slot_list_append PySem.F.type_list_append (@zaW _) (@pvx _ 10 _ _ rfl) (@za _ _ _ _ _ (@pvx _ 13 _ _ rfl) (@zf _) (by rfl)) (by rfl) (by rfl) (by rfl) (by rfl) (by rfl)) (by rfl))))))))))) (by intro _; rfl)) (by exact (@zc _ _ _ _ _ (@zaR _ _ _ _ _ _ (@zt _ _ _ _ _ _ _ _ _ _ _ _ _ _ _ _ G_locator_of (hr.mono (by decide)) rfl T.m_locator_of F_locator_of.kp b_locator_of .nil (@zP _) (@za _ _ _ _ _ (@pvx _ 2 _ _ rfl) (@za _ _ _ _ _ (@zJ _ _ _ _ _ _ _ (@zD _) (@pvx _ 10 _ _ rfl) (@zg _ _ _ _) (fun _ _ => rfl)) (@zf _) (by rfl)) (by rfl)) (by decide) (by rfl) (by rfl)) (@zas _ _ _ _ _ _ rfl (@zm _ _ _ _ _ (@zi _ _ (16) _ zQ.nd rfl (Or.inl rfl) (by trivial)) (@zm _ _ _ _ _ (@zi _ _ (17) _ zQ.nd rfl (Or.inr rfl) (by trivial)) (@zm _ _ _ _ _ (@zi _ _ (18) _ zQ.nd rfl (Or.inl rfl) (by trivial)) (@zS _) (by rfl)) (by rfl)) (by rfl)) (by rfl) (by rfl)) (by rfl) (by rfl) (by rfl)) (by exact (@zc _ _ _ _ _ (@zbc _ _ _ _ _ _ _ _ (@PW.pt _ _ _ (@zia _ _ _ _ _ _ _ (@zV _ _ _ _ _ _ _ _ (@zcT _) (@pvx _ 16 _ _ rfl) (@zK _ _ _ _ _ _ _ _ _ (@zz _) (by rfl) T.len_ boot_len (@za _ _ _ _ _ (@pvx _ 8 _ _ rfl) (@zf _) (by rfl)) (by decide) (by decide) (by rfl) (by rfl)) (zak _)) (@zhs _ _ _ _ (@zfv _ _ _ _ (@zhr _ _ _ (@zt _ _ _ _ _ _ _ _ _ _ _ _ _ _ _ _ G_l_shows (hr.mono (by decide)) rfl T.m_l_shows F_l_shows.kp b_l_shows .nil (@zP _) (@za _ _ _ _ _ (@pvx _ 2 _ _ rfl) (by exact (@za _ _ _ _ _ (@zJ _ _ _ _ _ _ _ (@zD _) (@pvx _ 9 _ _ rfl) (@zg _ _ _ _) (fun _ _ => rfl)) (by exact (@za _ _ _ _ _ (@zJ _ _ _ _ _ _ _ (@zD _) (@pvx _ 10 _ _ rfl) (@zg _ _ _ _) (fun _ _ => rfl)) (@za _ _ _ _ _ (@pvx _ 17 _ _ rfl) (@za _ _ _ _ _ (@pvx _ 18 _ _ rfl) (@zf _) (by rfl)) (by rfl)) (by rfl))) (by rfl))) (by rfl)) (by decide) (by rfl) (by rfl)) (by intro _; rfl)))))) (@zp _ _ _ (@zG _ _ _ _ (@zb3 _ _ _ _))) (@zai _)) (by exact (@zc _ _ _ _ _ (@zaR _ _ _ _ _ _ (@zt _ _ _ _ _ _ _ _ _ _ _ _ _ _ _ _ G_joint_locator (hr.mono (by decide)) rfl T.m_joint_locator F_joint_locator.kp b_joint_locator .nil (@zP _) (@za _ _ _ _ _ (@pvx _ 2 _ _ rfl) (@za _ _ _ _ _ (@pvx _ 10 _ _ rfl) (@zf _) (by rfl)) (by rfl)) (by decide) (by rfl) (by rfl)) (@zas _ _ _ _ _ _ rfl (@zm _ _ _ _ _ (@zi _ _ (16) _ zQ.nd rfl (Or.inl rfl) (by trivial)) (@zm _ _ _ _ _ (@zi _ _ (17) _ zQ.nd rfl (Or.inr rfl) (by trivial)) (@zm _ _ _ _ _ (@zi _ _ (19) _ zQ.nd rfl (Or.inr rfl) (by trivial)) (@zS _) (by rfl)) (by rfl)) (by rfl)) (by rfl) (by rfl)) (by rfl) (by rfl) (by rfl)) (by exact (@zc _ _ _ _ _ (@zbc _ _ _ _ _ _ _ _ (@zV _ _ _ _ _ _ _ _ (@zcT _) (@pvx _ 16 _ _ rfl) (@zK _ _ _ _ _ _ _ _ _ (@zz _) (by rfl) T.len_ boot_len (@za _ _ _ _ _ (@pvx _ 8 _ _ rfl) (@zf _) (by rfl)) (by decide) (by decide) (by rfl) (by rfl)) (zak _)) (@zp _ _ _ (@zG _ _ _ _ (@zb3 _ _ _ _))) (@zai _)) (by exact (@zp _ _ _ (@zbc _ _ _ _ _ _ _ _ (@zV _ _ _ _ _ _ _ _ (@ze7 _) (@zb3 _ _ _ _) (@zan _ _ _ _ _ _ _ _ _ _ _ _ _ (CompSc.of (N':=["j","code","ones","rows","wall","rights"]) (ix:=[none,some 2,some 9,some 10,some 17,some 19]) (zj zaZ) ["script","at","code","p","k","places","plan","left","slips","ones","rows","j","draws","row","number","more","e","wall","right","rights"] rfl rfl (by decide +kernel)) rfl (@zam _ _ rfl) (@zat _ _ _ _ _ _ rfl T.range_ (@za _ _ _ _ _ (@zK _ _ _ _ _ _ _ _ _ (@zz _) (by rfl) T.len_ boot_len (@za _ _ _ _ _ (@pvx _ 10 _ _ rfl) (@zf _) (by rfl)) (by decide) (by decide) (by rfl) (by rfl)) (@zf _) (by rfl)) (by rfl)) (fun _ _ _ _ => (@zi _ _ (0) _ (show (["j","code","ones","rows","wall","rights"] : List Str).Nodup by decide +kernel) rfl (Or.inl rfl) (by trivial))) (fun _ _ _ _ => (@zL _)) (fun _ _ _ _ => (@zt _ _ _ _ _ _ _ _ _ _ _ _ _ _ _ _ G_l_shows (hr.mono (by decide)) rfl T.m_l_shows F_l_shows.kp b_l_shows .nil (@zP _) (@za _ _ _ _ _ (@pvx _ 1 _ _ rfl) (by exact (@za _ _ _ _ _ (@zJ _ _ _ _ _ _ _ (@zaL _ (K) rfl) (@pvx _ 2 _ _ rfl) (@pvx _ 0 _ _ rfl) (fun _ _ => rfl)) (by exact (@za _ _ _ _ _ (@zJ _ _ _ _ _ _ _ (@zaL _ (K) rfl) (@pvx _ 3 _ _ rfl) (@pvx _ 0 _ _ rfl) (fun _ _ => rfl)) (@za _ _ _ _ _ (@pvx _ 4 _ _ rfl) (@za _ _ _ _ _ (@zJ _ _ _ _ _ _ _ (@zaL _ (K) rfl) (@pvx _ 5 _ _ rfl) (@pvx _ 0 _ _ rfl) (fun _ _ => rfl)) (@zf _) (by rfl)) (by rfl)) (by rfl))) (by rfl))) (by rfl)) (by decide) (by rfl) (by rfl))) (by intro _; rfl)) (by with_unfolding_all rfl)) (@zp _ _ _ (@zG _ _ _ _ (@zb3 _ _ _ _))) (@zai _))))))))))))))))))))))))))) (by intro _; rfl)) (by exact (@zp _ _ _ (@zG _ _ _ _ (@zb3 _ _ _ _))))),?_⟩
  have hsl:=sizeLine_eq
  refine ⟨3,rfl,by decide,by decide,?_⟩
  refine zbQ (lo:=0) (n:=3) (fun i σ H' => ∃ (e1 e2 e3 e4 e5 e6 e7 e8 e9 e10 e11 e12 e13 e14 e15 e16 e17 e18 e19 : Option V),σ = [some (.ref a),e1,e2,e3,e4,e5,e6,e7,e8,e9,e10,e11,e12,e13,e14,e15,e16,e17,e18,e19] ∧ zB H H') ⟨none,none,none,none,none,none,none,none,none,none,none,none,none,none,none,none,none,none,none,rfl,fun _ _ e => e⟩ ?_ ?_
  ·rintro i σ H0 hi ⟨e1,e2,e3,e4,e5,e6,e7,e8,e9,e10,e11,e12,e13,e14,e15,e16,e17,e18,e19,rfl,s0⟩
   refine ⟨_,rfl,_,rfl,_,_,rfl,rfl,.inl ⟨by decide,by decide⟩,a,ns,7 * (0 + (i : Int)),5,16,rfl,s0.seq hS,hlen,by omega,by omega,by decide,by decide,by decide,by decide,fun c tt p kI pl H1 hc1 s1 co h1c h1t => ?_⟩
   have rp:=zk co.pr
   have k1:=co.k1
   have kk:=co.kk
   have kn:=co.kl
   have ln:=co.ln
   have p0 : 0 < p:=by omega
   obtain ⟨k,rfl⟩ : ∃ k : Nat,kI = k:=⟨kI.toNat,by omega⟩
   have sA1:=s0.trans s1
   have hc1' : zbm H1 c tt p k pl:=⟨h1c,h1t⟩
   refine ⟨_,rfl,c,_,rfl,SqT.of h1c,rfl,_,_,rfl,_,_,rfl,_,_,rfl,rfl,?_⟩
   refine ⟨_,rfl,_,rfl,_,_,rfl,rfl,.inl ⟨by decide,by decide⟩,_,_,rfl,rfl,a,ns,7 * (0 + (i : Int)) + 1,40,27720,rfl,sA1.seq hS,hlen,by omega,by omega,by decide,by decide,by decide,by decide,fun pa ds H2 hpa s2 hd h2p => ?_⟩
   have hdl : ds.length = 40:=hd.1
   have sA2:=sA1.trans s2
   have hc2:=hc1'.same s2
   have dat : ∀ m : Int,0 ≤ m → m < 40 → ∃ c : Int,atI (ds.map V.int) m = some (.int c):=fun m h0 h1 => zbK h0 (by omega)
   refine ⟨_,rfl,tt,_,rfl,.inr (SqT.of hc2.2),_,rfl,fun rr hrr => ⟨rr,_,rfl,zb,by rw [List.length_map]; omega,by rw [List.length_map]; omega,fun lf hlf => ?_⟩⟩
   rw [List.length_map] at hlf ⊢
   rw [Int.toNat_natCast]
   have u2:=(zd (o:=.rng 0 (pl.length : Int)) hrr).trans (zd (o:=.lst ((zaa 0 pl.length).map V.int)) hlf)
   have h3l : upd (upd H2 rr (.rng 0 (pl.length : Int))) lf (.lst ((zaa 0 pl.length).map V.int)) lf = some (.lst ((zaa 0 pl.length).map V.int)):=zb
   have hlf2 : H2 lf = none:=(zd (o:=.rng 0 (pl.length : Int)) hrr).free hlf
   generalize upd (upd H2 rr (.rng 0 (pl.length : Int))) lf (.lst ((zaa 0 pl.length).map V.int)) = H3 at u2 h3l ⊢
   have hc3:=hc2.same u2
   have h3p:=u2 _ _ h2p
   obtain ⟨d20,ed20⟩:=dat 20 (by decide) (by decide)
   have hq : 0 ≤ ((pl.length : Int) - k) / 2:=by omega
   refine ⟨_,rfl,pa,_,_,_,rfl,rfl,SqL.of h3p,ed20,_,rfl,tt,_,rfl,.inr (SqT.of hc3.2),_,rfl,_,_,rfl,rfl,_,_,rfl,rfl,⟨by decide,by decide⟩,_,_,rfl,rfl,_,_,rfl,rfl,?_⟩
   rw [List.length_map]
   have hq0:=Int.emod_nonneg d20 (show ((pl.length : Int) - k) / 2 + 1 ≠ 0 by omega)
   have hq1:=Int.emod_lt_of_pos d20 (show 0 < ((pl.length : Int) - k) / 2 + 1 by omega)
   refine ⟨by omega,_,rfl,by omega,by omega,?_⟩
   obtain ⟨cnt,hcnt⟩ : ∃ cnt : Nat,(d20 % (((pl.length : Int) - k) / 2 + 1)).toNat = cnt:=⟨_,rfl⟩
   rw [hcnt]
   have hhalf : 2 * cnt + k ≤ pl.length:=by omega
   obtain ⟨nd0,rg0⟩:=zc6 (pl.length : Int)
   rw [Int.toNat_natCast] at nd0 rg0
   refine zY (n:=cnt) (fun i ys H' => ∃ xs ls : List Int,ys = xs.map V.int ∧ xs.length = i ∧ zB H2 H' ∧ H' lf = some (.lst (ls.map V.int)) ∧ ls.length + i = pl.length ∧ (xs ++ ls).Nodup ∧ ∀ y ∈ xs ++ ls,0 ≤ y ∧ y < (pl.length : Int))
    ⟨[],zaa 0 pl.length,rfl,rfl,u2,h3l,by rw [zaU]; rfl,by simpa using nd0,by simpa using rg0⟩ (fun i ys H' hi _ => hi) (fun ys H' _ => Nat.le_refl _) ?_ ?_
   ·rintro j x ys H4 H5 hj ⟨xs,ls,rfl,hxl,s4,hlf4,hll,nd,rg⟩ ⟨rfl,rfl⟩
    refine gY ?_
    obtain ⟨c',ec⟩:=dat (0 + (j : Int)) (by omega) (by omega)
    have hpl4:=s4 _ _ h2p
    have lpos : 0 < ls.length:=by omega
    have lm : ((ls.map V.int).length : Int) = (ls.length : Int):=by rw [List.length_map]
    have c0:=Int.emod_nonneg c' (show (ls.length : Int) ≠ 0 by omega)
    have c1:=Int.emod_lt_of_pos c' (show (0 : Int) < ls.length by omega)
    obtain ⟨y,ey⟩ : ∃ y,ls[(c' % (ls.length : Int)).toNat]? = some y:=⟨ls[(c' % (ls.length : Int)).toNat]'(by omega),by simp⟩
    refine ⟨_,rfl,.inl ⟨rfl,_,SqL.of hlf4⟩,_,rfl,_,rfl,pa,_,_,_,rfl,rfl,SqL.of hpl4,ec,_,rfl,lf,_,rfl,.inl (SqL.of hlf4),_,_,rfl,rfl,(by rw [lm]; omega),lf,_,_,(c' % (ls.length : Int)).toNat,.int y,rfl,rfl,hlf4,?_⟩
    rw [lm]
    refine ⟨by omega,by omega,by rw [List.length_map]; exact seqIndex_of c0 c1,by rw [List.getElem?_map,ey]; rfl,zab (by rw [List.length_map]; omega),xs ++ [y],ls.eraseIdx (c' % (ls.length : Int)).toNat,by rw [List.map_append]; rfl,by rw [List.length_append,hxl]; rfl,z6 s4 hlf2,by rw [zb,zbT],?_,zeL ey nd rg⟩
    rw [List.length_eraseIdx]
    split <;> omega
   ·rintro ys H4 sl ⟨xs,ls,rfl,hxl,s4,_,_,nd,rg⟩ hsl4
    have nd:=(List.nodup_append.mp nd).1
    have rg:=fun y hy => rg y (List.mem_append_left _ hy)
    obtain ⟨S,rfl⟩:=zd5 fun y hy => (rg y hy).1
    rw [List.length_map] at hxl
    have hSn : S.Nodup:=by
     refine List.Pairwise.imp (fun h e => h (by rw [e])) (List.pairwise_map.mp nd)
    have hSl : ∀ i ∈ S,i < pl.length:=fun i hi => by
     have:=(rg (i : Int) (List.mem_map.mpr ⟨i,hi,rfl⟩)).2
     omega
    have PP : Pl p k pl S:=⟨co.pr,co.nd,co.rg,hSn,hSl,by omega,by omega⟩
    have t5:=zd (o:=.lst ((S.map fun i : Nat => (i : Int)).map V.int)) hsl4
    have h5s : upd H4 sl (.lst ((S.map fun i : Nat => (i : Int)).map V.int)) sl = some (.lst ((S.map fun i : Nat => (i : Int)).map V.int)):=zb
    have s25:=s4.trans t5
    generalize upd H4 sl (.lst ((S.map fun i : Nat => (i : Int)).map V.int)) = H5 at t5 h5s s25 ⊢
    have hc5:=hc2.same s25
    refine ⟨Nat.zero_le _,fun oa hoa => ⟨Nat.zero_le _,fun ra hrA => ?_⟩⟩
    have t6:=(zd (o:=.lst []) hoa).trans (zd (o:=.lst []) hrA)
    have hor : oa ≠ ra:=zu zb hrA
    have h6o : upd (upd H5 oa (.lst [])) ra (.lst []) oa = some (.lst []):=by rw [zn hor]; exact zb
    have h6r : upd (upd H5 oa (.lst [])) ra (.lst []) ra = some (.lst []):=zb
    have hrA5 : H5 ra = none:=(zd (o:=.lst []) hoa).free hrA
    generalize upd (upd H5 oa (.lst [])) ra (.lst []) = H6 at t6 h6o h6r ⊢
    obtain ⟨d21,ed21⟩:=dat 21 (by decide) (by decide)
    have hm0:=Int.emod_nonneg d21 (show (4 : Int) ≠ 0 by decide)
    have hm1:=Int.emod_lt_of_pos d21 (show (0 : Int) < 4 by decide)
    refine ⟨_,rfl,pa,_,_,_,rfl,rfl,SqL.of ((s25.trans t6) _ _ h2p),ed21,_,_,rfl,rfl,(by show (0 : Int) < 4; decide),_,_,rfl,rfl,_,rfl,by omega,by omega,?_⟩
    obtain ⟨rn,hrn⟩ : ∃ rn : Nat,(1 + d21 % 4).toNat = rn:=⟨_,rfl⟩
    rw [hrn]
    have hrn1 : 1 ≤ rn:=by omega
    have hrn4 : rn ≤ 4:=by omega
    refine zbQ (lo:=0) (n:=rn) (fun j σ H' => ∃ (os rbs : List Addr) (fs yss : List (List Int)) (f11 f12 f13 f14 f15 : Option V),σ = [some (.ref a),some (.int (0 + (i : Int))),some (.ref c),some (.int p),some (.int (k : Int)),some (.ref tt),some (.ref pa),some (.ref lf),some (.ref sl),some (.ref oa),some (.ref ra),f11,f12,f13,f14,f15,e16,e17,e18,e19] ∧
     zB H5 H' ∧ H' oa = some (.lst (os.map V.ref)) ∧ H' ra = some (.lst (rbs.map V.ref)) ∧ zbW H' os fs ∧ zaQ oa ra H' rbs yss ∧ fs.length = j ∧ yss.length = j ∧ ∀ (m : Nat) (f ys : List Int),fs[m]? = some f → yss[m]? = some ys → Slip p k pl S f ys)
     ⟨[],[],[],[],_,_,_,_,_,rfl,t6,h6o,h6r,.nil,.nil,rfl,rfl,fun m f ys h => by simp at h⟩ ?_ ?_
    ·rintro j σ H7 hj ⟨os,rbs,fs,yss,f11,f12,f13,f14,f15,rfl,s7,h7o,h7r,hT7,hR7,hfl,hyl,hSl7⟩
     have sA7:=(sA2.trans s25).trans s7
     have s27:=s25.trans s7
     have hol:=hT7.length
     have hrl:=hR7.length
     refine ⟨_,rfl,_,rfl,_,_,rfl,rfl,.inl ⟨by decide,by decide⟩,_,_,rfl,rfl,_,rfl,_,_,rfl,rfl,a,ns,7 * (0 + (i : Int)) + 2 + (0 + (j : Int)),24,27720,rfl,sA7.seq hS,hlen,by omega,by omega,by decide,by decide,by decide,by decide,fun dr ds' H8 hdr s8 hd' h8d => ?_⟩
     have hdl' : ds'.length = 24:=hd'.1
     have h8o:=s8 _ _ h7o
     have h8r:=s8 _ _ h7r
     refine ⟨_,rfl,.inl ⟨rfl,_,SqL.of h8o⟩,_,rfl,_,rfl,_,rfl,dr,_,rfl,SqL.of h8d,fun z hz => ?_⟩
     rw [zh5,← List.map_take]
     have t9:=zd (o:=.lst ((ds'.take k).map V.int)) hz
     have h9z : upd H8 z (.lst ((ds'.take k).map V.int)) z = some (.lst ((ds'.take k).map V.int)):=zb
     generalize upd H8 z (.lst ((ds'.take k).map V.int)) = H9 at t9 h9z ⊢
     obtain ⟨f,hfd⟩ : ∃ f,f = (ds'.take k).map fun d => d % p:=⟨_,rfl⟩
     have hfP : IsP p k f:=by
      rw [hfd]
      refine ⟨by rw [List.length_map,List.length_take]; omega,fun c' hc' => ?_⟩
      obtain ⟨d,_,rfl⟩:=List.mem_map.mp hc'
      exact ⟨Int.emod_nonneg _ (by omega),Int.emod_lt_of_pos _ p0⟩
     refine ⟨z,rfl,⟨_,SqL.of h9z⟩,zc9 (fs:=f.map V.int) (SqL.of h9z) (by rw [hfd,List.length_map,List.length_map,List.length_map]) (by rw [List.length_map,List.length_take]; omega) ?_ ?_⟩
     ·intro m x y R B hx hy hR
      obtain ⟨n,rfl,hn⟩:=zT hx
      obtain ⟨n',rfl,hn'⟩:=zT hy
      rw [hfd,List.getElem?_map,hn] at hn'
      cases hn'
      exact gY ⟨_,rfl,_,rfl,_,_,rfl,rfl,p0,hR⟩
     intro D hD
     have t10:=zd (o:=.lst (f.map V.int)) hD
     refine ⟨D,_,rfl,.inl ⟨SqL.of zb,fun tl htl => ?_⟩⟩
     have t11:=(t9.trans t10).trans (zd (o:=.tup (f.map V.int)) htl)
     have h11t : upd (upd H9 D (.lst (f.map V.int))) tl (.tup (f.map V.int)) tl = some (.tup (f.map V.int)):=zb
     generalize upd (upd H9 D (.lst (f.map V.int))) tl (.tup (f.map V.int)) = H11 at t11 h11t ⊢
     have h11o:=t11 _ _ h8o
     have h11r:=t11 _ _ h8r
     refine ⟨oa,_,_,rfl,rfl,h11o,by rw [List.length_map]; omega,?_⟩
     have s711:=s8.trans t11
     have h12o : upd H11 oa (.lst (os.map V.ref ++ [.ref tl])) oa = some (.lst (os.map V.ref ++ [.ref tl])):=zb
     have h12r : upd H11 oa (.lst (os.map V.ref ++ [.ref tl])) ra = some (.lst (rbs.map V.ref)):=by rw [zn (Ne.symm hor)]; exact h11r
     have hT12 : zbW (upd H11 oa (.lst (os.map V.ref ++ [.ref tl]))) (os ++ [tl]) (fs ++ [f]):=Paired.snoc ((hT7.same s711).put h11o) (by rw [zn (fun e => by rw [e,h11o] at h11t; cases h11t)]; exact h11t)
     have hR12 : zaQ oa ra (upd H11 oa (.lst (os.map V.ref ++ [.ref tl]))) rbs yss:=(hR7.same s711).putO
     have s12 : zB H5 (upd H11 oa (.lst (os.map V.ref ++ [.ref tl]))):=z6 (s7.trans s711) hoa
     have h12d : upd H11 oa (.lst (os.map V.ref ++ [.ref tl])) dr = some (.lst (ds'.map V.int)):=by
      rw [zn (fun e => by rw [e,h7o] at hdr; cases hdr)]
      exact t11 _ _ h8d
     generalize upd H11 oa (.lst (os.map V.ref ++ [.ref tl])) = H12 at h12o h12r hT12 hR12 s12 h12d ⊢
     have hc12:=hc5.same s12
     have h12t : H12 tl = some (.tup (f.map V.int)):=by
      obtain ⟨x,h1,h2⟩:=Paired.get hT12 (i:=os.length) (a:=tl) (by rw [List.getElem?_append_right (Nat.le_refl _),Nat.sub_self]; rfl)
      rw [hol,List.getElem?_append_right (Nat.le_refl _),Nat.sub_self] at h1
      cases h1
      exact h2
     refine ⟨_,rfl,tt,rfl,⟨_,SqT.of hc12.2⟩,zY (n:=pl.length) (fun m ys H' => H' = H12 ∧ ys = ((pl.take m).map fun x => ze p x f).map V.int) ⟨rfl,rfl⟩ ?_ ?_ ?_ ?_⟩
     ·rintro m ys H' hm ⟨rfl,_⟩
      exact ⟨_,.int pl[m],SqT.of hc12.2,by rw [List.getElem?_map,List.getElem?_eq_getElem hm]; rfl⟩
     ·rintro ys H' ⟨rfl,_⟩
      exact ⟨_,SqT.of hc12.2,by rw [List.length_map]; exact Nat.le_refl _⟩
     ·rintro m y ys H' H13 hm ⟨rfl,rfl⟩ ⟨rfl,hy⟩
      obtain ⟨x,rfl,hx⟩:=zT (hy _ (SqT.of hc12.2))
      obtain ⟨x0,x1⟩:=co.rg x (List.mem_of_getElem? hx)
      refine gY ⟨_,rfl,_,rfl,_,rfl,oa,_,_,.ref tl,rfl,rfl,SqL.of h12o,zgy,_,rfl,p,x,tl,f,rfl,.inr (SqT.of h12t),p0,by omega,x0,x1,?_,rfl,?_⟩
      ·rw [List.length_map,List.length_map,List.length_take]; omega
      ·rw [take_snoc hx,List.map_append,List.map_append]; rfl
     rintro ys H' rl ⟨rfl,rfl⟩ hrl12
     rw [List.take_length]
     have h13 : upd H' rl (.lst ((pl.map fun x => ze p x f).map V.int)) rl = some (.lst ((pl.map fun x => ze p x f).map V.int)):=zb
     have t13:=zd (o:=.lst ((pl.map fun x => ze p x f).map V.int)) hrl12
     have M0:=zft p0 pl f
     generalize upd H' rl (.lst ((pl.map fun x => ze p x f).map V.int)) = H13 at h13 t13 ⊢
     generalize (pl.map fun x => ze p x f) = ys0 at h13 M0
     have h13s:=t13 _ _ (s12 _ _ h5s)
     refine ⟨_,rfl,sl,rfl,⟨_,SqL.of h13s⟩,zbG (K:=K) (a:=sl) (xs:=(S.map fun i : Nat => (i : Int)).map V.int) (fun m σ H'' => ∃ (ys : List Int) (g14 g15 : Option V),σ = [some (.ref a),some (.int (0 + (i : Int))),some (.ref c),some (.int p),some (.int (k : Int)),some (.ref tt),some (.ref pa),some (.ref lf),some (.ref sl),some (.ref oa),some (.ref ra),some (.int (0 + (j : Int))),some (.ref dr),some (.ref rl),g14,g15,e16,e17,e18,e19] ∧ zB H' H'' ∧ H'' rl = some (.lst (ys.map V.int)) ∧ MidR p pl f (S.take m) ys)
      ⟨ys0,_,_,rfl,t13,h13,by rw [List.take_zero]; exact M0⟩ (fun m σ H'' _ ⟨_,_,_,_,s',_⟩ => SqL.of (s' _ _ (s12 _ _ h5s))) ?_ ?_⟩
     ·rintro m y σ H14 hy ⟨ys,g14,g15,rfl,s14,h14,M⟩
      obtain ⟨nI,rfl,hnI⟩:=zT hy
      rw [List.getElem?_map] at hnI
      obtain ⟨n,hn,rfl⟩ : ∃ n : Nat,S[m]? = some n ∧ (n : Int) = nI:=by
       cases e : S[m]? with
       | none => rw [e] at hnI; cases hnI
       | some n => rw [e] at hnI; exact ⟨n,rfl,Option.some.inj hnI⟩
      have hnl:=hSl n (List.mem_of_getElem? hn)
      have hnS : n ∉ S.take m:=fun h => by
       have h1:=hSn
       rw [zcw hn] at h1
       exact (List.nodup_append.mp h1).2.2 n h n List.mem_cons_self rfl
      obtain ⟨d,ed⟩ : ∃ d : Int,atI (ds'.map V.int) (6 + (n : Int)) = some (.int d):=zbK (by omega) (by omega)
      have hq0:=Int.emod_nonneg d (show p - 1 ≠ 0 by omega)
      have hq1:=Int.emod_lt_of_pos d (show 0 < p - 1 by omega)
      have hyn : ys.length = pl.length:=M.ln
      refine ⟨_,rfl,_,rfl,_,_,rfl,rfl,dr,_,_,_,rfl,rfl,SqL.of (s14 _ _ h12d),ed,_,rfl,_,_,rfl,rfl,_,_,rfl,rfl,by omega,_,_,rfl,rfl,?_⟩
      refine ⟨_,rfl,_,rfl,rl,_,_,.int (gl ys n),rfl,rfl,SqL.of h14,zal (by rw [List.getElem?_map,zad (by omega)]; rfl),_,rfl,_,_,rfl,rfl,_,rfl,_,_,rfl,rfl,p0,_,rfl,_,rfl,rl,_,_,n,rfl,rfl,h14,zeN (by rw [List.length_map]; omega),?_⟩
      refine ⟨ys.set n ((gl ys n + (1 + d % (p - 1))) % p),_,_,rfl,z6 s14 hrl12,by rw [zb,List.map_set],?_⟩
      rw [take_snoc hn]
      exact zgz p0 M hnl hnS (by omega) (by omega)
     ·rintro σ H14 ⟨ys,g14,g15,rfl,s14,h14,M⟩
      rw [List.length_map,List.length_map,List.take_length] at M
      have h14r:=s14 _ _ h12r
      have hro : rl ≠ oa:=fun e => by rw [e,h12o] at hrl12; cases hrl12
      have hrr' : rl ≠ ra:=fun e => by rw [e,h12r] at hrl12; cases hrl12
      refine ⟨_,rfl,.inl ⟨rfl,_,SqL.of h14r⟩,_,rfl,ra,_,_,rfl,rfl,h14r,by rw [List.length_map]; omega,?_⟩
      refine ⟨os ++ [tl],rbs ++ [rl],fs ++ [f],yss ++ [ys],_,_,_,_,_,rfl,z6 (s12.trans s14) hrA5,?_,by rw [zb,List.map_append]; rfl,(hT12.same s14).put h14r,Paired.snoc (hR12.same s14).putR ⟨by rw [zn hrr']; exact h14,hro,hrr'⟩,by rw [List.length_append,hfl]; rfl,by rw [List.length_append,hyl]; rfl,fun m f' ys' h1 h2 => ?_⟩
      ·rw [zn hor,List.map_append]
       exact s14 _ _ h12o
      ·by_cases hm : m < j
       ·rw [List.getElem?_append_left (by omega)] at h1 h2
        exact hSl7 m f' ys' h1 h2
       ·have hmj : m = j:=by
         have:=(List.getElem?_eq_some_iff.mp h1).1
         rw [List.length_append,hfl] at this
         have : m < j + 1:=this
         omega
        subst hmj
        rw [← hfl,List.getElem?_append_right (Nat.le_refl _),Nat.sub_self] at h1
        rw [← hyl,List.getElem?_append_right (Nat.le_refl _),Nat.sub_self] at h2
        cases h1
        cases h2
        exact ⟨hfP,M.ln,M.rg,M.off,M.on⟩
    ·rintro σ H7 ⟨os,rbs,fs,yss,f11,f12,f13,f14,f15,rfl,s7,h7o,h7r,hT7,hR7,hfl,hyl,hSl7⟩
     have s27:=s25.trans s7
     have hc7:=hc2.same s27
     have h7s:=s7 _ _ h5s
     have hol:=hT7.length
     have hrl:=hR7.length
     have hat : ∀ m,m < rn → ∃ b ys o f,rbs[m]? = some b ∧ yss[m]? = some ys ∧ H7 b = some (.lst (ys.map V.int)) ∧ os[m]? = some o ∧ fs[m]? = some f ∧ H7 o = some (.tup (f.map V.int)) ∧ Slip p k pl S f ys:=fun m hm => by
      obtain ⟨b,hb⟩ : ∃ b,rbs[m]? = some b:=⟨rbs[m]'(by omega),by simp⟩
      obtain ⟨o,ho⟩ : ∃ o,os[m]? = some o:=⟨os[m]'(by omega),by simp⟩
      obtain ⟨ys,h1,h2,_⟩:=Paired.get hR7 hb
      obtain ⟨f,h3,h4⟩:=Paired.get hT7 ho
      exact ⟨b,ys,o,f,hb,h1,h2,ho,h3,h4,hSl7 m f ys h3 h1⟩
     have hsh : ∀ {e : Nat} {left right f ys : List Int},Slip p k pl S f ys → (∀ i ∈ S,ze p (gl pl i) left = 0) → (∀ z,ze p z right = ze p z left * ze p z f % p) → ∀ m,m < pl.length → (gl ys m ≠ ze p (gl pl m) f → ze p (gl pl m) left = 0) ∧ ze p (gl pl m) right = ze p (gl pl m) left * ze p (gl pl m) f % p:=fun {e left right f ys} Sf h1 h2 m hm => ⟨fun hne => h1 m (Classical.byContradiction fun hc => hne (Sf.on m hm hc)),h2 _⟩
     have hallS : ∀ ys ∈ yss,∃ f,Slip p k pl S f ys:=fun ys hys => by
      obtain ⟨m,hm⟩:=List.getElem?_of_mem hys
      obtain ⟨b,ys',o,f,_,h1,_,_,_,_,Sf⟩:=hat m (by rw [← hyl]; exact (List.getElem?_eq_some_iff.mp hm).1)
      rw [hm] at h1
      cases h1
      exact ⟨f,Sf⟩
     have hps0 : ∀ ys : List Int,ys.length = pl.length → hps pl (ys.map some) ≠ []:=fun ys hl e => by
      have:=zci hl (i:=0) (by omega)
      rw [e] at this
      cases this
     have hrgS : ∀ {f ys : List Int},Slip p k pl S f ys → ∀ z,some z ∈ ys.map some → 0 ≤ z ∧ z < p:=fun {f ys} Sf z hz => by
      obtain ⟨y,hy,e⟩:=List.mem_map.mp hz
      cases e
      exact Sf.rg z hy
     have hen : ∀ ys : List Int,(ys.map some).map enc = ys.map V.int:=fun ys => by rw [List.map_map]; rfl
     obtain ⟨b0,ys0,o0,f0,hb0,hys0,hb0a,ho0,hf0,ho0a,Sf0⟩:=hat 0 (by omega)
     have hax : atI (rbs.map V.ref) 0 = some (.ref b0):=zal (j:=0) (by rw [List.getElem?_map,hb0]; rfl)
     have hox : atI (os.map V.ref) 0 = some (.ref o0):=zal (j:=0) (by rw [List.getElem?_map,ho0]; rfl)
     refine ⟨_,rfl,_,rfl,ra,_,_,.ref b0,rfl,rfl,SqL.of h7r,hax,c,tt,b0,p,k,pl,ys0.map some,rfl,hc7,by rw [hen]; exact hb0a,by rw [List.length_map]; exact Sf0.ln,by omega,co.pr,co.nd,co.rg,hrgS Sf0,hps0 ys0 Sf0.ln,by omega,by omega,fun z la rb e left right H8 hz s8 h8z h8l h8r he16 L => ?_⟩
     obtain ⟨he,hz0,hr0⟩:=zde PP (yss:=[ys0]) (by simp) (fun ys hys => by (obtain rfl : ys = ys0:=by simpa using hys); exact ⟨f0,Sf0⟩) L
     subst he
     refine ⟨z,_,rfl,SqT.of h8z,rfl,_,_,rfl,_,_,rfl,_,_,rfl,rfl,?_⟩
     refine ⟨_,rfl,_,rfl,sl,_,rfl,.inl (SqL.of (s8 _ _ h7s)),rfl,_,rfl,?_⟩
     rw [List.length_map,List.length_map]
     refine za2 (fun h => absurd h (by simp)) (fun _ => ?_)
     refine ⟨_,rfl,_,rfl,oa,_,_,.ref o0,rfl,rfl,SqL.of (s8 _ _ h7o),hox,_,rfl,ra,_,_,.ref b0,rfl,rfl,SqL.of (s8 _ _ h7r),hax,_,rfl,_,rfl,c,tt,o0,b0,la,rb,p,k,pl,f0,ys0,left,right,rfl,hc7.same s8,s8 _ _ ho0a,s8 _ _ hb0a,h8l,h8r,Sf0.ln,by omega,p0,by omega,co.rg,hsh (e:=0) Sf0 hz0 (hr0 0 ys0 right f0 rfl rfl Sf0),fun H9 s9 => ?_⟩
     refine ⟨_,rfl,?_⟩
     refine zhI ?_
     have s79:=s8.trans s9
     have hc9:=hc7.same s79
     have hln : ∀ ys ∈ yss,ys.length = pl.length:=fun ys hys => by
      obtain ⟨f,Sf⟩:=hallS ys hys
      exact Sf.ln
     refine ⟨_,rfl,_,rfl,c,tt,ra,p,k,pl,rbs,yss.map fun ys => ys.map some,rfl,hc9,SqL.of (s79 _ _ h7r),(hR7.same s79).rws hln,by rw [List.length_map]; omega,by omega,co.pr,co.nd,co.rg,fun rw' hrw' => ?_,by omega,by omega,fun z2 la2 l3 us e2 left2 rights2 H10 hz2 s10 h10z h10l h10r hT10 he2 LL => ?_⟩
     ·obtain ⟨ys,hys,rfl⟩:=List.mem_map.mp hrw'
      obtain ⟨f,Sf⟩:=hallS ys hys
      exact ⟨hrgS Sf,hps0 ys Sf.ln⟩
     rw [List.map_map] at LL
     obtain ⟨he',hz',hr'⟩:=zde PP (yss:=yss) (fun e => by (rw [e] at hyl; simp at hyl; omega)) hallS LL
     subst he'
     have hrl2 : rights2.length = rn:=by rw [LL.rt,List.length_map,List.length_map,hyl]
     have hul:=hT10.length
     have s710:=s79.trans s10
     refine ⟨z2,_,rfl,SqT.of h10z,rfl,_,_,rfl,_,_,rfl,_,_,rfl,rfl,?_⟩
     refine ⟨_,rfl,_,rfl,sl,_,rfl,.inl (SqL.of (s710 _ _ h7s)),rfl,_,rfl,?_⟩
     rw [List.length_map,List.length_map]
     refine za2 (fun h => absurd h (by simp)) (fun _ => ?_)
     refine ⟨_,rfl,ra,_,rfl,.inl (SqL.of (s710 _ _ h7r)),_,rfl,by rw [List.length_map]; omega,by rw [List.length_map]; omega,?_⟩
     rw [List.length_map,Int.toNat_natCast]
     refine zY (n:=rbs.length) (fun m ys H' => zB H10 H' ∧ ys = List.replicate m (V.bl true)) ⟨fun _ _ e => e,rfl⟩ (fun m ys H' hm _ => hm) (fun ys H' _ => Nat.le_refl _) ?_ ?_
     ·rintro m xx ys H11 H12 hm ⟨s11,rfl⟩ ⟨rfl,rfl⟩
      obtain ⟨b,ysm,o,f,hb,hys,hba,ho,hf,hoa',Sf⟩:=hat m (by omega)
      obtain ⟨u,hu⟩ : ∃ u,us[m]? = some u:=⟨us[m]'(by omega),by simp⟩
      obtain ⟨rg2,hrg2,hua⟩:=Paired.get hT10 hu
      have s711:=s710.trans s11
      have hix : ∀ (xs : List Addr) (x : Addr),xs[m]? = some x → atI (xs.map V.ref) (0 + (m : Int)) = some (.ref x):=fun xs x hx => by
       rw [Int.zero_add]
       exact zal (by rw [List.getElem?_map,hx]; rfl)
      refine gY ⟨_,rfl,_,rfl,_,rfl,oa,_,_,.ref o,rfl,rfl,SqL.of (s711 _ _ h7o),hix os o ho,_,rfl,_,rfl,ra,_,_,.ref b,rfl,rfl,SqL.of (s711 _ _ h7r),hix rbs b hb,_,rfl,_,rfl,_,rfl,l3,_,_,.ref u,rfl,rfl,SqL.of (s11 _ _ h10r),hix us u hu,c,tt,o,b,la2,u,p,k,pl,f,ysm,left2,rg2,rfl,hc7.same s711,s711 _ _ hoa',s711 _ _ hba,s11 _ _ h10l,s11 _ _ hua,Sf.ln,by omega,p0,by omega,co.rg,hsh (e:=0) Sf hz' (hr' m ysm rg2 f hys hrg2 Sf),fun H13 s13 => ?_⟩
      refine ⟨by rw [List.length_replicate]; omega,s11.trans s13,?_⟩
      rw [List.replicate_succ']
     ·rintro ys H11 D2 ⟨s11,rfl⟩ hD2
      refine ⟨D2,_,rfl,.inl (SqL.of zb),rfl,by simp [zbH],_,rfl,?_⟩
      refine za2 (fun hh => absurd hh (by simp [inV,eqV])) (fun _ => ?_)
      exact ⟨_,_,_,_,_,_,_,_,_,_,_,_,_,_,_,_,_,_,_,rfl,(sA2.trans s27).trans ((s710.trans s11).trans (zd hD2))⟩
  ·rintro σ H1 ⟨e1,e2,e3,e4,e5,e6,e7,e8,e9,e10,e11,e12,e13,e14,e15,e16,e17,e18,e19,rfl,s1⟩
   exact q _
end
end My
end
section
set_option maxHeartbeats 3999000
namespace My
open PySem L2 PyProof.Rows
structure Dn (K : PySem.W.Frag) (x : Str) (st : Stmt) (f : Addr) (fd : FuncData) : Prop where
 a : PySem.W.nsIn K mainGlobals x = some (some (.ref f))
 f : Fun K x x st f fd
theorem zar {K : PySem.W.Frag} {x : Str} {st : Stmt} {f : Addr} {od an : Option Addr} {sl : Array (Option Value)} {oc kV dc pm cd ct : Value} (a : PySem.W.nsIn K mainGlobals x = some (some (.ref f))) (l : K.lookup f = some ⟨oc,od,.func (PySem.W.fnOf x x (zaN st) (zaF st) (zj st) .none kV dc pm an cd ct),sl⟩) (c : PySem.W.codeIn K cd x = true) (k : PySem.W.keepIn K (.ref f) = true) : Dn K x st f (PySem.W.fnOf x x (zaN st) (zaF st) (zj st) .none kV dc pm an cd ct):=⟨a,zfN l c k⟩
theorem zh7 {l : PySem.W.OpenLaw} {w : World} {K : PySem.W.Frag} {h : Heap} {mg : Str → Option Value} {fa fl : Addr} (X : K.In h) (G : h.Ns mainGlobals mg) (hfa : mg "law" = some (.ref fa))
  {od an : Option Addr} {sl : Array (Option Value)} {oc kV dc pm cd ct : Value} (d_value_at : ∃ f fd,Dn K "value_at" za7 f fd) (d_inverse : ∃ f fd,Dn K "inverse" zbt f fd) (d_times_root : ∃ f fd,Dn K "times_root" zap f fd) (d_bent : ∃ f fd,Dn K "bent" zcy f fd) (d_through : ∃ f fd,Dn K "through" zbu f fd) (d_heard_points : ∃ f fd,Dn K "heard_points" z0 f fd) (d_without : ∃ f fd,Dn K "without" zaY f fd) (d_first_relation : ∃ f fd,Dn K "first_relation" zO f fd) (d_times_entries : ∃ f fd,Dn K "times_entries" zW f fd) (d_beyond : ∃ f fd,Dn K "beyond" zbn f fd) (d_sized : ∃ f fd,Dn K "sized" zcg f fd) (d_joint_locator : ∃ f fd,Dn K "joint_locator" zF f fd) (d_locator_of : ∃ f fd,Dn K "locator_of" zaI f fd) (d_l_cell : ∃ f fd,Dn K "_law_cell" zbN f fd) (d_l_draws : ∃ f fd,Dn K "_law_draws" zbv f fd) (d_l_code : ∃ f fd,Dn K "_law_code" zbo f fd) (d_l_value : ∃ f fd,Dn K "_law_value" zbw f fd) (d_l_shows : ∃ f fd,Dn K "_law_shows" zbx f fd)
  (al : PySem.W.nsIn K mainGlobals "law" = some (some (.ref fl))) (ll : K.lookup fl = some ⟨oc,od,.func (PySem.W.fnOf "law" "law" (zaN zaZ) (zaF zaZ) (zj zaZ) .none kV dc pm an cd ct),sl⟩) (cl : PySem.W.codeIn K cd "law" = true) (kl : PySem.W.keepIn K (.ref fl) = true) (z_len : PySem.W.nsIn K mainGlobals "len" = some none) (z_range : PySem.W.nsIn K mainGlobals "range" = some none) (z_list : PySem.W.nsIn K mainGlobals "list" = some none) (z_tuple : PySem.W.nsIn K mainGlobals "tuple" = some none) (z_min : PySem.W.nsIn K mainGlobals "min" = some none) (z_zip : PySem.W.nsIn K mainGlobals "zip" = some none) (z_enumerate : PySem.W.nsIn K mainGlobals "enumerate" = some none) (z_reversed : PySem.W.nsIn K mainGlobals "reversed" = some none) :
  ∃ fd : FuncData,(∀ (s : Shared) (v : Value),BindsTo s fd ⟨[v],[]⟩ [("script",v)]) ∧ ∀ base : Heap,K.In base → base.Ns mainGlobals mg → FnOk l.prog w K mg base CX0 7 fa fd ["script"] (zdu K):=by
 cases hfa.symm.trans (PySem.W.mg_of X G al)
 obtain ⟨f_value_at,fd_value_at,D_value_at⟩:=d_value_at
 have b_value_at:=D_value_at.f.binds (ps:=["p","polynomial","x"]) fun _ _ _ _ _ _ us hl => match us,hl with | [_,_,_],_ => rfl
 obtain ⟨f_inverse,fd_inverse,D_inverse⟩:=d_inverse
 have b_inverse:=D_inverse.f.binds (ps:=["p","number"]) fun _ _ _ _ _ _ us hl => match us,hl with | [_,_],_ => rfl
 obtain ⟨f_times_root,fd_times_root,D_times_root⟩:=d_times_root
 have b_times_root:=D_times_root.f.binds (ps:=["p","polynomial","root"]) fun _ _ _ _ _ _ us hl => match us,hl with | [_,_,_],_ => rfl
 obtain ⟨f_bent,fd_bent,D_bent⟩:=d_bent
 have b_bent:=D_bent.f.binds (ps:=["p","polynomial","vanishing","point"]) fun _ _ _ _ _ _ us hl => match us,hl with | [_,_,_,_],_ => rfl
 obtain ⟨f_through,fd_through,D_through⟩:=d_through
 have b_through:=D_through.f.binds (ps:=["p","points"]) fun _ _ _ _ _ _ us hl => match us,hl with | [_,_],_ => rfl
 obtain ⟨f_heard_points,fd_heard_points,D_heard_points⟩:=d_heard_points
 have b_heard_points:=D_heard_points.f.binds (ps:=["code","row"]) fun _ _ _ _ _ _ us hl => match us,hl with | [_,_],_ => rfl
 obtain ⟨f_without,fd_without,D_without⟩:=d_without
 have b_without:=D_without.f.binds (ps:=["p","vector","times","other"]) fun _ _ _ _ _ _ us hl => match us,hl with | [_,_,_,_],_ => rfl
 obtain ⟨f_first_relation,fd_first_relation,D_first_relation⟩:=d_first_relation
 have b_first_relation:=D_first_relation.f.binds (ps:=["p","vectors"]) fun _ _ _ _ _ _ us hl => match us,hl with | [_,_],_ => rfl
 obtain ⟨f_times_entries,fd_times_entries,D_times_entries⟩:=d_times_entries
 have b_times_entries:=D_times_entries.f.binds (ps:=["p","left","points"]) fun _ _ _ _ _ _ us hl => match us,hl with | [_,_,_],_ => rfl
 obtain ⟨f_beyond,fd_beyond,D_beyond⟩:=d_beyond
 have b_beyond:=D_beyond.f.binds (ps:=["rights","many"]) fun _ _ _ _ _ _ us hl => match us,hl with | [_,_],_ => rfl
 obtain ⟨f_sized,fd_sized,D_sized⟩:=d_sized
 have b_sized:=D_sized.f.binds (ps:=["polynomial","many"]) fun _ _ _ _ _ _ us hl => match us,hl with | [_,_],_ => rfl
 obtain ⟨f_joint_locator,fd_joint_locator,D_joint_locator⟩:=d_joint_locator
 have b_joint_locator:=D_joint_locator.f.binds (ps:=["code","rows"]) fun _ _ _ _ _ _ us hl => match us,hl with | [_,_],_ => rfl
 obtain ⟨f_locator_of,fd_locator_of,D_locator_of⟩:=d_locator_of
 have b_locator_of:=D_locator_of.f.binds (ps:=["code","row"]) fun _ _ _ _ _ _ us hl => match us,hl with | [_,_],_ => rfl
 obtain ⟨f_l_cell,fd_l_cell,D_l_cell⟩:=d_l_cell
 have b_l_cell:=D_l_cell.f.binds (ps:=["script","k"]) fun _ _ _ _ _ _ us hl => match us,hl with | [_,_],_ => rfl
 obtain ⟨f_l_draws,fd_l_draws,D_l_draws⟩:=d_l_draws
 have b_l_draws:=D_l_draws.f.binds (ps:=["script","k","many","base"]) fun _ _ _ _ _ _ us hl => match us,hl with | [_,_,_,_],_ => rfl
 obtain ⟨f_l_code,fd_l_code,D_l_code⟩:=d_l_code
 have b_l_code:=D_l_code.f.binds (ps:=["script","at","most_k","most_n"]) fun _ _ _ _ _ _ us hl => match us,hl with | [_,_,_,_],_ => rfl
 obtain ⟨f_l_value,fd_l_value,D_l_value⟩:=d_l_value
 have b_l_value:=D_l_value.f.binds (ps:=["p","polynomial","x"]) fun _ _ _ _ _ _ us hl => match us,hl with | [_,_,_],_ => rfl
 obtain ⟨f_l_shows,fd_l_shows,D_l_shows⟩:=d_l_shows
 have b_l_shows:=D_l_shows.f.binds (ps:=["code","one","row","left","right"]) fun _ _ _ _ _ _ us hl => match us,hl with | [_,_,_,_,_],_ => rfl
 have T : Txt K mg ⟨f_value_at,f_inverse,f_times_root,f_bent,f_through,f_heard_points,f_without,f_first_relation,f_times_entries,f_beyond,f_sized,f_joint_locator,f_locator_of,f_l_cell,f_l_draws,f_l_code,f_l_value,f_l_shows,fa⟩:=⟨PySem.W.mg_none_of X G z_len,PySem.W.mg_none_of X G z_range,PySem.W.mg_none_of X G z_list,PySem.W.mg_none_of X G z_tuple,PySem.W.mg_none_of X G z_min,PySem.W.mg_none_of X G z_zip,PySem.W.mg_none_of X G z_enumerate,PySem.W.mg_none_of X G z_reversed,PySem.W.mg_of X G D_value_at.a,PySem.W.mg_of X G D_inverse.a,PySem.W.mg_of X G D_times_root.a,PySem.W.mg_of X G D_bent.a,PySem.W.mg_of X G D_through.a,PySem.W.mg_of X G D_heard_points.a,PySem.W.mg_of X G D_without.a,PySem.W.mg_of X G D_first_relation.a,PySem.W.mg_of X G D_times_entries.a,PySem.W.mg_of X G D_beyond.a,PySem.W.mg_of X G D_sized.a,PySem.W.mg_of X G D_joint_locator.a,PySem.W.mg_of X G D_locator_of.a,PySem.W.mg_of X G D_l_cell.a,PySem.W.mg_of X G D_l_draws.a,PySem.W.mg_of X G D_l_code.a,PySem.W.mg_of X G D_l_value.a,PySem.W.mg_of X G D_l_shows.a,⟨_,D_value_at.f,b_value_at⟩,⟨_,D_inverse.f,b_inverse⟩,⟨_,D_times_root.f,b_times_root⟩,⟨_,D_bent.f,b_bent⟩,⟨_,D_through.f,b_through⟩,⟨_,D_heard_points.f,b_heard_points⟩,⟨_,D_without.f,b_without⟩,⟨_,D_first_relation.f,b_first_relation⟩,⟨_,D_times_entries.f,b_times_entries⟩,⟨_,D_beyond.f,b_beyond⟩,⟨_,D_sized.f,b_sized⟩,⟨_,D_joint_locator.f,b_joint_locator⟩,⟨_,D_locator_of.f,b_locator_of⟩,⟨_,D_l_cell.f,b_l_cell⟩,⟨_,D_l_draws.f,b_l_draws⟩,⟨_,D_l_code.f,b_l_code⟩,⟨_,D_l_value.f,b_l_value⟩,⟨_,D_l_shows.f,b_l_shows⟩⟩
 have FL:=zfN (st:=zaZ) ll cl kl
 exact ⟨PySem.W.fnOf "law" "law" (zaN zaZ) (zaF zaZ) (zj zaZ) .none kV dc pm an cd ct,fun s v => .of_eq rfl,fun base _ _ => zh6 T FL⟩
theorem walk {l : PySem.W.OpenLaw} {q : Program} {loose : List Str} {XP : (Str → Option Value) → Heap → Prop} {YP : World → Heap → Prop} {d : DefRec} {K : Params → PySem.W.Frag} (hn : l.most = some 63) (hdf : d.params.defaults = []) (hY : ∀ (w : World) (h : Heap),YP w h → (K w.params).In h)
  (F : ∀ (w : World) (mg : Str → Option Value) (fa : Addr) (h : Heap),(K w.params).In h → h.Ns mainGlobals mg → mg d.name = some (.ref fa) → ∃ fd : FuncData,(∀ (s : Shared) (u : Value),BindsTo s fd ⟨[u],[]⟩ [("script",u)]) ∧ ∀ base : Heap,(K w.params).In base → base.Ns mainGlobals mg → FnOk l.prog w (K w.params) mg base CX0 7 fa fd ["script"] (zdu (K w.params))) : PySem.W.WalkO q loose XP YP l.row.toRowW d [] (fun f vs => PySem.call f vs) :=
 L2.zgM (n:=63) (k:=7) (x:="script") (CX:=fun _ => CX0) (sp:=fun w => zdu (K w.params)) hn (by decide) hdf ⟨rfl,by decide,by decide⟩ hY F (fun _ _ a ns hl _ hS => ⟨a,ns,rfl,hS,hl,fun _ => rfl⟩) fun _ _ _ _ _ z => z
end My
open PySem PySem.W
open PyProof.Rows
set_option maxHeartbeats 0 in
theorem PySem.Challenge.cw_slipcurve_k40_whole_locators_show_the_sl_holds : PySem.Challenge.rw_slipcurve_k40_whole_locators_show_the_sl.Holds := by
 w_on; o_law; k_head; (case hw => w_witness2)
 k_fill
 refine My.walk (l:=PySem.Challenge.rw_slipcurve_k40_whole_locators_show_the_sl) rfl rfl (fun w h Y => PySem.W.kIn_of Y) ?F
 case F =>
  intro w mg fa h KX G hmg
  refine' My.zh7 KX G hmg ⟨_,_,My.zar ?a_value_at ?l_value_at ?c_value_at ?k_value_at⟩ ⟨_,_,My.zar ?a_inverse ?l_inverse ?c_inverse ?k_inverse⟩ ⟨_,_,My.zar ?a_times_root ?l_times_root ?c_times_root ?k_times_root⟩ ⟨_,_,My.zar ?a_bent ?l_bent ?c_bent ?k_bent⟩ ⟨_,_,My.zar ?a_through ?l_through ?c_through ?k_through⟩ ⟨_,_,My.zar ?a_heard_points ?l_heard_points ?c_heard_points ?k_heard_points⟩ ⟨_,_,My.zar ?a_without ?l_without ?c_without ?k_without⟩ ⟨_,_,My.zar ?a_first_relation ?l_first_relation ?c_first_relation ?k_first_relation⟩ ⟨_,_,My.zar ?a_times_entries ?l_times_entries ?c_times_entries ?k_times_entries⟩ ⟨_,_,My.zar ?a_beyond ?l_beyond ?c_beyond ?k_beyond⟩ ⟨_,_,My.zar ?a_sized ?l_sized ?c_sized ?k_sized⟩ ⟨_,_,My.zar ?a_joint_locator ?l_joint_locator ?c_joint_locator ?k_joint_locator⟩ ⟨_,_,My.zar ?a_locator_of ?l_locator_of ?c_locator_of ?k_locator_of⟩ ⟨_,_,My.zar ?a_l_cell ?l_l_cell ?c_l_cell ?k_l_cell⟩ ⟨_,_,My.zar ?a_l_draws ?l_l_draws ?c_l_draws ?k_l_draws⟩ ⟨_,_,My.zar ?a_l_code ?l_l_code ?c_l_code ?k_l_code⟩ ⟨_,_,My.zar ?a_l_value ?l_l_value ?c_l_value ?k_l_value⟩ ⟨_,_,My.zar ?a_l_shows ?l_l_shows ?c_l_shows ?k_l_shows⟩ ?al ?ll ?cl ?kl ?z_len ?z_range ?z_list ?z_tuple ?z_min ?z_zip ?z_enumerate ?z_reversed
  (case a_value_at => k_is); (case l_value_at => k_is); (case c_value_at => k_is); (case k_value_at => k_is)
  (case a_inverse => k_is); (case l_inverse => k_is); (case c_inverse => k_is); (case k_inverse => k_is)
  (case a_times_root => k_is); (case l_times_root => k_is); (case c_times_root => k_is); (case k_times_root => k_is)
  (case a_bent => k_is); (case l_bent => k_is); (case c_bent => k_is); (case k_bent => k_is)
  (case a_through => k_is); (case l_through => k_is); (case c_through => k_is); (case k_through => k_is)
  (case a_heard_points => k_is); (case l_heard_points => k_is); (case c_heard_points => k_is); (case k_heard_points => k_is)
  (case a_without => k_is); (case l_without => k_is); (case c_without => k_is); (case k_without => k_is)
  (case a_first_relation => k_is); (case l_first_relation => k_is); (case c_first_relation => k_is); (case k_first_relation => k_is)
  (case a_times_entries => k_is); (case l_times_entries => k_is); (case c_times_entries => k_is); (case k_times_entries => k_is)
  (case a_beyond => k_is); (case l_beyond => k_is); (case c_beyond => k_is); (case k_beyond => k_is)
  (case a_sized => k_is); (case l_sized => k_is); (case c_sized => k_is); (case k_sized => k_is)
  (case a_joint_locator => k_is); (case l_joint_locator => k_is); (case c_joint_locator => k_is); (case k_joint_locator => k_is)
  (case a_locator_of => k_is); (case l_locator_of => k_is); (case c_locator_of => k_is); (case k_locator_of => k_is)
  (case a_l_cell => k_is); (case l_l_cell => k_is); (case c_l_cell => k_is); (case k_l_cell => k_is)
  (case a_l_draws => k_is); (case l_l_draws => k_is); (case c_l_draws => k_is); (case k_l_draws => k_is)
  (case a_l_code => k_is); (case l_l_code => k_is); (case c_l_code => k_is); (case k_l_code => k_is)
  (case a_l_value => k_is); (case l_l_value => k_is); (case c_l_value => k_is); (case k_l_value => k_is)
  (case a_l_shows => k_is); (case l_l_shows => k_is); (case c_l_shows => k_is); (case k_l_shows => k_is)
  (case al => k_is); (case ll => k_is); (case cl => k_is); (case kl => k_is)
  (case z_len => k_is); (case z_range => k_is); (case z_list => k_is); (case z_tuple => k_is); (case z_min => k_is); (case z_zip => k_is); (case z_enumerate => k_is); (case z_reversed => k_is)
#print axioms PySem.Challenge.cw_slipcurve_k40_whole_locators_show_the_sl_holds
end